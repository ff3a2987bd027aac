package syntax

import (
	"tarn/api"
	"tarn/fault"
)

// Read reads the text of a module.
func Read(text string) (Module, error) {
	if len(text) > api.MaxText {
		return Module{}, fault.At(fault.Long, 0)
	}
	p := parser{words: cut(text)}
	m, err := p.module()
	if err == nil {
		err = lookUp(m)
	}
	if err != nil {
		return Module{}, err
	}
	return m, nil
}

// parser goes through the words of a text, from the front: the first fault
// that it meets is the one to tell.
type parser struct {
	words   []word // those ahead; the end is the last one
	globals Names  // of the imports and defs so far
	nest    int    // how many brackets of Exprs are open
}

func (p *parser) peek() word { return p.words[0] }

func (p *parser) skip() { p.words = p.words[1:] }

// wrong is a fault of the word that is next.
func (p *parser) wrong(kind error) error { return fault.At(kind, p.peek().at) }

// expect goes past words that must stand here.
func (p *parser) expect(texts ...string) error {
	for _, s := range texts {
		if p.peek().text != s {
			return p.wrong(fault.Syntax)
		}
		p.skip()
	}
	return nil
}

// newName reads a name that none of the others may be.
func (p *parser) newName(others Names) (Name, error) {
	w := p.peek()
	if !isName(w.text) {
		return Name{}, p.wrong(fault.Syntax)
	}
	if others.Has(w.text) {
		return Name{}, p.wrong(fault.Twice)
	}
	p.skip()
	return Name{w.text, w.at}, nil
}

// names reads names in brackets, no two of them the same.
func (p *parser) names() (Names, error) {
	if err := p.expect("("); err != nil {
		return nil, err
	}
	var l Names
	for p.peek().text != ")" {
		n, err := p.newName(l)
		if err != nil {
			return nil, err
		}
		l = append(l, n)
	}
	return l, p.expect(")")
}

// upTo reads a tag or an arity.
func (p *parser) upTo(most int) (int, error) {
	x, ok := upTo(p.peek().text, most)
	if !ok {
		return 0, p.wrong(fault.Syntax)
	}
	p.skip()
	return x, nil
}

func (p *parser) module() (Module, error) {
	var m Module
	if err := p.expect("(", "module"); err != nil {
		return m, err
	}
	name, err := p.newName(nil)
	if err != nil {
		return m, err
	}
	m.Name = name.Text
	for p.peek().text == "(" {
		p.skip()
		if err := p.global(&m); err != nil {
			return m, err
		}
	}
	return m, p.expect(")", end)
}

// global reads an import or a def, behind its bracket; behind a def no import may stand.
func (p *parser) global(m *Module) error {
	if p.peek().text == "import" && len(m.Defs) == 0 {
		p.skip()
		return p.importTo(m)
	}
	if err := p.expect("def"); err != nil {
		return err
	}
	return p.defTo(m)
}

// globalName reads the name of an import or def.
func (p *parser) globalName() (Name, error) {
	n, err := p.newName(p.globals)
	p.globals = append(p.globals, n)
	return n, err
}

func (p *parser) importTo(m *Module) error {
	name, err := p.globalName()
	if err != nil {
		return err
	}
	arity, err := p.upTo(api.MaxArity)
	if err != nil {
		return err
	}
	m.Imports = append(m.Imports, Import{name, arity})
	return p.expect(")")
}

func (p *parser) defTo(m *Module) error {
	name, err := p.globalName()
	if err != nil {
		return err
	}
	params, err := p.names()
	if err != nil {
		return err
	}
	body, err := p.expr()
	if err != nil {
		return err
	}
	m.Defs = append(m.Defs, Def{name, params, body})
	return p.expect(")")
}

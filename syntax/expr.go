package syntax

import (
	"tarn/api"
	"tarn/fault"
	"tarn/object"
)

func (p *parser) expr() (Expr, error) {
	s, at := p.peek().text, p.peek().at
	if s == "(" {
		return p.bracket()
	}
	x, isNumber := number(s)
	if !isNumber && !isName(s) {
		return nil, p.wrong(fault.Syntax)
	}
	p.skip()
	if isNumber {
		return Number{x}, nil
	}
	return Name{s, at}, nil
}

// bracket reads an Expr that stands in brackets.
func (p *parser) bracket() (Expr, error) {
	if p.nest == api.MaxNest {
		return nil, p.wrong(fault.Deep)
	}
	p.nest++
	p.skip()
	e, err := p.inside()
	if err != nil {
		return nil, err
	}
	p.nest--
	return e, p.expect(")")
}

// inside reads what stands in an Expr's brackets.
func (p *parser) inside() (Expr, error) {
	head := p.peek().text
	op, isOp := opOf(head)
	switch {
	case isOp:
		p.skip()
		return p.op(op)
	case head == "let" || head == "letrec":
		p.skip()
		return p.let(head == "letrec")
	case head == "con":
		p.skip()
		return p.con()
	case head == "case":
		p.skip()
		return p.caseOf()
	}
	return p.call()
}

func (p *parser) op(op int) (Expr, error) {
	left, err := p.expr()
	if err != nil {
		return nil, err
	}
	right, err := p.expr()
	return Op{op, left, right}, err
}

func (p *parser) call() (Expr, error) {
	f, err := p.expr()
	if err != nil {
		return nil, err
	}
	c := Call{Func: f}
	for len(c.Args) == 0 || p.peek().text != ")" {
		e, err := p.expr()
		if err != nil {
			return nil, err
		}
		c.Args = append(c.Args, e)
	}
	return c, nil
}

func (p *parser) let(rec bool) (Expr, error) {
	l := Let{Rec: rec}
	if err := p.expect("("); err != nil {
		return nil, err
	}
	for len(l.Names) == 0 || p.peek().text != ")" {
		if err := p.bind(&l); err != nil {
			return nil, err
		}
	}
	p.skip()
	body, err := p.expr()
	l.Body = body
	return l, err
}

// bind reads one of the names of a let, and what it stands for.
func (p *parser) bind(l *Let) error {
	if err := p.expect("("); err != nil {
		return err
	}
	n, err := p.newName(l.Names)
	if err != nil {
		return err
	}
	e, err := p.expr()
	if err != nil {
		return err
	}
	l.Names, l.Exprs = append(l.Names, n), append(l.Exprs, e)
	return p.expect(")")
}

func (p *parser) con() (Expr, error) {
	tag, err := p.upTo(object.MaxTag)
	if err != nil {
		return nil, err
	}
	c := Con{Tag: tag}
	for p.peek().text != ")" {
		if len(c.Fields) == api.MaxArity {
			return nil, p.wrong(fault.Deep)
		}
		e, err := p.expr()
		if err != nil {
			return nil, err
		}
		c.Fields = append(c.Fields, e)
	}
	return c, nil
}

func (p *parser) caseOf() (Expr, error) {
	e, err := p.expr()
	if err != nil {
		return nil, err
	}
	c := Case{Expr: e}
	var seen [object.MaxTag + 1]bool
	for len(c.Branches) == 0 || p.peek().text != ")" {
		b, err := p.branch(&seen)
		if err != nil {
			return nil, err
		}
		c.Branches = append(c.Branches, b)
	}
	return c, nil
}

// branch reads a branch of a case that has seen these tags already.
func (p *parser) branch(seen *[object.MaxTag + 1]bool) (Branch, error) {
	if err := p.expect("("); err != nil {
		return Branch{}, err
	}
	at := p.peek().at
	tag, err := p.upTo(object.MaxTag)
	if err != nil {
		return Branch{}, err
	}
	if seen[tag] {
		return Branch{}, fault.At(fault.Twice, at)
	}
	seen[tag] = true
	names, err := p.names()
	if err != nil {
		return Branch{}, err
	}
	body, err := p.expr()
	if err != nil {
		return Branch{}, err
	}
	return Branch{tag, names, body}, p.expect(")")
}

import Derived.Test.YtlanckgcjijefaaGreatDoorPxBJ
set_option maxRecDepth 100000
set_option maxHeartbeats 8000000
namespace Go.Proofs.YtlanckgcjijefaaGreatDoor
open Go.RowKit Go.Sort
abbrev PT:=Value×Ex×List Nat
abbrev BT:=Nat×Value×Nms×PT
def ptC(x:PT):List Value:=[x.1]
def ptS(x:PT):List Nat:=x.2.2
def brC(x:BT):List Value:=[.int .i64 (x.1:Int),x.2.1,x.2.2.2.1]
def btS(x:BT):List Nat:=vB x.2.1++x.2.2.2.2.2
abbrev RowE(ok:World->PT->Prop)(w:World)(lo:Nat)(v:Value)(xs:List PT):Prop:=RowS ptC ptS ok 102 1 w lo v xs
abbrev RowBr(ok:World->BT->Prop)(w:World)(lo:Nat)(v:Value)(xs:List BT):Prop:=RowS brC btS ok 197 3 w lo v xs
section
variable (ok:World->PT->Prop)
def okBr(w:World)(x:BT):Prop:=NmsO w 0 x.2.1 x.2.2.1∧ok w x.2.2.2
def PXN(w:World)(v:Value)(e:Ex)(bs:List Nat):Prop:=match e with
 |.num n=>v=.iface 170 (.agg #[.int .i64 n])∧bs=[]
 |.name _ t pl=>v=.iface 91 (.agg #[.string t,.int .i64 (pl:Int)])∧bs=[]
 |.op k l r=>∃lv lb rv rb,v=.iface 184 (.agg #[.int .i64 (9+(k:Int)),lv,rv])∧ok w (lv,l,lb)∧ok w (rv,r,rb)∧bs=lb++rb
 |.call parts=>∃f args fv fb av xs,parts=f::args∧v=.iface 202 (.agg #[fv,av])∧ok w (fv,f,fb)∧RowE ok w 0 av xs∧xs.map (λx:PT=>x.2.1)=args∧bs=fb++rowB ptS av xs
 |.lets r ns es body=>∃nv ev xs bv bb,v=.iface 187 (.agg #[.bool r,nv,ev,bv])∧NmsO w 0 nv ns∧RowE ok w 0 ev xs∧xs.map (λx:PT=>x.2.1)=es∧ok w (bv,body,bb)∧bs=vB nv++(rowB ptS ev xs++bb)
 |.con tag fs=>∃fv xs,v=.iface 191 (.agg #[.int .i64 (tag:Int),fv])∧RowE ok w 0 fv xs∧xs.map (λx:PT=>x.2.1)=fs∧bs=rowB ptS fv xs
 |.case e brs=>∃ev eb bv ys,v=.iface 194 (.agg #[ev,bv])∧ok w (ev,e,eb)∧RowBr (okBr ok) w 0 bv ys∧ys.map (λy:BT=>(y.1,y.2.2.1,y.2.2.2.2.1))=brs∧bs=eb++rowB btS bv ys
end
def PX:Nat->World->PT->Prop
 |0,_,_=>False
 |d+1,w,x=>PXN (PX d) w x.1 x.2.1 x.2.2
theorem NmsO.fr{w w':World}{lo:Nat}{v:Value}{l:Nms}(h:NmsO w lo v l)(hz:w.heap.size<=w'.heap.size)(hf:Fr (vB v) w w'):NmsO w' lo v l:=RowS.fr okW h hz (hf.sub λb hb=>by
 rcases List.mem_append.1 hb with h1|h1
 ·exact h1
 ·simp at h1)
theorem okFr_br{ok:World->PT->Prop}(hok:OkFr ptS ok):OkFr btS (okBr ok):=by
 intro w w' x h hz hf;exact⟨h.1.fr hz (hf.sub λb hb=>List.mem_append_left _ hb),hok w w' _ h.2 hz (hf.sub λb hb=>List.mem_append_right _ hb)⟩
theorem PXN.fr{ok:World->PT->Prop}(hok:OkFr ptS ok){w w':World}{v:Value}{e:Ex}{bs:List Nat}(h:PXN ok w v e bs)(hz:w.heap.size<=w'.heap.size)(hf:Fr bs w w'):PXN ok w' v e bs:=by
 cases e with
 |num n=>exact h
 |name g t pl=>exact h
 |op k l r=>
  obtain⟨lv,lb,rv,rb,h1,h2,h3,rfl⟩:=h;exact⟨lv,lb,rv,rb,h1,hok w w' _ h2 hz (hf.sub λb hb=>List.mem_append_left _ hb),hok w w' _ h3 hz (hf.sub λb hb=>List.mem_append_right _ hb),rfl⟩
 |call parts=>
  obtain⟨f,args,fv,fb,av,xs,h1,h2,h3,h4,h5,rfl⟩:=h;exact⟨f,args,fv,fb,av,xs,h1,h2,hok w w' _ h3 hz (hf.sub λb hb=>List.mem_append_left _ hb),h4.fr hok hz (hf.sub λb hb=>List.mem_append_right _ hb),h5,rfl⟩
 |lets r ns es body=>
  obtain⟨nv,ev,xs,bv,bb,h1,h2,h3,h4,h5,rfl⟩:=h;exact⟨nv,ev,xs,bv,bb,h1,h2.fr hz (hf.sub λb hb=>List.mem_append_left _ hb),h3.fr hok hz (hf.sub λb hb=>List.mem_append_right _ (List.mem_append_left _ hb)),h4,hok w w' _ h5 hz (hf.sub λb hb=>List.mem_append_right _ (List.mem_append_right _ hb)),rfl⟩
 |con tag fs=>
  obtain⟨fv,xs,h1,h2,h3,rfl⟩:=h;exact⟨fv,xs,h1,h2.fr hok hz hf,h3,rfl⟩
 |case e brs=>
  obtain⟨ev,eb,bv,ys,h1,h2,h3,h4,rfl⟩:=h;exact⟨ev,eb,bv,ys,h1,hok w w' _ h2 hz (hf.sub λb hb=>List.mem_append_left _ hb),h3.fr (okFr_br hok) hz (hf.sub λb hb=>List.mem_append_right _ hb),h4,rfl⟩
theorem okPX:∀d,OkFr ptS (PX d)
 |0=>λ_ _ _ h=>h.elim
 |d+1=>λ_ _ _ h hz hf=>PXN.fr (okPX d) h hz hf
theorem PX.if_:∀{d:Nat} {w:World} {v:Value} {e:Ex} {bs:List Nat},PX d w (v,e,bs)->∃t x,v=.iface t x
 |0,_,_,_,_,h=>h.elim
 |d+1,w,v,e,bs,h=>by
  cases e with
  |num n=>exact⟨_,_,h.1⟩
  |name g t pl=>exact⟨_,_,h.1⟩
  |op k l r=>obtain⟨lv,lb,rv,rb,h1,-⟩:=h;exact⟨_,_,h1⟩
  |call parts=>obtain⟨f,args,fv,fb,av,xs,-,h2,-⟩:=h;exact⟨_,_,h2⟩
  |lets r ns es body=>obtain⟨nv,ev,xs,bv,bb,h1,-⟩:=h;exact⟨_,_,h1⟩
  |con tag fs=>obtain⟨fv,xs,h1,-⟩:=h;exact⟨_,_,h1⟩
  |case e brs=>obtain⟨ev,eb,bv,ys,h1,-⟩:=h;exact⟨_,_,h1⟩
def NewB(lo:Nat)(w:World)(bs:List Nat):Prop:=bs.Nodup∧∀b∈bs,lo<=b∧b<w.heap.size
theorem NewB.nil(lo:Nat)(w:World):NewB lo w []:=⟨List.nodup_nil,λb hb=>by cases hb⟩
theorem NewB.up{lo:Nat}{w w':World}{bs:List Nat}(h:NewB lo w bs)(hz:w.heap.size<=w'.heap.size):NewB lo w' bs:=⟨h.1,λb hb=>⟨(h.2 b hb).1,Nat.lt_of_lt_of_le (h.2 b hb).2 hz⟩⟩
theorem NewB.low{lo lo':Nat}{w:World}{bs:List Nat}(h:NewB lo w bs)(hz:lo'<=lo):NewB lo' w bs:=⟨h.1,λb hb=>⟨Nat.le_trans hz (h.2 b hb).1,(h.2 b hb).2⟩⟩
theorem NewB.fr{lo P:Nat}{w w':World}{bs:List Nat}(h:NewB lo w bs)(hE:EF P w w')(hP:P<lo):Fr bs w w':=λb hb=>hE.block b (h.2 b hb).2 (by have:=(h.2 b hb).1;omega)
theorem NewB.app{lo:Nat}{w w':World}{cs bs:List Nat}(h:NewB lo w cs)(k:NewB w.heap.size w' bs)(hlo:lo<=w.heap.size)(hz:w.heap.size<=w'.heap.size):NewB lo w' (cs++bs):=by
 refine⟨List.nodup_append.2 ⟨h.1,k.1,λa ha b hb e=>?_⟩,λb hb=>?_⟩
 ·have h1:=(h.2 a ha).2;have h2:=(k.2 b hb).1;omega
 ·rcases List.mem_append.1 hb with h1|h1
  ·exact⟨(h.2 b h1).1,Nat.lt_of_lt_of_le (h.2 b h1).2 hz⟩
  ·exact⟨Nat.le_trans hlo (k.2 b h1).1,(k.2 b h1).2⟩
def IfV(v:Value):Prop:=v=.nilIface∨∃t x,v=.iface t x
def XRes{α:Type}(r:Pr α)(P:Nat)(w:World)(adr:Nat->Addr)(V:α->Nat->Value->World->Prop)(e:Ending)(w':World):Prop:=EF P w w'∧match r with
 |.ok (a,q)=>∃v,e=.returned (.tuple #[v,.nilIface])∧V a q v w'
 |.error (c,k)=>∃v,e=.returned (.tuple #[v,pE' adr (kIx c) k])∧IfV v
theorem XRes.ok{α:Type}{r:Pr α}{P:Nat}{w w':World}{adr:Nat->Addr}{V:α->Nat->Value->World->Prop}{a:α}{q:Nat}{v:Value}(h:r=.ok (a,q))(hE:EF P w w')(hv:V a q v w'):XRes r P w adr V (.returned (.tuple #[v,.nilIface])) w':=⟨hE,by rw[h];exact⟨v,rfl,hv⟩⟩
theorem XRes.bad{α:Type}{r:Pr α}{P:Nat}{w w':World}{adr:Nat->Addr}{V:α->Nat->Value->World->Prop}{c k:Nat}{v x:Value}(h:r=.error (c,k))(hE:EF P w w')(hx:x=pE' adr (kIx c) k)(hv:IfV v):XRes r P w adr V (.returned (.tuple #[v,x])) w':=⟨hE,by rw[h,hx];exact⟨v,rfl,hv⟩⟩
theorem XRes.isErr{α:Type}{r:Pr α}{P:Nat}{w w':World}{adr:Nat->Addr}{V:α->Nat->Value->World->Prop}{e:Ending}{c a:Nat}(h:XRes r P w adr V e w')(hr:r=.error (c,a)):∃v,e=.returned (.tuple #[v,.iface 66 (pEb adr (kIx c) a)])∧EF P w w'∧IfV v:=by
 subst hr;obtain⟨v,hv,hi⟩:=h.2;exact⟨v,hv,h.1,hi⟩
theorem XRes.isOk{α:Type}{r:Pr α}{P:Nat}{w w':World}{adr:Nat->Addr}{V:α->Nat->Value->World->Prop}{e:Ending}{x:α}{q:Nat}(h:XRes r P w adr V e w')(hr:r=.ok (x,q)):∃v,e=.returned (.tuple #[v,.nilIface])∧EF P w w'∧V x q v w':=by
 subst hr;obtain⟨v,hv,hV⟩:=h.2;exact⟨v,hv,h.1,hV⟩
def XV(d:Nat)(s:ByteArray)(P W:Nat)(gv:Value)(nest:Nat)(w:World)(x:Ex)(q:Nat)(v:Value)(w':World):Prop:=q<=s.size∧PS w' P W s q gv nest∧∃bs,PX d w' (v,x,bs)∧NewB w.heap.size w' bs
def PExprC(B:World)(P W:Nat)(adr:Nat->Addr)(s:ByteArray)(gv:Value)(d nest:Nat):Prop:=∀(w:World) (p:Nat),PB B w P adr->PS w P W s p gv nest->p<=s.size->
 Calls Tryz.prog 69 #[.pointer (some ⟨P,0,none⟩)] w λe w'=>XRes (pE s d p) P w adr (XV (d+1) s P W gv nest w) e w'
theorem word_whole{t:ByteArray}(h:wordB t=true):wholeP t=none:=by
 unfold wordB at h;simp only[Bool.and_eq_true,decide_eq_true_eq]at h;obtain⟨⟨⟨h1,-⟩,h2⟩,-⟩:=h;rw[chk_step h2]at h1;simp only[ne_eq,not_true_eq_false,decide_false,Bool.false_and,Bool.or_false,Bool.and_eq_true]at h1;have h3:97<=t[0].toNat:=by
  have:=h1.1;simp only[lowN,Bool.and_eq_true,decide_eq_true_eq]at this;exact this.1
 have hn:negB t=false:=by
  unfold negB;rw[getElem?_pos t 0 h2];simp only[decide_eq_false_iff_not];omega
 have ha:absP t=t:=by unfold absP;rw[if_neg (by simp[hn])]
 refine whole_bad (Or.inl ?_);rw[ha];unfold numB;have hl:0<t.data.toList.length:=by simpa using h2
 have e:t.data.toList=t[0]::t.data.toList.drop 1:=by
  have:=List.drop_eq_getElem_cons hl;rw[List.drop_zero]at this;exact this
 have hd:digsL t.data.toList=false:=by
  rw[e];unfold digsL;rw[List.all_cons];have:digN t[0].toNat=false:=by
   unfold digN;rw[Bool.and_eq_false_iff];exact Or.inr (decide_eq_false (by omega))
  rw[this];rfl
 rw[hd,Bool.and_false]
theorem atom_num{s:ByteArray}{p:Nat}{v:Int}(h:wholeP (tokT s p)=some v):pAtom s p=.ok (.num v,nxt s p):=by
 have hw:wordB (tokT s p)=false:=by
  cases hw:wordB (tokT s p) with
  |false=>rfl
  |true=>rw[word_whole hw]at h;cases h
 unfold pAtom;rw[if_neg (by simp[hw]),h]
theorem atom_name{s:ByteArray}{p:Nat}(h:wordB (tokT s p)=true):pAtom s p=.ok (.name false (tokT s p) (tokA s p),nxt s p):=by unfold pAtom;rw[if_pos h]
theorem atom_bad{s:ByteArray}{p:Nat}(h:wordB (tokT s p)=false)(h2:wholeP (tokT s p)=none):pAtom s p=.error (2,tokA s p):=by unfold pAtom;rw[if_neg (by simp[h]),h2]
theorem whole_ne{t:ByteArray}{v:Int}(h:wholeP t=some v):t≠⟨#[]⟩:=λe=>by rw[e,wholeP_empty]at h;cases h
theorem XRes.two{α:Type}{r:Pr α}{P:Nat}{w w':World}{adr:Nat->Addr}{V:α->Nat->Value->World->Prop}{e:Ending}(h:XRes r P w adr V e w'):∃a b,e=.returned (.tuple #[a,b]):=by
 match r,h with
 |.error (c,k),h=>obtain⟨v,hv,-⟩:=h.2;exact⟨_,_,hv⟩
 |.ok (a,q),h=>obtain⟨v,hv,-⟩:=h.2;exact⟨_,_,hv⟩
theorem XRes.rebase{r:Pr Ex}{P W d nest:Nat}{s:ByteArray}{gv:Value}{w w1 w':World}{adr:Nat->Addr}{e:Ending}(h:XRes r P w1 adr (XV d s P W gv nest w1) e w')(hE:EF P w w1):XRes r P w adr (XV d s P W gv nest w) e w':=by
 refine⟨hE.trans h.1,?_⟩;match r,h with
 |.error (c,k),h=>exact h.2
 |.ok (a,q),h=>
  obtain⟨v,hv,h1,h2,bs,h3,h4⟩:=h.2;exact⟨v,hv,h1,h2,bs,h3,h4.low hE.size⟩
def BrackC(B:World)(P W:Nat)(adr:Nat->Addr)(s:ByteArray)(gv:Value)(d nest:Nat):Prop:=∀(w:World) (p:Nat),PB B w P adr->PS w P W s p gv nest->p<=s.size->tokT s p=tOpen->
 Calls Tryz.prog 80 #[.pointer (some ⟨P,0,none⟩)] w λe w'=>XRes (pE s d p) P w adr (XV (d+1) s P W gv nest w) e w'
theorem pE_atom{s:ByteArray}{p:Nat}(h:¬tokT s p=tOpen):∀d,pE s d p=pAtom s p
 |0=>by rw[pE];exact if_neg h
 |d+1=>by rw[pE];exact if_neg h
theorem expr_at{B:World}{P W:Nat}{adr:Nat->Addr}{s:ByteArray}{gv:Value}{d nest:Nat}(hs:s.size<=2000)(w:World)(p:Nat)(hK:tokT s p=tOpen->∀w1,PB B w1 P adr->PS w1 P W s p gv nest->Calls Tryz.prog 80 #[.pointer (some ⟨P,0,none⟩)] w1 λe w'=>XRes (pE s d p) P w1 adr (XV (d+1) s P W gv nest w1) e w')(hB:PB B w P adr)(h:PS w P W s p gv nest)(hp:p<=s.size):
 Calls Tryz.prog 69 #[.pointer (some ⟨P,0,none⟩)] w λe w'=>XRes (pE s d p) P w adr (XV (d+1) s P W gv nest w) e w':=by
 have HP:=hid (λw1 (hb:Below w.heap.size w w1)=>peek_any (h.below hb) hp);have HS:=hid h;have HSY:=hid hB.sy;have hz:=tokT_small hp hs;have F0:=fldW0;have F1:=fldW1;have HB0:=hid (Below.refl w.heap.size w);by_cases ho:tokT s p=tOpen
 ·have HKK:=hid (λw1 (hb:Below w.heap.size w w1)=>hK ho w1 (hB.ef (EF.of_below hb)) (h.below hb));have b1:=lit_t tOpen_l ho;clear h hB ho;go_enter Tryz.func69,Tryz.ntmps69;go_wp2_with (first
   |(go_at_call 33;refine(HP.out _ HB0.out).mono ?_;rintro e w1 ⟨rfl,hb1⟩;replace HB0:=hid (HB0.out.trans (hb1.mono HB0.out.size));clear hb1)
   |(go_at_call 80;refine(HKK.out _ HB0.out).mono ?_;intro e w2 hr;have HR:=hid (hr.rebase (EF.of_below HB0.out));obtain⟨ra,rb,rfl⟩:=hr.two;clear hr))
  go_ret2
  exact HR.out
 ·have b1:=lit_f tOpen_l ho;have HA:=hid (pE_atom ho d);clear h hB ho;cases hw:wholeP (tokT s p) with
  |some v=>
   have HT:=hid (HA.out.trans (atom_num hw));have HNE:=hid (whole_ne hw);have HW:=hid hw;clear hw;go_enter Tryz.func69,Tryz.ntmps69;go_wp2_with (first
    |(go_at_call 33;refine(HP.out _ HB0.out).mono ?_;rintro e w1 ⟨rfl,hb1⟩;replace HB0:=hid (HB0.out.trans (hb1.mono HB0.out.size));clear hb1)
    |(go_at_call 81;refine(pnumber_any _ hz (HSY.out.keep HB0.out)).mono ?_;rintro e w3 ⟨hb3,n,rfl,hn⟩;obtain rfl:=hn v HW.out;replace HB0:=hid (HB0.out.trans (hb3.mono HB0.out.size));clear hb3 hn;rw[HW.out];simp only[Option.isSome_some])
    |(go_at_call 34;refine(skip_any (HS.out.below HB0.out) hp).mono ?_;rintro e w4 ⟨rfl,hE4,hP4⟩;have HE4:=hid ((EF.of_below (E:=P) HB0.out).trans hE4);have HP4:=hid (hP4 HNE.out);clear hE4 hP4))
   go_ret2
   exact XRes.ok HT.out HE4.out ⟨nxt_le hp,HP4.out,[],⟨rfl,rfl⟩,NewB.nil _ _⟩
  |none=>
   have HW:=hid hw;cases hn:wordB (tokT s p) with
   |true=>
    have HT:=hid (HA.out.trans (atom_name hn));have HNE:=hid (word_ne hn);have HN:=hid hn;clear hw hn;go_enter Tryz.func69,Tryz.ntmps69;go_wp2_with (first
     |(go_at_call 33;refine(HP.out _ HB0.out).mono ?_;rintro e w1 ⟨rfl,hb1⟩;replace HB0:=hid (HB0.out.trans (hb1.mono HB0.out.size));clear hb1)
     |(go_at_call 81;refine(pnumber_any _ hz (HSY.out.keep HB0.out)).mono ?_;rintro e w3 ⟨hb3,n,rfl,-⟩;replace HB0:=hid (HB0.out.trans (hb3.mono HB0.out.size));clear hb3;rw[HW.out];simp only[Option.isSome_none])
     |(go_at_call 51;refine(synName_any _ _ hz).mono ?_;rintro e w' ⟨rfl,rfl⟩;rw[HN.out])
     |(go_at_call 34;refine(skip_any (HS.out.below HB0.out) hp).mono ?_;rintro e w4 ⟨rfl,hE4,hP4⟩;have HE4:=hid ((EF.of_below (E:=P) HB0.out).trans hE4);have HP4:=hid (hP4 HNE.out);clear hE4 hP4))
    go_ret2
    exact XRes.ok HT.out HE4.out ⟨nxt_le hp,HP4.out,[],⟨rfl,rfl⟩,NewB.nil _ _⟩
   |false=>
    have HT:=hid (HA.out.trans (atom_bad hn hw));have HN:=hid hn;clear hw hn;go_enter Tryz.func69,Tryz.ntmps69;go_wp2_with (first
     |(go_at_call 33;refine(HP.out _ HB0.out).mono ?_;rintro e w1 ⟨rfl,hb1⟩;replace HB0:=hid (HB0.out.trans (hb1.mono HB0.out.size));clear hb1)
     |(go_at_call 81;refine(pnumber_any _ hz (HSY.out.keep HB0.out)).mono ?_;rintro e w3 ⟨hb3,n,rfl,-⟩;replace HB0:=hid (HB0.out.trans (hb3.mono HB0.out.size));clear hb3;rw[HW.out];simp only[Option.isSome_none])
     |(go_at_call 51;refine(synName_any _ _ hz).mono ?_;rintro e w' ⟨rfl,rfl⟩;rw[HN.out];have sy1:=(HSY.out.keep HB0.out).sy)
     |(go_at_call 50;refine(pwrong_any adr 12 (HS.out.below HB0.out) hp).mono ?_;rintro e w5 ⟨rfl,hb5⟩;replace HB0:=hid (HB0.out.trans (hb5.mono HB0.out.size));clear hb5))
    go_ret2
    exact XRes.bad HT.out (EF.of_below HB0.out) rfl (Or.inl rfl)
theorem expr_of{B:World}{P W:Nat}{adr:Nat->Addr}{s:ByteArray}{gv:Value}{d nest:Nat}(hs:s.size<=2000)(hK:BrackC B P W adr s gv d nest):PExprC B P W adr s gv d nest:=λw p hB h hp=>expr_at hs w p (λho w1 h1 h2=>hK w1 p h1 h2 hp ho) hB h hp
def FormC(F:Nat)(B:World)(P W:Nat)(adr:Nat->Addr)(s:ByteArray)(gv:Value)(d nest:Nat)(r:Nat->Pr Ex)(more:Array Value):Prop:=∀(w:World) (p:Nat),PB B w P adr->PS w P W s p gv nest->p<=s.size->
 Calls Tryz.prog F (#[.pointer (some ⟨P,0,none⟩)]++more) w λe w'=>XRes (r p) P w adr (XV (d+2) s P W gv nest w) e w'
theorem pE_open{s:ByteArray}{p d:Nat}(h:tokT s p=tOpen):pE s (d+1) p=pb (pForm s (pE s d) (nxt s p)) λe q=>pb (pWant s tClose q) λ_ q2=>.ok (e,q2):=by rw[pE];exact if_pos h
theorem pE_deep{s:ByteArray}{p:Nat}(h:tokT s p=tOpen):pE s 0 p=.error (3,tokA s p):=by rw[pE];exact if_pos h
theorem tOpen_ne:tOpen≠⟨#[]⟩:=by decide
theorem expect1N{B w:World}{P W:Nat}{adr:Nat->Addr}{s:ByteArray}{p nest:Nat}{gv:Value}(t:ByteArray)(N:Nat)(hN:w.heap.size=N)(hB:PB B w P adr)(h:PS w P W s p gv nest)(hp:p<=s.size)(ht:t≠⟨#[]⟩):
 Calls Tryz.prog 31 #[.pointer (some ⟨P,0,none⟩),.slice (some ⟨N,0,none⟩) 1 1] (w.alloc (.cells #[.string t] 9)) λe w'=>ERes (pWant s t p) P w adr (λq w'=>q<=s.size∧PS w' P W s q gv nest) e w':=by
 subst hN;exact expect1_any t hB h hp ht
theorem bracket_zero{B:World}{P W:Nat}{adr:Nat->Addr}{s:ByteArray}{gv:Value}:BrackC B P W adr s gv 0 30:=by
 intro w p hB h hp ho;have HT:=hid (pE_deep ho);have HW:=hid (pwrong_any adr 13 h hp);have dp:=hB.sy.dp;have c2:=h.c2;clear hB h ho;go_enter Tryz.func80,Tryz.ntmps80;go_wp2_with (first
  |(go_at_call 50;refine HW.out.mono ?_;rintro e w5 ⟨rfl,hb5⟩))
 go_ret2
 exact XRes.bad HT.out (EF.of_below hb5) rfl (Or.inl rfl)
theorem bracket_succ{B:World}{P W:Nat}{adr:Nat->Addr}{s:ByteArray}{gv:Value}{d nest:Nat}(hn:nest<30)(hI:FormC 83 B P W adr s gv d (nest+1) (pForm s (pE s d)) #[]):BrackC B P W adr s gv (d+1) nest:=by
 intro w p hB h hp ho;have HT:=hid (pE_open (d:=d) ho);have c2:=h.c2;have f2:=h.f 2 (by omega);have hPl:=h.lt;have j0:((nest:Int)==30)=false:=by rw[beq_eq_false_iff_ne];omega
 have j1:(0:Int)<=(nest:Int):=by omega
 have j2:(nest:Int)<30:=by omega
 have HB:=hid hB;have HN0:Hid (PS (w.setCell ⟨P,2,none⟩ (.int .i64 ((nest:Int)+1))) P W s p gv (nest+1)):=by
  have:=h.setNest (nest+1);rw[show(((nest+1:Nat):Int))=(nest:Int)+1 by omega]at this;exact this
 have HE0:Hid (EF P w (w.setCell ⟨P,2,none⟩ (.int .i64 ((nest:Int)+1)))):=(EF.refl _ _).set _;have HSK:=hid (skip_any HN0.out hp);have HNE:Hid (tokT s p≠⟨#[]⟩):=by show _≠_;rw[ho];exact tOpen_ne
 have hnx:=nxt_le hp;clear hB h ho;match hf:pForm s (pE s d) (nxt s p) with
 |.error (c,a)=>
  have HTE:Hid (pE s (d+1) p=.error (c,a)):=by show _=_;rw[HT.out,hf,pb_err]
  have HF:=hid hf;clear hf;go_enter Tryz.func80,Tryz.ntmps80;go_wp2_with (first
   |(go_at_call 34;refine HSK.out.mono ?_;rintro e w1 ⟨rfl,hE1,hP1⟩;have HE1:=hid (HE0.out.trans hE1);have HP1:=hid (hP1 HNE.out);clear hE1 hP1)
   |(go_at_call 83;refine(hI _ _ (HB.out.ef HE1.out) HP1.out hnx).mono ?_;intro e w2 hr;obtain⟨v,rfl,hE2,-⟩:=hr.isErr HF.out;have HE2:=hid (HE1.out.trans hE2);clear hr hE2))
  go_ret2
  exact XRes.bad HTE.out HE2.out rfl (Or.inl rfl)
 |.ok (x,q)=>
  have HF:=hid hf;have HTE:Hid (pE s (d+1) p=pb (pWant s tClose q) λ_ q2=>.ok (x,q2)):=by show _=_;rw[HT.out,hf,pb_ok]
  clear hf;match hc:pWant s tClose q with
  |.error (c,a)=>
   have HTF:Hid (pE s (d+1) p=.error (c,a)):=by show _=_;rw[HTE.out,hc,pb_err]
   have HC:=hid hc;clear hc;go_enter Tryz.func80,Tryz.ntmps80;go_wp2_with (first
    |(go_at_call 34;refine HSK.out.mono ?_;rintro e w1 ⟨rfl,hE1,hP1⟩;have HE1:=hid (HE0.out.trans hE1);have HP1:=hid (hP1 HNE.out);clear hE1 hP1)
    |(go_at_call 83;refine(hI _ _ (HB.out.ef HE1.out) HP1.out hnx).mono ?_;intro e w2 hr;obtain⟨v,rfl,hE2,hq2,hS2,bs,hx2,hn2⟩:=hr.isOk HF.out;obtain⟨vt,vx,rfl⟩:=hx2.if_;have HE2:=hid (HE1.out.trans hE2);have k2:=hS2.c2;have g2:=hS2.f 2 (by omega);have HS2:Hid (PS (w2.setCell ⟨P,2,none⟩ (.int .i64 (nest:Int))) P W s q gv nest):=hS2.setNest nest;have HE3:Hid (EF P w (w2.setCell ⟨P,2,none⟩ (.int .i64 (nest:Int)))):=HE2.out.set _;have m1:((nest+1:Nat):Int)-1=(nest:Int):=(by omega);clear hr hE2 hS2 hx2 hn2)
    |(go_at_call 31;refine(expect1N tClose _ (by simp) (HB.out.ef HE3.out) HS2.out hq2 (by decide)).mono ?_;intro e w4 hr;obtain⟨rfl,hE4⟩:=hr.isErr HC.out;have HE4:=hid (HE3.out.trans hE4);clear hr hE4))
   go_ret2
   exact XRes.bad HTF.out HE4.out rfl (Or.inr ⟨_,_,rfl⟩)
  |.ok ((),q2)=>
   have HTF:Hid (pE s (d+1) p=.ok (x,q2)):=by show _=_;rw[HTE.out,hc,pb_ok]
   have HC:=hid hc;clear hc;go_enter Tryz.func80,Tryz.ntmps80;go_wp2_with (first
    |(go_at_call 34;refine HSK.out.mono ?_;rintro e w1 ⟨rfl,hE1,hP1⟩;have HE1:=hid (HE0.out.trans hE1);have HP1:=hid (hP1 HNE.out);clear hE1 hP1)
    |(go_at_call 83;refine(hI _ _ (HB.out.ef HE1.out) HP1.out hnx).mono ?_;intro e w2 hr;obtain⟨v,rfl,hE2,hq2,hS2,bs,hx2,hn2⟩:=hr.isOk HF.out;obtain⟨vt,vx,rfl⟩:=hx2.if_;have HE2:=hid (HE1.out.trans hE2);have k2:=hS2.c2;have g2:=hS2.f 2 (by omega);have HS2:Hid (PS (w2.setCell ⟨P,2,none⟩ (.int .i64 (nest:Int))) P W s q gv nest):=hS2.setNest nest;have HE3:Hid (EF P w (w2.setCell ⟨P,2,none⟩ (.int .i64 (nest:Int)))):=HE2.out.set _;have m1:((nest+1:Nat):Int)-1=(nest:Int):=(by omega);have HX2:=hid hx2;have HN2:=hid (hn2.low HE1.out.size);clear hr hE2 hS2 hx2 hn2)
    |(go_at_call 31;refine(expect1N tClose _ (by simp) (HB.out.ef HE3.out) HS2.out hq2 (by decide)).mono ?_;intro e w4 hr;obtain⟨rfl,hE4,hq4,hS4⟩:=hr.isOk HC.out;have HE24:Hid (EF P w2 w4):=((EF.refl P w2).set _).trans hE4;have HE4:=hid (HE3.out.trans hE4);have HS4:=hid hS4;clear hr hE4 hS4))
   go_ret2
   refine XRes.ok HTF.out HE4.out ⟨hq4,HS4.out,bs,?_,HN2.out.up HE24.out.size⟩;exact okPX _ _ _ _ HX2.out HE24.out.size (HN2.out.fr HE24.out hPl)
def pOp(E:Nat->Pr Ex)(k p:Nat):Pr Ex:=pb (E p) λl q1=>pb (E q1) λr q2=>.ok (.op k l r,q2)
theorem op_of{B:World}{P W:Nat}{adr:Nat->Addr}{s:ByteArray}{gv:Value}{d nest:Nat}(k:Nat)(hE:PExprC B P W adr s gv d nest):FormC 92 B P W adr s gv d nest (pOp (pE s d) k) #[.int .i64 (9+(k:Int))]:=by
 intro w p hB h hp;have H1:=hid (hE w p hB h hp);have HB:=hid hB;have hPl:=h.lt;clear hB h;show Calls _ _ #[.pointer (some ⟨P,0,none⟩),.int .i64 (9+(k:Int))] _ _;match h1:pE s d p with
 |.error (c,a)=>
  have HT:Hid (pOp (pE s d) k p=.error (c,a)):=by show pb _ _=_;rw[h1,pb_err]
  have HR1:=hid h1;clear h1;go_enter Tryz.func92,Tryz.ntmps92;go_wp2_with (first
   |(go_at_call 69;refine H1.out.mono ?_;intro e w1 hr;obtain⟨v,rfl,hE1,-⟩:=hr.isErr HR1.out;have HE1:=hid hE1;clear hr hE1))
  go_ret2
  exact XRes.bad HT.out HE1.out rfl (Or.inl rfl)
 |.ok (l,q1)=>
  have HR1:=hid h1;match h2:pE s d q1 with
  |.error (c,a)=>
   have HT:Hid (pOp (pE s d) k p=.error (c,a)):=by show pb _ _=_;rw[h1,pb_ok,h2,pb_err]
   have HR2:=hid h2;clear h1 h2;go_enter Tryz.func92,Tryz.ntmps92;go_wp2_with (first
    |(go_at_call 69;refine H1.out.mono ?_;intro e w1 hr;obtain⟨v,rfl,hE1,hq1,hS1,bs,hx1,hn1⟩:=hr.isOk HR1.out;obtain⟨vt,vx,rfl⟩:=hx1.if_;have HE1:=hid hE1;have H2:=hid (hE w1 q1 (HB.out.ef hE1) hS1 hq1);clear hr hE1 hS1 hx1 hn1 H1)
    |(go_at_call 69;refine H2.out.mono ?_;intro e w2 hr;obtain⟨v2,rfl,hE2,hv2⟩:=hr.isErr HR2.out;have HE2:=hid (HE1.out.trans hE2);clear hr hE2 H2;rcases hv2 with rfl|⟨ut,ux,rfl⟩))
   all_goals
    go_ret2
    exact XRes.bad HT.out HE2.out rfl (Or.inr ⟨_,_,rfl⟩)
  |.ok (r,q2)=>
   have HT:Hid (pOp (pE s d) k p=.ok (.op k l r,q2)):=by show pb _ _=_;rw[h1,pb_ok,h2,pb_ok]
   have HR2:=hid h2;clear h1 h2;go_enter Tryz.func92,Tryz.ntmps92;go_wp2_with (first
    |(go_at_call 69;refine H1.out.mono ?_;intro e w1 hr;obtain⟨v,rfl,hE1,hq1,hS1,bs,hx1,hn1⟩:=hr.isOk HR1.out;obtain⟨vt,vx,rfl⟩:=hx1.if_;have HE1:=hid hE1;have HX1:=hid hx1;have HN1:=hid hn1;have H2:=hid (hE w1 q1 (HB.out.ef hE1) hS1 hq1);clear hr hE1 hS1 hx1 hn1 H1)
    |(go_at_call 69;refine H2.out.mono ?_;intro e w2 hr;obtain⟨v2,rfl,hE2,hq2,hS2,bs2,hx2,hn2⟩:=hr.isOk HR2.out;obtain⟨ut,ux,rfl⟩:=hx2.if_;have HE12:=hid hE2;have HE2:=hid (HE1.out.trans hE2);have HX2:=hid hx2;have HN2:=hid hn2;have HS2:=hid hS2;clear hr hE2 hS2 hx2 hn2 H2))
   go_ret2
   refine XRes.ok HT.out HE2.out ⟨hq2,HS2.out,bs++bs2,?_,HN1.out.app HN2.out HE1.out.size HE12.out.size⟩;exact⟨_,bs,_,bs2,rfl,okPX _ _ _ _ HX1.out HE12.out.size (HN1.out.fr HE12.out hPl),HX2.out,rfl⟩
theorem grown_block{X w2:World}{ob:Obj}{r:Option Nat}{b:Nat}(hg:(X.alloc ob).grownBy w2 r)(hb:b<X.heap.size)(hr:r≠some b):w2.heap[b]?=X.heap[b]?:=by
 rw[hg.block b (by simp;omega) (λe=>hr e.symm)];exact heap_alloc_old X ob hb
theorem V2.of_block{w w':World}{b:Nat}{x y:Value}(h:V2 w b x y)(e:w'.heap[b]?=w.heap[b]?):V2 w' b x y:=
 ⟨by rw[World.cell?_of_block (a:=⟨b,0,none⟩) e];exact h.1,by rw[World.cell?_of_block (a:=⟨b,1,none⟩) e];exact h.2.1,by rw[World.frozen?_of_block (a:=⟨b,0,none⟩) e];exact h.2.2.1,by rw[World.frozen?_of_block (a:=⟨b,1,none⟩) e];exact h.2.2.2⟩
theorem V2.set1{w:World}{b:Nat}{x y:Value}(h:V2 w b x y)(u:Value):V2 (w.setCell ⟨b,1,none⟩ u) b x u:=by
 refine⟨?_,World.cell?_setCell_same _ _ _ h.2.1,?_,?_⟩
 ·rw[World.cell?_setCell_other _ _ _ _ (off_ne (by omega))];exact h.1
 ·rw[World.frozen?_setCell];exact h.2.2.1
 ·rw[World.frozen?_setCell];exact h.2.2.2
theorem fr_set{bs:List Nat}{w w':World}{b j:Nat}{u:Value}(h:Fr bs w w')(hb:b∉bs):Fr bs w (w'.setCell ⟨b,j,none⟩ u):=λc hc=>by
 rw[Below.heap_setCell _ _ _ _ (show c≠b from λe=>hb (e▸hc))];exact h c hc
theorem pX_below{d:Nat}{w w':World}{x:PT}{lo:Nat}(h:PX d w x)(hn:NewB lo w x.2.2)(hb:Below w.heap.size w w'):PX d w' x:=okPX _ _ _ _ h hb.size λb hb'=>hb.block b (hn.2 b hb').2
structure ArgSt (P W:Nat) (s:ByteArray) (gv:Value) (nest d:Nat) (w w1 wr:World) (C:Nat) (fv:Value) (xs:List PT) (q:Nat) (vp:Option Addr) (vc:Nat):Prop where
 hq:q<=s.size
 ps:PS wr P W s q gv nest
 row:RowE (PX (d+1)) wr (C+1) (.slice vp xs.length vc) xs
 c:V2 wr C fv (.slice vp xs.length vc)
 ef:EF P w wr
 len:xs.length<=q
 hC:w.heap.size<=C
 lowf:∀b,b<C->b≠P->wr.heap[b]?=w1.heap[b]?
theorem ArgSt.push{P W:Nat}{s:ByteArray}{gv:Value}{nest d:Nat}{w w1 wr X w2:World}{C:Nat}{fv:Value}{xs:List PT}{q r:Nat}{vp:Option Addr}{vc:Nat}{x:PT}{ob:Obj}(h:ArgSt P W s gv nest d w w1 wr C fv xs q vp vc)(hP:P<w.heap.size)(hW:W<w.heap.size)(hr:q+1<=r∧r<=s.size)(hE:EF P wr X)(hS:PS X P W s r gv nest)(hx:PX (d+1) X x)(hn:NewB wr.heap.size X x.2.2)
 (hg:(X.alloc ob).grownBy w2 (Value.slice vp xs.length vc).ownBlock) {g c:Nat} (hat:(Value.slice vp xs.length vc).ownBlock=some g∨g=(X.alloc ob).heap.size) (hlt:g<w2.heap.size)
 (hown:w2.ownsRow 0 102 1 (.slice (some ⟨g,0,none⟩) (xs.length+1) c) (xs.length+1) (xs.flatMap ptC++[x.1])):
 ArgSt P W s gv nest d w w1 (w2.setCell ⟨C,1,none⟩ (.slice (some ⟨g,0,none⟩) (xs.length+1) c)) C fv (xs++[x]) r (some ⟨g,0,none⟩) c:=by
 have hl:(xs++[x]).length=xs.length+1:=by simp
 have hv:∀b,(Value.slice vp xs.length vc).ownBlock=some b->C+1<=b:=λb hb=>(h.row.rg b (List.mem_append_left _ (mem_vB.2 hb))).1;have hCX:C<X.heap.size:=Nat.lt_of_lt_of_le h.c.lt hE.size;have hC:=h.hC;have hlen:=h.len;have hrow0:RowE (PX (d+1)) w2 (C+1) (.slice (some ⟨g,0,none⟩) (xs.length+1) c) (xs++[x]):=by
  have hb:Below X.heap.size X (X.alloc ob):=(Below.refl _ _).alloc (Nat.le_refl _) _;refine h.row.push (okPX _) (by have:=h.c.lt;omega) (w1:=X.alloc ob) (λb hb'=>?_) (Nat.le_trans hE.size hb.size) (pX_below hx hn hb) (λb hb'=>⟨(hn.2 b hb').1,Nat.lt_of_lt_of_le (hn.2 b hb').2 hb.size⟩) hn.1 hg rfl hat hlt hown;have h1:=h.row.rg b hb';rw[heap_alloc_old X ob (Nat.lt_of_lt_of_le h1.2 hE.size)];exact hE.block b h1.2 (by omega)
 refine⟨hr.2,?_,?_,?_,?_,by omega,hC,λb hb hne=>?_⟩
 ·refine(hS.push (v:=Value.slice vp xs.length vc) (λb hb=>⟨by have:=hv b hb;omega,by have:=hv b hb;omega⟩) hg).far (by omega) (by omega)
 ·rw[hl];refine hrow0.fr (okPX _) (by simp) (fr_set (Fr.refl _ _) λhm=>?_);have:=(hrow0.rg C hm).1;omega
 ·rw[hl];have h1:V2 X C fv (.slice vp xs.length vc):=h.c.ef hE (by omega);have h2:=h1.of_block (grown_block hg hCX (λe=>by have:=hv C e;omega));exact h2.set1 _
 ·exact ef_new (ef_push (h.ef.trans hE) (λb hb=>by have:=hv b hb;omega) hg) hC
 ·have hbr:b<wr.heap.size:=Nat.lt_trans hb h.c.lt;rw[Below.heap_setCell _ _ _ _ (show b≠C by omega),grown_block hg (Nat.lt_of_lt_of_le hbr hE.size) (λe=>by have:=hv b e;omega),hE.block b hbr hne];exact h.lowf b hb hne
theorem Tryz.exprI:(Tryz.prog.info? 102).map (λi=>(i.zero,i.size,i.bytes))=some (some .nilIface,1,16):=by kernel_rfl
def cellLen(w:World)(a:Addr):Nat:=match w.cell? a with|some v=>slen v|none=>0
theorem cellLen_of{w:World}{b:Nat}{x y:Value}(h:V2 w b x y):cellLen w ⟨b,1,none⟩=slen y:=by unfold cellLen;rw[h.2.1]
def pArgs(s:ByteArray)(E:Nat->Pr Ex)(x:Ex)(xs:List Ex)(q:Nat):Pr Ex:=match xs with
 |[]=>pb (E q) λy q2=>pb (pMore s E (s.size+1) [x,y] q2) λl q3=>.ok (.call l,q3)
 |y::r=>pb (pMore s E (s.size+1-r.length) (x::y::r) q) λl q3=>.ok (.call l,q3)
theorem pArgs_end{s:ByteArray}{E:Nat->Pr Ex}{x:Ex}{xs:List Ex}{q:Nat}(hn:xs≠[])(hl:xs.length<=s.size+1)(h:tokT s q=tClose):pArgs s E x xs q=.ok (.call (x::xs),skp s q):=by
 match xs,hn with
 |y::r,_=>
  simp only[List.length_cons]at hl;unfold pArgs;simp only;rw[show s.size+1-r.length=(s.size-r.length)+1 by omega,pMore];rw[show(if tokT s q=tClose then (Except.ok (x::y::r,skp s q):Pr (List Ex)) else pb (E q) λe q'=>pMore s E (s.size-r.length) ((x::y::r)++[e]) q')=.ok (x::y::r,skp s q) from if_pos h,pb_ok]
theorem pArgs_go{s:ByteArray}{E:Nat->Pr Ex}{x:Ex}{xs:List Ex}{q:Nat}(hl:xs.length<=s.size)(h:xs=[]∨¬tokT s q=tClose):pArgs s E x xs q=pb (E q) λy q2=>pArgs s E x (xs++[y]) q2:=by
 match xs with
 |[]=>rfl
 |z::r=>
  have hc:¬tokT s q=tClose:=by
   rcases h with h|h
   ·cases h
   ·exact h
  simp only[List.length_cons]at hl;unfold pArgs;simp only;rw[show s.size+1-r.length=(s.size-r.length)+1 by omega,pMore];rw[show(if tokT s q=tClose then (Except.ok (x::z::r,skp s q):Pr (List Ex)) else pb (E q) λe q'=>pMore s E (s.size-r.length) ((x::z::r)++[e]) q')=pb (E q) λe q'=>pMore s E (s.size-r.length) ((x::z::r)++[e]) q' from if_neg hc];match E q with
  |.error e=>rfl
  |.ok (y,q2)=>
   simp only[pb_ok,List.cons_append,List.length_append,List.length_cons,List.length_nil];rw[show s.size+1-(r.length+(0+1))=s.size-r.length by omega]
theorem pCall_args(s:ByteArray)(E:Nat->Pr Ex)(p:Nat):pCall s E p=pb (E p) λx q1=>pArgs s E x [] q1:=rfl
theorem call_of{B:World}{P W:Nat}{adr:Nat->Addr}{s:ByteArray}{gv:Value}{d nest:Nat}(hs:s.size<=2000)(hE:PExprC B P W adr s gv d nest):FormC 96 B P W adr s gv d nest (pCall s (pE s d)) #[]:=by
 intro w p hB h hp;have H1:=hid (hE w p hB h hp);have HB:=hid hB;have hPl:=h.lt;have hWl:=h.wlt;obtain⟨ii,hii,hij⟩:=Option.map_eq_some_iff.1 Tryz.exprI;simp only[Prod.mk.injEq]at hij;obtain⟨hi0,hi1,hi2⟩:=hij;have F0:=fldW0;clear hB h;show Calls _ _ #[.pointer (some ⟨P,0,none⟩)] _ _;match h1:pE s d p with
 |.error (c,a)=>
  have HT:Hid (pCall s (pE s d) p=.error (c,a)):=by show _=_;rw[pCall_args,h1,pb_err]
  have HR1:=hid h1;clear h1;go_enter Tryz.func96,Tryz.ntmps96;go_wp2_with (first
   |(go_at_call 69;refine H1.out.mono ?_;intro e w1 hr;obtain⟨v,rfl,hE1,-⟩:=hr.isErr HR1.out;have HE1:=hid hE1;clear hr hE1))
  go_ret2
  exact XRes.bad HT.out HE1.out rfl (Or.inl rfl)
 |.ok (x,q1)=>
  have HR1:=hid h1;have HT:Hid (pCall s (pE s d) p=pArgs s (pE s d) x [] q1):=by show _=_;rw[pCall_args,h1,pb_ok]
  clear h1;go_enter Tryz.func96,Tryz.ntmps96;go_wp2_with (first
   |(go_at_call 69;refine H1.out.mono ?_;intro e w1 hr;obtain⟨v,rfl,hE1,hq1,hS1,bs,hx1,hn1⟩:=hr.isOk HR1.out;obtain⟨vt,vx,rfl⟩:=hx1.if_;have HE1:=hid hE1;have HX1:=hid hx1;have HN1:=hid hn1;have HS1:=hid hS1;clear hr hE1 hS1 hx1 hn1 H1))
  obtain⟨C,hC⟩:∃C,w1.heap.size=C:=⟨_,rfl⟩;have HC0:Hid (ArgSt P W s gv nest d w w1 (w1.alloc (.cells #[.iface vt vx,.slice none 0 0] 202)) C (.iface vt vx) [] q1 none 0):=by
   have hb:Below w1.heap.size w1 (w1.alloc (.cells #[.iface vt vx,.slice none 0 0] 202)):=(Below.refl _ _).alloc (Nat.le_refl _) _;subst hC;exact⟨hq1,HS1.out.below hb,RowS.nil _ _,⟨by simp,by simp,by simp,by simp⟩,HE1.out.trans (EF.of_below hb),Nat.zero_le _,HE1.out.size,λb hb' _=>heap_alloc_old _ _ hb'⟩
  have HF1:Hid (∀wr,w1.heap.size<=wr.heap.size->(∀b,b<C->b≠P->wr.heap[b]?=w1.heap[b]?)->PX (d+1) wr (.iface vt vx,x,bs)):=by
   intro wr hz hl;refine okPX _ _ _ _ HX1.out hz λb hb=>?_;have:=HN1.out.2 b hb;exact hl b (by omega) (by omega)
  have HN1':Hid (NewB w.heap.size w1 bs):=HN1.out;rw[hC];clear HS1 HX1 HN1;go_loopw [] (λwr=>∃(xs:List PT) (q:Nat) (vp:Option Addr) (vc:Nat),Hid (pCall s (pE s d) p=pArgs s (pE s d) x (xs.map (λx:PT=>x.2.1)) q)∧Hid (ArgSt P W s gv nest d w w1 wr C (.iface vt vx) xs q vp vc)) (λwr=>s.size+1-cellLen wr ⟨C,1,none⟩)
  case atStart=>exact⟨[],q1,none,0,HT.out,HC0.out⟩
  case round=>
   clear HC0 HT;obtain⟨xs,q,vp,vc,HT,HA⟩:=hrel;rename World=>wr
   have hq:=HA.out.hq;have hlen:=HA.out.len;obtain⟨c0,c1,c2,c3⟩:=id HA.out.c;have HBR:=hid (HB.out.ef HA.out.ef);have HLX:Hid ((xs.map (λx:PT=>x.2.1)).length=xs.length):=List.length_map ..;by_cases hend:xs≠[]∧tokT s q=tClose
   ·have HTE:Hid (pCall s (pE s d) p=.ok (.call (x::xs.map (λx:PT=>x.2.1)),skp s q)):=by
     show _=_;rw[HT.out,pArgs_end (by intro e;exact hend.1 (List.map_eq_nil_iff.1 e)) (by rw[HLX.out];omega) hend.2]
    have b1:=lit_t tClose_l hend.2;have hl0:0<xs.length:=List.length_pos_iff.2 hend.1;have l0:((xs.length:Int)==0)=false:=by rw[beq_eq_false_iff_ne];omega
    have HP:=hid (peek_any HA.out.ps hq);clear hend;go_wp2_with (first
     |(go_at_call 33;refine HP.out.mono ?_;rintro e w2 ⟨rfl,hb2⟩;have HB2:=hid hb2;obtain⟨k0,k1,k2,k3⟩:=HA.out.c.keep hb2;clear hb2))
    go_ret2
    have hrow:=HA.out.row.keep (okPX _) HB2.out;refine XRes.ok HTE.out (HA.out.ef.trans (EF.of_below HB2.out)) ⟨skp_le hq,(HA.out.ps.below HB2.out).skp (toks_skp s q),bs++rowB ptS (.slice vp xs.length vc) xs,?_,?_⟩
    ·refine⟨x,_,_,bs,_,xs,rfl,rfl,?_,hrow.low (Nat.zero_le _),rfl,rfl⟩;refine HF1.out _ (Nat.le_trans (by have:=HA.out.c.lt;omega) HB2.out.size) λb hb hne=>?_;rw[HB2.out.block b (by have:=HA.out.c.lt;omega)];exact HA.out.lowf b hb hne
    ·refine HN1'.out.app ⟨hrow.nd,λb hb=>⟨?_,(hrow.rg b hb).2⟩⟩ HE1.out.size ?_
     ·have:=(hrow.rg b hb).1;omega
     ·have h1:=HA.out.c.lt;have h2:=HB2.out.size;omega
   ·have HGO:Hid (pCall s (pE s d) p=pb (pE s d q) λy q2=>pArgs s (pE s d) x (xs.map (λx:PT=>x.2.1)++[y]) q2):=by
     show _=_;rw[HT.out,pArgs_go (by rw[HLX.out];omega)];by_cases hx:xs=[]
     ·exact Or.inl (by rw[hx];rfl)
     ·exact Or.inr λh=>hend ⟨hx,h⟩
    have HEX:=hid (λw2 (hb:Below wr.heap.size wr w2)=>hE w2 q (HBR.out.ef (EF.of_below hb)) (HA.out.ps.below hb) hq);have hPC:P<C:=by have:=HA.out.hC;omega
    have hCP:C≠P:=Nat.ne_of_gt hPC;by_cases hx0:xs=[]
    ·have l0:((xs.length:Int)==0)=true:=by rw[hx0];rfl
     have HBX:=hid (Below.refl wr.heap.size wr);clear hend hx0;match hy:pE s d q with
     |.error (c,a)=>
      have HTE:Hid (pCall s (pE s d) p=.error (c,a)):=by show _=_;rw[HGO.out,hy,pb_err]
      have HY:=hid hy;clear hy;go_wp2_with (first
       |(go_at_call 69;refine(HEX.out _ HBX.out).mono ?_;intro e w3 hr;obtain⟨v,rfl,hE3,-⟩:=hr.isErr HY.out;have HE3:=hid ((EF.of_below (E:=P) HBX.out).trans hE3);clear hr hE3))
      go_ret2
      exact XRes.bad HTE.out (HA.out.ef.trans HE3.out) rfl (Or.inl rfl)
     |.ok (y,r)=>
      have HTN:Hid (pCall s (pE s d) p=pArgs s (pE s d) x (xs.map (λx:PT=>x.2.1)++[y]) r):=by show _=_;rw[HGO.out,hy,pb_ok]
      have hr2:=fwd_E s d q hq y r hy;have HY:=hid hy;clear hy;go_wp2_with (first
       |(go_at_call 69;refine(HEX.out _ HBX.out).mono ?_;intro e w3 hr;obtain⟨v,rfl,hE3,hq3,hS3,cs,hx3,hn3⟩:=hr.isOk HY.out;obtain⟨ut,ux,rfl⟩:=hx3.if_;have HE3:=hid ((EF.of_below (E:=P) HBX.out).trans hE3);have HS3:=hid hS3;have HX3:=hid hx3;have HN3:=hid (hn3.low HBX.out.size);obtain⟨k0,k1,k2,k3⟩:=HA.out.c.ef HE3.out hCP;have HRW:=hid (HA.out.row.ef (okPX _) HE3.out (Nat.lt_succ_of_lt hPC));clear hr hE3 hS3 hx3 hn3)
       |(at_builtin;refine wpList_append_lies _ rfl (.tmp 38) (.tmp 40) 185 rfl 0 102 ii _ 1 16 Tryz.underlying185 hii hi0 hi1 hi2 rfl (by omega) (.slice vp xs.length vc) xs.length (xs.flatMap ptC) rfl (HRW.out.own.alloc _) ⟨w3.heap.size,0,none⟩ 1 1 [.iface ut ux] rfl rfl (by simpa using World.news_of_block (heap_alloc_new w3 (Obj.cells #[.iface ut ux] 102))) (by intro u hu;simp at hu;subst hu;rfl) (by omega) (by unfold maxLen;omega) (by omega) (Nat.zero_le _) _ rfl ?_;intro g1 k1' w7 hown hgrow hat hlt1;have HNX:=hid (HA.out.push (x:=(.iface ut ux,y,cs)) hPl hWl hr2 HE3.out HS3.out HX3.out HN3.out hgrow hat hlt1 hown);obtain⟨m0,m1,m2,m3⟩:=(HA.out.c.ef HE3.out hCP).of_block (grown_block hgrow (Nat.lt_of_lt_of_le HA.out.c.lt HE3.out.size) (λe=>by have:=(HRW.out.rg C (List.mem_append_left _ (mem_vB.2 e))).1;omega));clear hown hgrow hat hlt1))
      refine⟨⟨xs++[(.iface ut ux,y,cs)],r,_,_,by show _=_;rw[HTN.out,List.map_append];rfl,HNX⟩,?_⟩;rw[cellLen_of HNX.out.c,cellLen_of HA.out.c];simp[slen];omega
    ·have l0:((xs.length:Int)==0)=false:=by
      rw[beq_eq_false_iff_ne];have:=List.length_pos_iff.2 hx0;omega
     have b1:=lit_f tClose_l (λh=>hend ⟨hx0,h⟩);have HP:=hid (peek_any HA.out.ps hq);clear hend hx0;match hy:pE s d q with
     |.error (c,a)=>
      have HTE:Hid (pCall s (pE s d) p=.error (c,a)):=by show _=_;rw[HGO.out,hy,pb_err]
      have HY:=hid hy;clear hy;go_wp2_with (first
       |(go_at_call 33;refine HP.out.mono ?_;rintro e w2 ⟨rfl,hb2⟩;have HBX:=hid hb2;clear hb2)
       |(go_at_call 69;refine(HEX.out _ HBX.out).mono ?_;intro e w3 hr;obtain⟨v,rfl,hE3,-⟩:=hr.isErr HY.out;have HE3:=hid ((EF.of_below (E:=P) HBX.out).trans hE3);clear hr hE3))
      go_ret2
      exact XRes.bad HTE.out (HA.out.ef.trans HE3.out) rfl (Or.inl rfl)
     |.ok (y,r)=>
      have HTN:Hid (pCall s (pE s d) p=pArgs s (pE s d) x (xs.map (λx:PT=>x.2.1)++[y]) r):=by show _=_;rw[HGO.out,hy,pb_ok]
      have hr2:=fwd_E s d q hq y r hy;have HY:=hid hy;clear hy;go_wp2_with (first
       |(go_at_call 33;refine HP.out.mono ?_;rintro e w2 ⟨rfl,hb2⟩;have HBX:=hid hb2;clear hb2)
       |(go_at_call 69;refine(HEX.out _ HBX.out).mono ?_;intro e w3 hr;obtain⟨v,rfl,hE3,hq3,hS3,cs,hx3,hn3⟩:=hr.isOk HY.out;obtain⟨ut,ux,rfl⟩:=hx3.if_;have HE3:=hid ((EF.of_below (E:=P) HBX.out).trans hE3);have HS3:=hid hS3;have HX3:=hid hx3;have HN3:=hid (hn3.low HBX.out.size);obtain⟨k0,k1,k2,k3⟩:=HA.out.c.ef HE3.out hCP;have HRW:=hid (HA.out.row.ef (okPX _) HE3.out (Nat.lt_succ_of_lt hPC));clear hr hE3 hS3 hx3 hn3)
       |(at_builtin;refine wpList_append_lies _ rfl (.tmp 38) (.tmp 40) 185 rfl 0 102 ii _ 1 16 Tryz.underlying185 hii hi0 hi1 hi2 rfl (by omega) (.slice vp xs.length vc) xs.length (xs.flatMap ptC) rfl (HRW.out.own.alloc _) ⟨w3.heap.size,0,none⟩ 1 1 [.iface ut ux] rfl rfl (by simpa using World.news_of_block (heap_alloc_new w3 (Obj.cells #[.iface ut ux] 102))) (by intro u hu;simp at hu;subst hu;rfl) (by omega) (by unfold maxLen;omega) (by omega) (Nat.zero_le _) _ rfl ?_;intro g1 k1' w7 hown hgrow hat hlt1;have HNX:=hid (HA.out.push (x:=(.iface ut ux,y,cs)) hPl hWl hr2 HE3.out HS3.out HX3.out HN3.out hgrow hat hlt1 hown);obtain⟨m0,m1,m2,m3⟩:=(HA.out.c.ef HE3.out hCP).of_block (grown_block hgrow (Nat.lt_of_lt_of_le HA.out.c.lt HE3.out.size) (λe=>by have:=(HRW.out.rg C (List.mem_append_left _ (mem_vB.2 e))).1;omega));clear hown hgrow hat hlt1))
      refine⟨⟨xs++[(.iface ut ux,y,cs)],r,_,_,by show _=_;rw[HTN.out,List.map_append];rfl,HNX⟩,?_⟩;rw[cellLen_of HNX.out.c,cellLen_of HA.out.c];simp[slen];omega
def pFlds(s:ByteArray)(E:Nat->Pr Ex)(tag:Nat)(xs:List Ex)(q:Nat):Pr Ex:=pb (pFields s E (s.size+1-xs.length) xs q) λfs q2=>.ok (.con tag fs,q2)
theorem pFlds_end{s:ByteArray}{E:Nat->Pr Ex}{tag:Nat}{xs:List Ex}{q:Nat}(hl:xs.length<=s.size)(h:tokT s q=tClose):pFlds s E tag xs q=.ok (.con tag xs,skp s q):=by
 unfold pFlds;rw[show s.size+1-xs.length=(s.size-xs.length)+1 by omega,pFields,if_pos h,pb_ok]
theorem pFlds_many{s:ByteArray}{E:Nat->Pr Ex}{tag:Nat}{xs:List Ex}{q:Nat}(hl:xs.length<=s.size)(h:¬tokT s q=tClose)(h2:xs.length=20):pFlds s E tag xs q=.error (3,tokA s q):=by
 unfold pFlds;rw[show s.size+1-xs.length=(s.size-xs.length)+1 by omega,pFields,if_neg h,if_pos h2,pb_err]
theorem pFlds_go{s:ByteArray}{E:Nat->Pr Ex}{tag:Nat}{xs:List Ex}{q:Nat}(hl:xs.length<=s.size)(h:¬tokT s q=tClose)(h2:¬xs.length=20):pFlds s E tag xs q=pb (E q) λy q2=>pFlds s E tag (xs++[y]) q2:=by
 unfold pFlds;rw[show s.size+1-xs.length=(s.size-xs.length)+1 by omega,pFields,if_neg h,if_neg h2];match E q with
 |.error e=>rfl
 |.ok (y,q2)=>
  simp only[pb_ok,List.length_append,List.length_cons,List.length_nil];rw[show s.size+1-(xs.length+(0+1))=s.size-xs.length by omega]
theorem con_of{B:World}{P W:Nat}{adr:Nat->Addr}{s:ByteArray}{gv:Value}{d nest:Nat}(hs:s.size<=2000)(hE:PExprC B P W adr s gv d nest):FormC 94 B P W adr s gv d nest (pCon s (pE s d)) #[]:=by
 intro w p hB h hp;have H1:Hid (Calls Tryz.prog 67 #[.pointer (some ⟨P,0,none⟩),.int .i64 255] w λe w'=>PRes (pTag s 255 p) P w adr (.int .i64 0) (λx q v w'=>v=.int .i64 (x.1:Int)∧q<=s.size∧PS w' P W s q gv nest) e w'):=pUpTo_any 255 hs hB h hp;have HB:=hid hB;have hPl:=h.lt;have hWl:=h.wlt;obtain⟨ii,hii,hij⟩:=Option.map_eq_some_iff.1 Tryz.exprI;simp only[Prod.mk.injEq]at hij;obtain⟨hi0,hi1,hi2⟩:=hij;have F0:=fldW0;clear hB h;show Calls _ _ #[.pointer (some ⟨P,0,none⟩)] _ _;match h1:pTag s 255 p with
 |.error (c,a)=>
  have HT:Hid (pCon s (pE s d) p=.error (c,a)):=by show pb _ _=_;rw[h1,pb_err]
  have HR1:=hid h1;clear h1;go_enter Tryz.func94,Tryz.ntmps94;go_wp2_with (first
   |(go_at_call 67;refine H1.out.mono ?_;intro e w1 hr;obtain⟨rfl,hE1⟩:=hr.isErr HR1.out;have HE1:=hid hE1;clear hr hE1))
  go_ret2
  exact XRes.bad HT.out HE1.out rfl (Or.inl rfl)
 |.ok ((tag,tpl),q1)=>
  have HR1:=hid h1;have HT:Hid (pCon s (pE s d) p=pFlds s (pE s d) tag [] q1):=by show pb _ _=_;rw[h1,pb_ok];rfl
  clear h1;go_enter Tryz.func94,Tryz.ntmps94;go_wp2_with (first
   |(go_at_call 67;refine H1.out.mono ?_;intro e w1 hr;obtain⟨v,rfl,hE1,rfl,hq1,hS1⟩:=hr.isOk HR1.out;have HE1:=hid hE1;have HS1:=hid hS1;clear hr hE1 hS1 H1))
  obtain⟨C,hC⟩:∃C,w1.heap.size=C:=⟨_,rfl⟩;have HC0:Hid (ArgSt P W s gv nest d w w1 (w1.alloc (.cells #[.int .i64 (tag:Int),.slice none 0 0] 191)) C (.int .i64 (tag:Int)) [] q1 none 0):=by
   have hb:Below w1.heap.size w1 (w1.alloc (.cells #[.int .i64 (tag:Int),.slice none 0 0] 191)):=(Below.refl _ _).alloc (Nat.le_refl _) _;subst hC;exact⟨hq1,HS1.out.below hb,RowS.nil _ _,⟨by simp,by simp,by simp,by simp⟩,HE1.out.trans (EF.of_below hb),Nat.zero_le _,HE1.out.size,λb hb' _=>heap_alloc_old _ _ hb'⟩
  rw[hC];clear HS1;go_loopw [] (λwr=>∃(xs:List PT) (q:Nat) (vp:Option Addr) (vc:Nat),Hid (pCon s (pE s d) p=pFlds s (pE s d) tag (xs.map (λx:PT=>x.2.1)) q)∧Hid (ArgSt P W s gv nest d w w1 wr C (.int .i64 (tag:Int)) xs q vp vc)) (λwr=>s.size+1-cellLen wr ⟨C,1,none⟩)
  case atStart=>exact⟨[],q1,none,0,HT.out,HC0.out⟩
  case round=>
   clear HC0 HT;obtain⟨xs,q,vp,vc,HT,HA⟩:=hrel;rename World=>wr
   have hq:=HA.out.hq;have hlen:=HA.out.len;obtain⟨c0,c1,c2,c3⟩:=id HA.out.c;have HBR:=hid (HB.out.ef HA.out.ef);have HLX:Hid ((xs.map (λx:PT=>x.2.1)).length=xs.length):=List.length_map ..;have HP:=hid (peek_any HA.out.ps hq);have hPC:P<C:=by have:=HA.out.hC;omega
   have hCP:C≠P:=Nat.ne_of_gt hPC;by_cases hend:tokT s q=tClose
   ·have HTE:Hid (pCon s (pE s d) p=.ok (.con tag (xs.map (λx:PT=>x.2.1)),skp s q)):=by
     show _=_;rw[HT.out,pFlds_end (by rw[HLX.out];omega) hend]
    have b1:=lit_t tClose_l hend;clear hend;go_wp2_with (first
     |(go_at_call 33;refine HP.out.mono ?_;rintro e w2 ⟨rfl,hb2⟩;have HB2:=hid hb2;obtain⟨k0,k1,k2,k3⟩:=HA.out.c.keep hb2;clear hb2))
    go_ret2
    have hrow:=HA.out.row.keep (okPX _) HB2.out;refine XRes.ok HTE.out (HA.out.ef.trans (EF.of_below HB2.out)) ⟨skp_le hq,(HA.out.ps.below HB2.out).skp (toks_skp s q),rowB ptS (.slice vp xs.length vc) xs,?_,?_⟩
    ·exact⟨_,xs,rfl,hrow.low (Nat.zero_le _),rfl,rfl⟩
    ·refine⟨hrow.nd,λb hb=>⟨?_,(hrow.rg b hb).2⟩⟩;have h1:=(hrow.rg b hb).1;have h2:=HA.out.hC;omega
   ·have b1:=lit_f tClose_l hend;by_cases h20:xs.length=20
    ·have HTE:Hid (pCon s (pE s d) p=.error (3,tokA s q)):=by
      show _=_;rw[HT.out,pFlds_many (by rw[HLX.out];omega) hend (by rw[HLX.out];exact h20)]
     have l0:((xs.length:Int)==20)=true:=by rw[beq_iff_eq];omega
     clear hend;go_wp2_with (first
      |(go_at_call 33;refine HP.out.mono ?_;rintro e w2 ⟨rfl,hb2⟩;have HB2:=hid hb2;obtain⟨k0,k1,k2,k3⟩:=HA.out.c.keep hb2;have dp2:=(HBR.out.ef (EF.of_below hb2)).sy.dp;clear hb2)
      |(go_at_call 50;refine(pwrong_any adr 13 (HA.out.ps.below HB2.out) hq).mono ?_;rintro e w5 ⟨rfl,hb5⟩;have HB5:=hid (HB2.out.trans (hb5.mono HB2.out.size));clear hb5))
     go_ret2
     exact XRes.bad HTE.out (HA.out.ef.trans (EF.of_below HB5.out)) rfl (Or.inl rfl)
    ·have HGO:Hid (pCon s (pE s d) p=pb (pE s d q) λy q2=>pFlds s (pE s d) tag (xs.map (λx:PT=>x.2.1)++[y]) q2):=by
      show _=_;rw[HT.out,pFlds_go (by rw[HLX.out];omega) hend (by rw[HLX.out];exact h20)]
     have l0:((xs.length:Int)==20)=false:=by rw[beq_eq_false_iff_ne];omega
     have HEX:=hid (λw2 (hb:Below wr.heap.size wr w2)=>hE w2 q (HBR.out.ef (EF.of_below hb)) (HA.out.ps.below hb) hq);clear hend;match hy:pE s d q with
     |.error (c,a)=>
      have HTE:Hid (pCon s (pE s d) p=.error (c,a)):=by show _=_;rw[HGO.out,hy,pb_err]
      have HY:=hid hy;clear hy;go_wp2_with (first
       |(go_at_call 33;refine HP.out.mono ?_;rintro e w2 ⟨rfl,hb2⟩;have HBX:=hid hb2;obtain⟨n0,n1,n2,n3⟩:=HA.out.c.keep hb2;clear hb2)
       |(go_at_call 69;refine(HEX.out _ HBX.out).mono ?_;intro e w3 hr;obtain⟨v,rfl,hE3,-⟩:=hr.isErr HY.out;have HE3:=hid ((EF.of_below (E:=P) HBX.out).trans hE3);clear hr hE3))
      go_ret2
      exact XRes.bad HTE.out (HA.out.ef.trans HE3.out) rfl (Or.inl rfl)
     |.ok (y,r)=>
      have HTN:Hid (pCon s (pE s d) p=pFlds s (pE s d) tag (xs.map (λx:PT=>x.2.1)++[y]) r):=by show _=_;rw[HGO.out,hy,pb_ok]
      have hr2:=fwd_E s d q hq y r hy;have HY:=hid hy;clear hy;go_wp2_with (first
       |(go_at_call 33;refine HP.out.mono ?_;rintro e w2 ⟨rfl,hb2⟩;have HBX:=hid hb2;obtain⟨n0,n1,n2,n3⟩:=HA.out.c.keep hb2;clear hb2)
       |(go_at_call 69;refine(HEX.out _ HBX.out).mono ?_;intro e w3 hr;obtain⟨v,rfl,hE3,hq3,hS3,cs,hx3,hn3⟩:=hr.isOk HY.out;obtain⟨ut,ux,rfl⟩:=hx3.if_;have HE3:=hid ((EF.of_below (E:=P) HBX.out).trans hE3);have HS3:=hid hS3;have HX3:=hid hx3;have HN3:=hid (hn3.low HBX.out.size);obtain⟨k0,k1,k2,k3⟩:=HA.out.c.ef HE3.out hCP;have HRW:=hid (HA.out.row.ef (okPX _) HE3.out (Nat.lt_succ_of_lt hPC));clear hr hE3 hS3 hx3 hn3)
       |(at_builtin;refine wpList_append_lies _ rfl (.tmp 39) (.tmp 41) 185 rfl 0 102 ii _ 1 16 Tryz.underlying185 hii hi0 hi1 hi2 rfl (by omega) (.slice vp xs.length vc) xs.length (xs.flatMap ptC) rfl (HRW.out.own.alloc _) ⟨w3.heap.size,0,none⟩ 1 1 [.iface ut ux] rfl rfl (by simpa using World.news_of_block (heap_alloc_new w3 (Obj.cells #[.iface ut ux] 102))) (by intro u hu;simp at hu;subst hu;rfl) (by omega) (by unfold maxLen;omega) (by omega) (Nat.zero_le _) _ rfl ?_;intro g1 k1' w7 hown hgrow hat hlt1;have HNX:=hid (HA.out.push (x:=(.iface ut ux,y,cs)) hPl hWl hr2 HE3.out HS3.out HX3.out HN3.out hgrow hat hlt1 hown);obtain⟨m0,m1,m2,m3⟩:=(HA.out.c.ef HE3.out hCP).of_block (grown_block hgrow (Nat.lt_of_lt_of_le HA.out.c.lt HE3.out.size) (λe=>by have:=(HRW.out.rg C (List.mem_append_left _ (mem_vB.2 e))).1;omega));clear hown hgrow hat hlt1))
      refine⟨⟨xs++[(.iface ut ux,y,cs)],r,_,_,by show _=_;rw[HTN.out,List.map_append];rfl,HNX⟩,?_⟩;rw[cellLen_of HNX.out.c,cellLen_of HA.out.c];simp[slen];omega
end Go.Proofs.YtlanckgcjijefaaGreatDoor

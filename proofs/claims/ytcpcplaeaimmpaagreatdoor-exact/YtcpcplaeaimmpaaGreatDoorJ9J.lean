import Derived.Test.YtcpcplaeaimmpaaGreatDoorGMathJ
set_option maxRecDepth 100000
set_option maxHeartbeats 4000000
namespace Go.Proofs.YtcpcplaeaimmpaaGreatDoor
open Go.RowKit Go.Sort
noncomputable def sBad(most:Int):List LGlob->Nat->Option (Nat×Nat×Nat)
 |[],_=>none
 |g::r,k=>match gBad g.code (g.arity+1) most with
  |some (e,i)=>some (e,k,i)
  |none=>sBad most r (k+1)
theorem sBad_some{most:Int}{l:List LGlob}{k e i:Nat}(hk:k<l.length)(h:gBad l[k].code (l[k].arity+1) most=some (e,i)):sBad most (l.drop k) k=some (e,k,i):=by
 rw[List.drop_eq_getElem_cons hk,sBad,h]
theorem sBad_next{most:Int}{l:List LGlob}{k:Nat}(hk:k<l.length)(h:gBad l[k].code (l[k].arity+1) most=none):sBad most (l.drop k) k=sBad most (l.drop (k+1)) (k+1):=by
 rw[List.drop_eq_getElem_cons hk,sBad,h]
def resS:Option (Nat×Nat×Nat)->Value
 |some (e,k,i)=>.tuple #[.int .i64 ((12:Int)+e),.agg #[.int .i64 (k:Int),.int .i64 (i:Int)]]
 |none=>.tuple #[.int .i64 0,.agg #[.int .i64 0,.int .i64 0]]
def P2(w:World)(b:Nat):Prop:=w.cell? ⟨b,0,none⟩=some (.int .i64 0)∧w.cell? ⟨b,1,none⟩=some (.int .i64 0)∧w.frozen? ⟨b,0,none⟩=false∧w.frozen? ⟨b,1,none⟩=false
theorem P2.keep{w w':World}{b:Nat}(h:P2 w b)(hb:Below w.heap.size w w'):P2 w' b:=by
 have hl:=block_lt_of_cell h.1;exact⟨cell_keep hb h.1,cell_keep hb h.2.1,by rw[(bcell hb).2 _ _ hl];exact h.2.2.1,by rw[(bcell hb).2 _ _ hl];exact h.2.2.2⟩
theorem P2.put{w:World}{b:Nat}(h:P2 w b)(x y:Value):(w.setCell ⟨b,0,none⟩ x).cell? ⟨b,0,none⟩=some x∧((w.setCell ⟨b,0,none⟩ x).setCell ⟨b,1,none⟩ y).cell? ⟨b,1,none⟩=some y:=by
 refine⟨World.cell?_setCell_same _ _ _ h.1,World.cell?_setCell_same _ _ _ (u:=.int .i64 0) ?_⟩;rw[World.cell?_setCell_other _ _ _ _ (by intro e;have:=congrArg Addr.off e;simp at this)];exact h.2.1
def GoodGs(l:List LGlob):Prop:=∀k (hk:k<l.length),codeG l[k].code=true∧0<=l[k].arity∧l[k].arity<=20
end Go.Proofs.YtcpcplaeaimmpaaGreatDoor
namespace Go.Proofs.YtcpcplaeaimmpaaGreatDoor
open Go.RowKit
theorem In_any(t:TypeId)(x:Value)(k n:Int)(w:World):
 Calls Tryz.prog 47 #[.iface t x,.int .i64 k,.int .i64 n] w λe w'=>e=.returned (.iface 81 (.agg #[.iface t x,.int .i64 k,.int .i64 n]))∧Below w.heap.size w w':=by
 go_enter Tryz.func47,Tryz.ntmps47;go_wp2;go_ret;exact⟨rfl,Below.refl _ _⟩
theorem place_nil(w:World):Calls Tryz.prog 16 #[.nilIface] w λe w'=>e=.returned (.agg #[.int .i64 0,.int .i64 0])∧Below w.heap.size w w':=by
 go_enter Tryz.func16,Tryz.ntmps16;go_wp2_with (first|(go_at_call 28;refine(as_nil _ _).mono ?_;rintro e w1 ⟨rfl,rfl⟩))
 refine bodyPost_ret (v:=.agg #[.int .i64 0,.int .i64 0]) (by simp[results,Tryz.results16,go_sem]) rfl ?_;exact⟨rfl,((Below.refl _ _).alloc (Nat.le_refl _) _).alloc (by simp) _⟩
theorem place_plain{w:World}{adr:Nat->Addr}(hS:SentAt w adr)(a:Addr):Calls Tryz.prog 16 #[errE a] w λe w'=>e=.returned (.agg #[.int .i64 0,.int .i64 0])∧Below w.heap.size w w':=by
 have HB0:Hid (∀o1 o2,Below w.heap.size w ((w.alloc o1).alloc o2)):=λo1 o2=>((Below.refl _ _).alloc (Nat.le_refl _) _).alloc (by simp) _;have HP0:Hid (∀o2,P2 ((w.alloc (.cells #[.int .i64 0,.int .i64 0] 31)).alloc o2) w.heap.size):=λo2=>⟨by simp,by simp,by simp,by simp⟩;have HE:Hid (w.cell? ⟨19,0,none⟩=some (.iface 195 (.agg #[.pointer (some ⟨27,49,none⟩)]))):=hS.et;clear hS;unfold errE;go_enter Tryz.func16,Tryz.ntmps16;go_wp2_with (first|(go_at_call 28;refine(as_miss a _ _ (cell_keep (HB0.out _ _) HE.out)).mono ?_;rintro e w1 ⟨rfl,hb1⟩;have hp:=(HP0.out _).keep hb1;obtain⟨p0,p1,p2,p3⟩:=id hp;have HP1:Hid (P2 w1 w.heap.size):=hp;have HB1:Hid (Below w.heap.size w w1):=(HB0.out _ _).trans (hb1.mono (by simp;omega));clear hp))
 obtain⟨s0,s1⟩:=HP1.out.put (.int .i64 0) (.int .i64 0);refine bodyPost_ret (v:=.agg #[.int .i64 0,.int .i64 0]) (by simp[results,Tryz.results16,go_sem,s0,s1]) rfl ?_;exact⟨rfl,(HB1.out.setCell (by simp) _).setCell (by simp) _⟩
structure Hit (w w':World) (tb:Nat) (k n:Int):Prop where
 c1:w'.cell? ⟨tb,1,none⟩=some (.int .i64 k)
 c2:w'.cell? ⟨tb,2,none⟩=some (.int .i64 n)
 old:∀b o,b<w.heap.size->b≠tb->w'.cell? ⟨b,o,none⟩=w.cell? ⟨b,o,none⟩∧w'.frozen? ⟨b,o,none⟩=w.frozen? ⟨b,o,none⟩
 below:∀B,B<=tb->B<=w.heap.size->Below B w w'
theorem as_found(x:Value)(k n:Int)(tb:Nat)(o0 o1 o2:Value)(w:World)(hg:w.cell? ⟨19,0,none⟩=some (.iface 195 (.agg #[.pointer (some ⟨27,49,none⟩)])))
 (t0:w.cell? ⟨tb,0,none⟩=some o0) (t1:w.cell? ⟨tb,1,none⟩=some o1) (t2:w.cell? ⟨tb,2,none⟩=some o2) (f0:w.frozen? ⟨tb,0,none⟩=false) (f1:w.frozen? ⟨tb,1,none⟩=false) (f2:w.frozen? ⟨tb,2,none⟩=false) (ox:x.oneCell'=true):
 Calls Tryz.prog 28 #[.iface 81 (.agg #[x,.int .i64 k,.int .i64 n]),.iface 83 (.pointer (some ⟨tb,0,none⟩))] w λev w'=>ev=.returned (.bool true)∧Hit w w' tb k n:=by
 refine(as_hit x k n tb o0 o1 o2 w hg t0 t1 t2 f0 f1 f2 ox).mono ?_;rintro e w' ⟨rfl,rfl⟩;refine⟨rfl,?_⟩;have hb3:Below w.heap.size w (asW w ⟨tb,0,none⟩):=(((Below.refl _ _).alloc (Nat.le_refl _) _).alloc (by simp) _).alloc (by simp;omega) _;have hb4:Below w.heap.size w ((asW w ⟨tb,0,none⟩).alloc (.cells #[x,.int .i64 k,.int .i64 n] 81)):=hb3.alloc hb3.size _;generalize (asW w ⟨tb,0,none⟩).alloc (.cells #[x,.int .i64 k,.int .i64 n] 81)=W at*;have ne:∀{b o c:Nat},o≠c->(⟨b,o,none⟩:Addr)≠⟨b,c,none⟩:=λh e=>h (congrArg Addr.off e);have nb:∀{b o c:Nat},b≠tb->(⟨tb,c,none⟩:Addr)≠⟨b,o,none⟩:=λh e=>h (congrArg Addr.block e).symm;refine⟨?_,?_,λb o hb hne=>⟨?_,?_⟩,λB h1 h2=>?_⟩
 ·rw[World.cell?_setCell_other _ _ _ _ (ne (by decide))];exact World.cell?_setCell_same _ _ _ (u:=o1) (by rw[World.cell?_setCell_other _ _ _ _ (ne (by decide))];exact cell_keep hb4 t1)
 ·exact World.cell?_setCell_same _ _ _ (u:=o2) (by rw[World.cell?_setCell_other _ _ _ _ (ne (by decide)),World.cell?_setCell_other _ _ _ _ (ne (by decide))];exact cell_keep hb4 t2)
 ·rw[World.cell?_setCell_other _ _ _ _ (nb hne),World.cell?_setCell_other _ _ _ _ (nb hne),World.cell?_setCell_other _ _ _ _ (nb hne)];exact(bcell hb4).1 b o hb
 ·simp only[World.frozen?_setCell];exact(bcell hb4).2 b o hb
 ·exact(((hb4.mono h2).setCell (p:=⟨tb,0,none⟩) h1 _).setCell (p:=⟨tb,1,none⟩) h1 _).setCell (p:=⟨tb,2,none⟩) h1 _
theorem place_fault{w:World}{adr:Nat->Addr}(hS:SentAt w adr)(a:Addr)(k n:Int):Calls Tryz.prog 16 #[errF a k n] w λe w'=>e=.returned (.agg #[.int .i64 k,.int .i64 n])∧Below w.heap.size w w':=by
 have HB0:Hid (∀o1 o2,Below w.heap.size w ((w.alloc o1).alloc o2)):=λo1 o2=>((Below.refl _ _).alloc (Nat.le_refl _) _).alloc (by simp) _;have HP0:Hid (∀o2,P2 ((w.alloc (.cells #[.int .i64 0,.int .i64 0] 31)).alloc o2) w.heap.size):=λo2=>⟨by simp,by simp,by simp,by simp⟩;have HE:Hid (w.cell? ⟨19,0,none⟩=some (.iface 195 (.agg #[.pointer (some ⟨27,49,none⟩)]))):=hS.et;clear hS;unfold errF;go_enter Tryz.func16,Tryz.ntmps16;go_wp2_with (first|(go_at_call 28;refine(as_found _ k n _ .nilIface (.int .i64 0) (.int .i64 0) _ (cell_keep (HB0.out _ _) HE.out) (by simp) (by simp) (by simp) (by simp) (by simp) (by simp) rfl).mono ?_;rintro e w1 ⟨rfl,hh⟩;have c1:=hh.c1;have c2:=hh.c2;have hp:P2 w1 w.heap.size:=⟨by rw[(hh.old _ 0 (by simp;omega) (by omega)).1];exact(HP0.out _).1,by rw[(hh.old _ 1 (by simp;omega) (by omega)).1];exact(HP0.out _).2.1,by rw[(hh.old _ 0 (by simp;omega) (by omega)).2];exact(HP0.out _).2.2.1,by rw[(hh.old _ 1 (by simp;omega) (by omega)).2];exact(HP0.out _).2.2.2⟩;obtain⟨p0,p1,p2,p3⟩:=id hp;have HP1:Hid (P2 w1 w.heap.size):=hp;have HB1:Hid (Below w.heap.size w w1):=(HB0.out _ _).trans (hh.below _ (by omega) (by simp;omega));clear hp hh))
 obtain⟨s0,s1⟩:=HP1.out.put (.int .i64 k) (.int .i64 n);refine bodyPost_ret (v:=.agg #[.int .i64 k,.int .i64 n]) (by simp[results,Tryz.results16,go_sem,s0,s1]) rfl ?_;exact⟨rfl,(HB1.out.setCell (by simp) _).setCell (by simp) _⟩
end Go.Proofs.YtcpcplaeaimmpaaGreatDoor
namespace Go.Proofs.YtcpcplaeaimmpaaGreatDoor
open Go.RowKit Go.Sort
def pChk(s:ByteArray):Nat×Nat:=match pRead s with
 |.error e=>e
 |.ok _=>(0,0)
theorem read_cd{s:ByteArray}{c a:Nat}(h:pRead s=.error (c,a)):c=1∨c=2∨c=3∨c=4∨c=5:=by
 unfold pRead at h;split at h
 ·cases h;exact Or.inl rfl
 ·match h1:pMod s 0,h with
  |.error (c',a'),h=>
   cases h;have:=cd_mod s 0 c a h1;omega
  |.ok (x,q),h=>
   simp only at h;match h2:bst none (mFaults x.2.1 x.2.2),h with
   |some e,h=>
    cases h;have hm:=((bst_spec _ none).1 _ h2).1;rcases hm with hm|hm
    ·obtain⟨d,hd,h3⟩:=List.mem_flatMap.1 hm;rcases List.mem_append.1 h3 with h4|h4
     ·have:=(fK_mem _ _ _ h4).1;simp only at this;omega
     ·have:=gE_kind _ 31 _ _ _ ((fE_mem _ 31 _ _ _).2 h4);simp only at this;omega
    ·cases hm
theorem kc_ix{c:Nat}(h:c=1∨c=2∨c=3∨c=4∨c=5):kCode (kIx c)=(c:Int):=by
 rcases h with rfl|rfl|rfl|rfl|rfl<;>rfl
theorem kix_in{c:Nat}(h:c=1∨c=2∨c=3∨c=4∨c=5):1<=kIx c∧kIx c<19:=by
 rcases h with rfl|rfl|rfl|rfl|rfl<;>decide
theorem fldPl1(x y:Value)(w:World):Sem.run Tryz.prog (Instr.field 31 (.agg #[x,y]) 1) w=.ok y w:=by kernel_rfl
theorem check_any{s:ByteArray}{adr:Nat->Addr}{w:World}(hE:s.size<=2000->∀B P W,PExprD B P W adr s)(hA:SentAt w adr)(hS:SY w adr):Calls Tryz.prog 12 #[.string s] w λe w'=>Below w.heap.size w w'∧e=.returned (.tuple #[.int .i64 ((pChk s).1:Int),.int .i64 ((pChk s).2:Int)]):=by
 have HR:=hid (read_any (s:=s) hE hS);have HA:=hid hA;have F:=fldPl1;clear hA hS;match h:pRead s with
 |.error (c,a)=>
  have hc:=read_cd h;have HK:Hid (kCode (kIx c)=(c:Int)):=kc_ix hc;have HI:Hid (1<=kIx c∧kIx c<19):=kix_in hc;have HT:Hid (pChk s=(c,a)):=by show _=_;unfold pChk;rw[h]
  have HRD:Hid (Calls Tryz.prog 21 #[.string s] w λe w1=>e=.returned (.tuple #[.agg #[.string ⟨#[]⟩,.slice none 0 0,.slice none 0 0],errF (adr (kIx c)) 0 (a:Int)])∧Hid (Below w.heap.size w w1)):=by
   refine HR.out.mono ?_;rintro e w1 ⟨hb,h2⟩;rw[h]at h2;exact⟨h2,hb⟩
  unfold errF at HRD;clear h HR hc;go_enter Tryz.func12,Tryz.ntmps12;go_wp2_with (first
   |(go_at_call 21;refine HRD.out.mono ?_;rintro e w1 ⟨rfl,HB1⟩)
   |(go_at_call 14;refine(kind_fault (HA.out.keep (HB1.out.trans (((Below.refl w1.heap.size w1).alloc (Nat.le_refl _) _).mono HB1.out.size))) (kIx c) ⟨by have:=HI.out;omega,HI.out.2⟩ 0 (a:Int)).mono ?_;rintro e w2 ⟨rfl,hb2⟩;have HB2:=hid ((HB1.out.trans (((Below.refl w1.heap.size w1).alloc (Nat.le_refl _) _).mono HB1.out.size)).trans (hb2.mono (Nat.le_trans HB1.out.size (by simp))));clear hb2)
   |(go_at_call 16;refine(place_fault (HA.out.keep HB2.out) (adr (kIx c)) 0 (a:Int)).mono ?_;rintro e w3 ⟨rfl,hb3⟩;have HB3:=hid (HB2.out.trans (hb3.mono HB2.out.size));clear hb3))
  refine bodyPost_ret (v:=.tuple #[.int .i64 (kCode (kIx c)),.int .i64 (a:Int)]) (by simp[results,Tryz.results12,go_sem]) rfl ?_;refine⟨HB3.out,?_⟩;rw[HT.out,HK.out]
 |.ok (nm,im,df)=>
  have HT:Hid (pChk s=(0,0)):=by show _=_;unfold pChk;rw[h]
  have HRD:Hid (Calls Tryz.prog 21 #[.string s] w λe w1=>∃ip n1 c1 dp n2 c2,e=.returned (.tuple #[.agg #[.string nm,.slice ip n1 c1,.slice dp n2 c2],.nilIface])∧Hid (Below w.heap.size w w1)):=by
   refine HR.out.mono ?_;rintro e w1 ⟨hb,h2⟩;rw[h]at h2;obtain⟨ip,n1,c1,dp,n2,c2,dfs,h3,-⟩:=h2;exact⟨ip,n1,c1,dp,n2,c2,h3,hb⟩
  clear h HR;go_enter Tryz.func12,Tryz.ntmps12;go_wp2_with (first
   |(go_at_call 21;refine HRD.out.mono ?_;rintro e w1 ⟨ip,n1,c1,dp,n2,c2,rfl,HB1⟩)
   |(go_at_call 14;refine(kind_nil _).mono ?_;rintro e w2 ⟨rfl,rfl⟩)
   |(go_at_call 16;refine(place_nil _).mono ?_;rintro e w3 ⟨rfl,hb3⟩;have HB3:=hid ((HB1.out.trans (((Below.refl w1.heap.size w1).alloc (Nat.le_refl _) _).mono HB1.out.size)).trans (hb3.mono (Nat.le_trans HB1.out.size (by simp))));clear hb3))
  refine bodyPost_ret (v:=.tuple #[.int .i64 0,.int .i64 0]) (by simp[results,Tryz.results12,go_sem]) rfl ?_;refine⟨HB3.out,?_⟩;rw[HT.out];rfl
def ObjsIn(w:World)(p:Option Addr)(l:List LObj):Prop:=
 ∀i (h:i<l.length),∃b o ip ic gp gc,p=some ⟨b,o,none⟩∧w.cell? ⟨b,o+i*3,none⟩=some (.string l[i].name)∧w.cell? ⟨b,o+i*3+1,none⟩=some (.slice ip l[i].imps.length ic)∧w.cell? ⟨b,o+i*3+2,none⟩=some (.slice gp l[i].globs.length gc)∧ObjAt w (.agg #[.string l[i].name,.slice ip l[i].imps.length ic,.slice gp l[i].globs.length gc]) l[i]
def ObjsAt(w:World)(v:Value)(l:List LObj):Prop:=∃p cap,v=.slice p l.length cap∧short l.length∧ObjsIn w p l
theorem ObjsIn.keep{w w':World}{p:Option Addr}{l:List LObj}(h:ObjsIn w p l)(hb:Below w.heap.size w w'):ObjsIn w' p l:=λi hi=>by
 obtain⟨b,o,ip,ic,gp,gc,e,h0,h1,h2,h3⟩:=h i hi;exact⟨b,o,ip,ic,gp,gc,e,cell_keep hb h0,cell_keep hb h1,cell_keep hb h2,h3.keep hb⟩
theorem ObjsAt.keep{w w':World}{v:Value}{l:List LObj}(h:ObjsAt w v l)(hb:Below w.heap.size w w'):ObjsAt w' v l:=by
 obtain⟨p,c,e,hs,h⟩:=h;exact⟨p,c,e,hs,h.keep hb⟩
theorem ObjAt.globs{w:World}{O:LObj}{s:ByteArray}{iv gv:Value}(h:ObjAt w (.agg #[.string s,iv,gv]) O):ImpsAt w iv O.imps∧GlobsAt w gv O.globs:=by
 obtain⟨ia,ga,e,-,h1,h2⟩:=h;obtain⟨-,rfl,rfl⟩:s=O.name∧iv=ia∧gv=ga:=by simpa using e
 exact⟨h1,h2⟩
def fstF{α:Type}(p:Nat->α->Bool):List α->Nat->Option Nat
 |[],_=>none
 |x::r,k=>if p k x then some k else fstF p r (k+1)
theorem fstF_at{α:Type}(p:Nat->α->Bool)(l:List α){k:Nat}(hk:k<l.length):fstF p (l.drop k) k=if p k l[k] then some k else fstF p (l.drop (k+1)) (k+1):=by
 rw[List.drop_eq_getElem_cons hk,fstF]
theorem fstF_end{α:Type}(p:Nat->α->Bool)(l:List α){k:Nat}(hk:l.length<=k):fstF p (l.drop k) k=none:=by
 rw[List.drop_of_length_le hk,fstF]
theorem fstF_ge{α:Type}{p:Nat->α->Bool}:∀{l:List α} {k n:Nat},fstF p l k=some n->k<=n∧n<k+l.length
 |x::r,k,n,h=>by
  rw[fstF]at h;split at h
  ·cases h;simp
  ·have:=fstF_ge h;simp only[List.length_cons];omega
theorem fstF_none{α:Type}{p:Nat->α->Bool}:∀{l:List α} {k:Nat},fstF p l k=none->∀i (hi:i<l.length),p (k+i) l[i]=false
 |x::r,k,h,i,hi=>by
  rw[fstF]at h;split at h
  ·cases h
  ·rename_i hx
   cases i with
   |zero=>simpa using hx
   |succ j=>
    have:=fstF_none h j (by simpa using hi);rw[show k+(j+1)=k+1+j by omega];exact this
theorem fstF_congr{α:Type}{p q:Nat->α->Bool}:∀{l:List α} {k:Nat},(∀i (hi:i<l.length),p (k+i) l[i]=q (k+i) l[i])->fstF p l k=fstF q l k
 |[],_,_=>rfl
 |x::r,k,h=>by
  have e:fstF p r (k+1)=fstF q r (k+1):=fstF_congr λi hi=>by
   have:=h (i+1) (by simpa using hi);rw[show k+1+i=k+(i+1) by omega];exact this
  have e0:p k x=q k x:=h 0 (by simp);rw[fstF,fstF,e,e0]
def exG(t:ByteArray):List LGlob->Nat->Option (Nat×Int)
 |[],_=>none
 |g::r,n=>if g.exp && decide (g.name=t) then some (n,g.arity) else exG t r (n+1)
def exO(t:ByteArray):List LObj->Nat->Nat->Option (Nat×Nat×Int)
 |[],_,_=>none
 |O::r,k,n=>match exG t O.globs n with
  |some (m,a)=>some (m,k,a)
  |none=>exO t r (k+1) (n+O.globs.length)
def expo(Os:List LObj)(t:ByteArray):Option (Nat×Nat×Int):=exO t Os 0 0
def gBase(Os:List LObj)(k:Nat):Nat:=((Os.take k).map λO=>O.globs.length).sum
theorem gBase_succ{Os:List LObj}{k:Nat}(hk:k<Os.length):gBase Os (k+1)=gBase Os k+Os[k].globs.length:=by
 unfold gBase;rw[List.take_succ_eq_append_getElem hk,List.map_append,List.sum_append];simp
noncomputable def okO(O:LObj):Bool:=valsG O && (sBad (O.imps.length+O.globs.length) O.globs 0).isNone
def twB(Os:List LObj)(k:Nat)(O:LObj):Bool:=O.globs.any λg=>g.exp && (match expo Os g.name with|some (_,who,_)=>decide (who<k)|none=>decide (0<k))
def miB(Os:List LObj)(O:LObj):Bool:=O.imps.any λi=>(expo Os i.name).isNone
def arB2(Os:List LObj)(O:LObj):Bool:=O.imps.any λi=>decide ((match expo Os i.name with|some (_,_,a)=>a|none=>0)≠i.arity)
def sz1(O:LObj):Nat:=(O.globs.map λg=>g.code.length).sum
def sz(Os:List LObj):Nat:=(Os.map sz1).sum
def orE(i:Nat)(a:Option Nat)(r:Option (Nat×Nat)):Option (Nat×Nat):=match a with
 |some k=>some (i,k)
 |none=>r
def lnkX(Os:List LObj)(entry:ByteArray):Option (Nat×Nat):=match expo Os entry with
 |none=>some (17,0)
 |some (_,_,a)=>if a≠0 then some (17,0) else if 200000<sz Os then some (18,0) else none
noncomputable def lnkE(Os:List LObj)(entry:ByteArray):Option (Nat×Nat):=
 if 8<Os.length then some (18,0) else orE 0 (fstF (λ_ O=>!okO O) Os 0) (orE 14 (fstF (twB Os) Os 0) (orE 15 (fstF (λ_=>miB Os) Os 0) (orE 16 (fstF (λ_=>arB2 Os) Os 0) (lnkX Os entry))))
def numb(Os:List LObj)(O:LObj)(first:Nat)(a:Int):Int:=
 if a<(O.imps.length:Int) then (match (O.imps[a.toNat]?).bind λi=>expo Os i.name with|some (n,_,_)=>(n:Int)|none=>-1) else (first:Int)+a-(O.imps.length:Int)
def mvI(Os:List LObj)(O:LObj)(first:Nat)(i:LIns):LIns:=if i.op=1 then {i with a:=numb Os O first i.a} else i
def mvG(Os:List LObj)(O:LObj)(first:Nat)(g:LGlob):LGlob:={g with code:=g.code.map (mvI Os O first)}
def imgF(Os:List LObj):List LObj->Nat->List LGlob
 |[],_=>[]
 |O::r,n=>O.globs.map (mvG Os O n)++imgF Os r (n+O.globs.length)
def img(Os:List LObj):List LGlob:=imgF Os Os 0
def imgE(Os:List LObj)(entry:ByteArray):Int:=match expo Os entry with|some (n,_,_)=>(n:Int)|none=>-1
structure Few (Os:List LObj):Prop where
 n:Os.length<=8
 g:∀O∈Os,O.globs.length*56<=140737488351232∧O.imps.length*24<=140737488351232
theorem Few.base{Os:List LObj}(h:Few Os):∀k,k<=Os.length->gBase Os k<=k*140737488355328
 |0,_=>by simp[gBase]
 |k+1,hk=>by
  have:=h.base k (by omega);have:=(h.g Os[k] (List.getElem_mem _)).1;rw[gBase_succ (by omega)];omega
theorem row_kp{w w':World}{B:Nat}{e:TypeId}{size n:Nat}{v:Value}{xs:List Value}(h:w.ownsRow B e size v n xs)(hb:Below w.heap.size w w'):w'.ownsRow B e size v n xs:=row_fr h λb hm=>hb.block b (by
 rcases h.2 with⟨h1,-⟩|⟨g,cap,cur,rfl,-,hg,-⟩
 ·subst h1;simp[vB,Value.ownBlock]at hm
 ·obtain rfl:b=g:=by simpa[vB,Value.ownBlock]using hm
  exact(Array.getElem?_eq_some_iff.1 hg).1)
theorem row_low{w:World}{B:Nat}{e:TypeId}{size n b:Nat}{v:Value}{xs:List Value}(h:w.ownsRow B e size v n xs)(hv:v.ownBlock=some b):B<=b:=by
 rcases h.2 with⟨h1,-⟩|⟨g,cap,cur,rfl,hB,-⟩
 ·subst h1;cases hv
 ·obtain rfl:g=b:=by simpa[Value.ownBlock]using hv
  exact hB
theorem row_zero{w:World}{B:Nat}{e:TypeId}{size n:Nat}{v:Value}{xs:List Value}(h:w.ownsRow B e size v n xs):w.ownsRow 0 e size v n xs:=⟨h.1,by
 rcases h.2 with hn|⟨g,cap,cur,e1,-,h3⟩
 ·exact .inl hn
 ·exact .inr ⟨g,cap,cur,e1,Nat.zero_le _,h3⟩⟩
theorem cell_same{w w':World}{b j:Nat}{v:Value}(e:w'.heap[b]?=w.heap[b]?)(h:w.cell? ⟨b,j,none⟩=some v):w'.cell? ⟨b,j,none⟩=some v:=by rw[World.cell?_of_block (a:=⟨b,j,none⟩) e];exact h
structure Gr (W0 wr:World) (e:TypeId) (size:Nat) (v:Value) (n:Nat) (xs:List Value):Prop where
 low:Below W0.heap.size W0 wr
 row:wr.ownsRow W0.heap.size e size v n xs
theorem Gr.next{W0 wr Z w2:World}{e:TypeId}{size n:Nat}{v:Value}{xs:List Value}(h:Gr W0 wr e size v n xs)(hb:Below wr.heap.size wr Z)(hg:Z.grownBy w2 v.ownBlock){v':Value}{n':Nat}{ys:List Value}(hown:w2.ownsRow W0.heap.size e size v' n' ys):Gr W0 w2 e size v' n' ys:=by
 have:=h.low.size;have:=hb.size;exact⟨(h.low.trans (hb.mono (by omega))).grown hg (by omega) λk hk=>row_low h.row hk,hown⟩
theorem ofn{b i j:Nat}(h:i≠j):(⟨b,i,none⟩:Addr)≠⟨b,j,none⟩:=λe=>h (congrArg Addr.off e)
structure FB (w:World) (b n:Nat) (f:Nat->Value):Prop where
 c:∀j,j<n->w.cell? ⟨b,j,none⟩=some (f j)
 fz:∀j,w.frozen? ⟨b,j,none⟩=false
 lt:b<w.heap.size
theorem FB.of_block{w w':World}{b n:Nat}{f:Nat->Value}(h:FB w b n f)(e:w'.heap[b]?=w.heap[b]?)(hz:w.heap.size<=w'.heap.size):FB w' b n f:=
 ⟨λj hj=>by rw[World.cell?_of_block (a:=⟨b,j,none⟩) e];exact h.c j hj,λj=>by rw[World.frozen?_of_block (a:=⟨b,j,none⟩) e];exact h.fz j,Nat.lt_of_lt_of_le h.lt hz⟩
theorem FB.keep{w w':World}{b n:Nat}{f:Nat->Value}(h:FB w b n f)(hb:Below w.heap.size w w'):FB w' b n f:=h.of_block (hb.block b h.lt) hb.size
theorem FB.set{w:World}{b n:Nat}{f:Nat->Value}(h:FB w b n f){c j:Nat}(hc:b≠c)(u:Value):FB (w.setCell ⟨c,j,none⟩ u) b n f:=h.of_block (Below.heap_setCell _ _ _ _ hc) (by simp)
def rowF(s:Nat)(zs:List Value)(cs:List (List Value))(j:Nat):Value:=((cs[j / s]?.getD zs)[j % s]?).getD .nilIface
theorem rowF_other{s:Nat}{zs:List Value}{cs:List (List Value)}{x:List Value}{j:Nat}(h:j / s≠cs.length):rowF s zs (cs++[x]) j=rowF s zs cs j:=by
 unfold rowF;rcases Nat.lt_or_gt_of_ne h with h1|h1
 ·rw[List.getElem?_append_left h1]
 ·rw[List.getElem?_eq_none (l:=cs++[x]) (by simp;omega),List.getElem?_eq_none (l:=cs) (by omega)]
theorem rowF_at{s:Nat}{zs:List Value}{cs:List (List Value)}{j:Nat}(h:j / s<cs.length):rowF s zs cs j=(cs[j / s][j % s]?).getD .nilIface:=by
 unfold rowF;rw[List.getElem?_eq_getElem h];rfl
theorem rowF_new{s:Nat}{zs:List Value}{cs:List (List Value)}{x:List Value}{j:Nat}(h:j / s=cs.length):rowF s zs (cs++[x]) j=(x[j % s]?).getD .nilIface:=by
 rw[rowF_at (by simp;omega)];simp[h]
theorem setc{w:World}{b i j:Nat}{y:Value}(h:i≠j):(w.setCell ⟨b,i,none⟩ y).cell? ⟨b,j,none⟩=w.cell? ⟨b,j,none⟩:=World.cell?_setCell_other _ _ _ _ (ofn h)
theorem FB.put2{w:World}{b n k:Nat}{zs:List Value}{cs:List (List Value)}(h:FB w b (n*2) (rowF 2 zs cs))(hk:cs.length=k)(hn:k<n)(x0 x1:Value):FB ((w.setCell ⟨b,k*2,none⟩ x0).setCell ⟨b,k*2+1,none⟩ x1) b (n*2) (rowF 2 zs (cs++[[x0,x1]])):=by
 subst hk;have e0:=h.c (cs.length*2) (by omega);have e1:=h.c (cs.length*2+1) (by omega);refine⟨λj hj=>?_,λj=>by simp only[World.frozen?_setCell];exact h.fz j,by simpa using h.lt⟩;by_cases h1:j=cs.length*2+1
 ·subst h1;rw[World.cell?_setCell_same _ _ _ (show World.cell? _ _=some (rowF 2 zs cs (cs.length*2+1)) by rw[setc (by omega)];exact e1),rowF_new (by omega),show(cs.length*2+1) % 2=1 by omega];rfl
 ·rw[setc (Ne.symm h1)];by_cases h0:j=cs.length*2
  ·subst h0;rw[World.cell?_setCell_same _ _ _ e0,rowF_new (by omega),show(cs.length*2) % 2=0 by omega];rfl
  ·rw[setc (Ne.symm h0),h.c j hj,rowF_other (by omega)]
theorem FB.put3{w:World}{b n k:Nat}{zs:List Value}{cs:List (List Value)}(h:FB w b (n*3) (rowF 3 zs cs))(hk:cs.length=k)(hn:k<n)(x0 x1 x2:Value):FB (((w.setCell ⟨b,k*3,none⟩ x0).setCell ⟨b,k*3+1,none⟩ x1).setCell ⟨b,k*3+2,none⟩ x2) b (n*3) (rowF 3 zs (cs++[[x0,x1,x2]])):=by
 subst hk;have e0:=h.c (cs.length*3) (by omega);have e1:=h.c (cs.length*3+1) (by omega);have e2:=h.c (cs.length*3+2) (by omega);refine⟨λj hj=>?_,λj=>by simp only[World.frozen?_setCell];exact h.fz j,by simpa using h.lt⟩;by_cases h2:j=cs.length*3+2
 ·subst h2;rw[World.cell?_setCell_same _ _ _ (show World.cell? _ _=some (rowF 3 zs cs (cs.length*3+2)) by rw[setc (by omega),setc (by omega)];exact e2),rowF_new (by omega),show(cs.length*3+2) % 3=2 by omega];rfl
 ·rw[setc (Ne.symm h2)];by_cases h1:j=cs.length*3+1
  ·subst h1;rw[World.cell?_setCell_same _ _ _ (show World.cell? _ _=some (rowF 3 zs cs (cs.length*3+1)) by rw[setc (by omega)];exact e1),rowF_new (by omega),show(cs.length*3+1) % 3=1 by omega];rfl
  ·rw[setc (Ne.symm h1)];by_cases h0:j=cs.length*3
   ·subst h0;rw[World.cell?_setCell_same _ _ _ e0,rowF_new (by omega),show(cs.length*3) % 3=0 by omega];rfl
   ·rw[setc (Ne.symm h0),h.c j hj,rowF_other (by omega)]
theorem FB.made(w:World)(z:Array Value)(n:Nat)(t:TypeId)(hz:0<z.size):FB (w.alloc (.cells (madeCells z n) t)) w.heap.size n (rowF z.size z.toList []):=by
 refine⟨λj hj=>alloc_cell _ _ _ _ _ ?_,λj=>by simp,by simp⟩;have hm:j % z.size<z.size:=Nat.mod_lt _ hz;unfold rowF madeCells;rw[Array.getElem?_map,Array.getElem?_range,if_pos hj];simp[hm]
def mAlt(x:LAlt):List Value:=[.int .u8 x.tag,.int .u16 x.to]
def mAz:List Value:=[.int .u8 0,.int .u16 0]
def MA(lo:Nat)(w:World)(v:Value)(l:List LAlt):Prop:=∃B,lo<=B∧v=.slice (some ⟨B,0,none⟩) l.length l.length∧FB w B (l.length*2) (rowF 2 mAz (l.map mAlt))
theorem MA.keep{lo:Nat}{w w':World}{v:Value}{l:List LAlt}(h:MA lo w v l)(hb:Below w.heap.size w w'):MA lo w' v l:=by
 obtain⟨B,h1,h2,h3⟩:=h;exact⟨B,h1,h2,h3.keep hb⟩
theorem MA.set{lo:Nat}{w:World}{v:Value}{l:List LAlt}(h:MA lo w v l){c j:Nat}(hc:c<lo)(u:Value):MA lo (w.setCell ⟨c,j,none⟩ u) v l:=by
 obtain⟨B,h1,h2,h3⟩:=h;exact⟨B,h1,h2,h3.set (by omega) u⟩
theorem MA.low{lo lo':Nat}{w:World}{v:Value}{l:List LAlt}(h:MA lo w v l)(hl:lo'<=lo):MA lo' w v l:=by
 obtain⟨B,h1,h2,h3⟩:=h;exact⟨B,by omega,h2,h3⟩
theorem Tryz.mAltI:(Tryz.prog.info? 376).map (λi=>(i.zero,i.size,i.bytes))=some (some (.agg #[.int .u8 0,.int .u16 0]),2,4):=by kernel_rfl
theorem mAlt_make(n:Nat)(hn:n<=65536)(w:World):(Instr.makeSlice 323 (.int .i64 (n:Int)) (.int .i64 (n:Int))).run Tryz.prog w=.ok (.slice (some ⟨w.heap.size,0,none⟩) n n) (w.alloc (.cells (madeCells #[.int .u8 0,.int .u16 0] (n*2)) 376)):=by
 obtain⟨i,hi,hii⟩:=Option.map_eq_some_iff.1 Tryz.mAltI;simp only[Prod.mk.injEq]at hii;obtain⟨hz0,hz1,hz2⟩:=hii;rw[run_make (P:=Tryz.prog) w 323 376 i _ Tryz.underlying323 hi hz0 .i64 .i64 n n (by omega) (by omega) (by rw[hz2];omega) (by omega),hz1];simp[Value.cells]
theorem altsOf_any(l:List LAlt)(v:Value)(w:World)(h:AltsAt w v l)(hl:l.length<=65536)(hg:∀x∈l,0<=x.tag∧x.tag<256∧0<=x.to∧x.to<65536):
 Calls Tryz.prog 167 #[v] w λe w'=>Below w.heap.size w w'∧∃B,e=.returned (.slice (some ⟨B,0,none⟩) l.length l.length)∧MA w.heap.size w' (.slice (some ⟨B,0,none⟩) l.length l.length) l:=by
 obtain⟨p,cap,rfl,hs,hI⟩:=h.open;have HI:=hid hI;have HG:=hid (λk (hk:k<l.length)=>hg l[k] (List.getElem_mem _));have hmk:=mAlt_make l.length hl;clear h hI hg;go_enter Tryz.func167,Tryz.ntmps167;go_wp2;go_loopw [11] (λkv wr=>∃k:Nat,k<=l.length∧kv=.int .i64 (k:Int)∧Hid (Below w.heap.size w wr∧FB wr w.heap.size (l.length*2) (rowF 2 mAz ((l.take k).map mAlt)))) (λkv _=>l.length-(intOf kv).toNat)
 case atStart=>exact⟨0,Nat.zero_le _,rfl,(Below.refl _ _).alloc (Nat.le_refl _) _,FB.made w _ _ _ (by simp)⟩
 case round=>
  obtain⟨k,hk,rfl,HS⟩:=hrel;rename World=>wr
  by_cases hlt:k<l.length
  ·have h0:(0:Int)<=(k:Int):=by omega
   have h1:(k:Int)<(l.length:Int):=by omega
   obtain⟨b,o,rfl,c0,c1⟩:=HI.out _ HS.out.1 k hlt;obtain⟨t0,t1,t2,t3⟩:=HG.out k hlt;have hb:Below wr.heap.size wr (wr.alloc (.cells #[.int .i64 l[k].tag,.int .i64 l[k].to] 91)):=(Below.refl _ _).alloc (Nat.le_refl _) _;have hF1:=HS.out.2.keep hb;have d0:=hF1.c (k*2) (by omega);have d1:=hF1.c (k*2+1) (by omega);have f0:=hF1.fz (k*2);have f1:=hF1.fz (k*2+1);have HN:=hid (hF1.put2 (k:=k) (by simp;omega) hlt (.int .u8 l[k].tag) (.int .u16 l[k].to));have HT:Hid ((l.take (k+1)).map mAlt=(l.take k).map mAlt++[[.int .u8 l[k].tag,.int .u16 l[k].to]]):=by
    show _=_;rw[List.take_succ_eq_append_getElem hlt,List.map_append];rfl
   have hzw:=HS.out.1.size;have HLW:=hid HS.out.1;have w1:IntKind.u8.wrap l[k].tag=l[k].tag:=by unfold IntKind.wrap;simp[IntKind.bits,IntKind.signed];omega
   have w2:IntKind.u16.wrap l[k].to=l[k].to:=by unfold IntKind.wrap;simp[IntKind.bits,IntKind.signed];omega
   clear hb hF1 HS;generalize l[k].tag=tg at*;generalize l[k].to=tt at*;go_wp2;exact⟨⟨k+1,by omega,by go_num,((HLW.out.alloc hzw _).setCell (Nat.le_refl _) _).setCell (Nat.le_refl _) _,by rw[HT.out];exact HN.out⟩,by simp[intOf];omega⟩
  ·obtain rfl:k=l.length:=by omega
   have hge:¬(l.length:Int)<(l.length:Int):=by omega
   go_wp2;go_ret;have hF:=HS.out.2;rw[List.take_length]at hF;exact⟨HS.out.1,_,rfl,_,Nat.le_refl _,rfl,hF⟩
end Go.Proofs.YtcpcplaeaimmpaaGreatDoor

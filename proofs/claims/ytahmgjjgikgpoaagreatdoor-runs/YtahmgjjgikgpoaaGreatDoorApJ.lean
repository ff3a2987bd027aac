import Derived.Test.YtahmgjjgikgpoaaGreatDoorJwJ
set_option maxRecDepth 100000
set_option maxHeartbeats 1000000
namespace Go.Proofs.YtahmgjjgikgpoaaGreatDoor
open Go.RowKit Go.Sort
def Lk(v u:Value):Prop:=u=v∨(∃s s',v=.string s∧u=.string s')∨(∃x y,v=.int .i64 x∧u=.int .i64 y)∨(∃x y,v=.bool x∧u=.bool y)∨(∃p n c,v=.slice p n c∧u=.slice none 0 0)
theorem Lk.trans{v u x:Value}(h:Lk v u)(k:Lk u x):Lk v x:=by
 rcases k with rfl|⟨s,s',rfl,rfl⟩|⟨y,z,rfl,rfl⟩|⟨y,z,rfl,rfl⟩|⟨p,n,c,rfl,rfl⟩
 ·exact h
 ·rcases h with e|⟨a,b,e1,e2⟩|⟨a,b,e1,e2⟩|⟨a,b,e1,e2⟩|⟨a,b,c,e1,e2⟩
  ·exact Or.inr (Or.inl ⟨_,_,e.symm,rfl⟩)
  ·exact Or.inr (Or.inl ⟨_,_,e1,rfl⟩)
  all_goals cases e2
 ·rcases h with e|⟨a,b,e1,e2⟩|⟨a,b,e1,e2⟩|⟨a,b,e1,e2⟩|⟨a,b,c,e1,e2⟩
  ·exact Or.inr (Or.inr (Or.inl ⟨_,_,e.symm,rfl⟩))
  ·cases e2
  ·exact Or.inr (Or.inr (Or.inl ⟨_,_,e1,rfl⟩))
  all_goals cases e2
 ·rcases h with e|⟨a,b,e1,e2⟩|⟨a,b,e1,e2⟩|⟨a,b,e1,e2⟩|⟨a,b,c,e1,e2⟩
  ·exact Or.inr (Or.inr (Or.inr (Or.inl ⟨_,_,e.symm,rfl⟩)))
  ·cases e2
  ·cases e2
  ·exact Or.inr (Or.inr (Or.inr (Or.inl ⟨_,_,e1,rfl⟩)))
  ·cases e2
 ·rcases h with e|⟨a,b,e1,e2⟩|⟨a,b,e1,e2⟩|⟨a,b,e1,e2⟩|⟨a,b,d,e1,e2⟩
  ·exact Or.inr (Or.inr (Or.inr (Or.inr ⟨_,_,_,e.symm,rfl⟩)))
  ·cases e2
  ·cases e2
  ·cases e2
  ·exact Or.inr (Or.inr (Or.inr (Or.inr ⟨_,_,_,e1,rfl⟩)))
theorem Lk.str(s s':ByteArray):Lk (.string s) (.string s'):=Or.inr (Or.inl ⟨_,_,rfl,rfl⟩)
theorem Lk.i(x y:Int):Lk (.int .i64 x) (.int .i64 y):=Or.inr (Or.inr (Or.inl ⟨_,_,rfl,rfl⟩))
theorem Lk.b(x y:Bool):Lk (.bool x) (.bool y):=Or.inr (Or.inr (Or.inr (Or.inl ⟨_,_,rfl,rfl⟩)))
theorem Lk.nil(p:Option Addr)(n c:Nat):Lk (.slice p n c) (.slice none 0 0):=Or.inr (Or.inr (Or.inr (Or.inr ⟨_,_,_,rfl,rfl⟩)))
structure SpI (P:Nat->Prop) (w X:World):Prop where
 os:X.os=w.os
 tape:X.tape=w.tape
 output:X.output=w.output
 size:w.heap.size<=X.heap.size
 fr:∀b,b<w.heap.size->¬P b->X.heap[b]?=w.heap[b]?
 cl:∀b j v,P b->w.cell? ⟨b,j,none⟩=some v->∃u,X.cell? ⟨b,j,none⟩=some u∧Lk v u
 fz:∀b j,P b->w.frozen? ⟨b,j,none⟩=false->X.frozen? ⟨b,j,none⟩=false
section
variable {P:Nat->Prop} {w X:World}
theorem SpI.refl(P:Nat->Prop)(w:World):SpI P w w:=⟨rfl,rfl,rfl,Nat.le_refl _,λ_ _ _=>rfl,λ_ _ v _ h=>⟨v,h,Or.inl rfl⟩,λ_ _ _ h=>h⟩
theorem SpI.set(h:SpI P w X){b j:Nat}{v u:Value}(hb:P b)(hc:w.cell? ⟨b,j,none⟩=some v)(hk:Lk v u):SpI P w (X.setCell ⟨b,j,none⟩ u):=by
 refine⟨h.os,h.tape,h.output,by simpa using h.size,λq hq hp=>?_,λq i x hp hx=>?_,λq i hp hx=>by rw[World.frozen?_setCell];exact h.fz q i hp hx⟩
 ·rw[Below.heap_setCell _ _ _ _ (show q≠b from λe=>hp (e▸hb))];exact h.fr q hq hp
 ·by_cases e:q=b
  ·subst e;by_cases e2:i=j
   ·subst e2;rw[hx]at hc;cases hc;obtain⟨y,hy,-⟩:=h.cl q i _ hp hx;exact⟨u,World.cell?_setCell_same _ _ _ hy,hk⟩
   ·rw[setc (Ne.symm e2)];exact h.cl q i x hp hx
  ·rw[World.cell?_of_block (a:=⟨q,i,none⟩) (Below.heap_setCell _ _ _ _ e)];exact h.cl q i x hp hx
theorem SpI.alloc(h:SpI P w X)(hP:∀b,P b->b<w.heap.size)(o:Obj):SpI P w (X.alloc o):=by
 have hb:Below X.heap.size X (X.alloc o):=(Below.refl _ _).alloc (Nat.le_refl _) _;have hs:=h.size;exact⟨h.os,h.tape,h.output,by simp;omega,λq hq hp=>(hb.block q (by omega)).trans (h.fr q hq hp),λq i x hp hx=>by
  obtain⟨y,hy,k⟩:=h.cl q i x hp hx;exact⟨y,cell_keep hb hy,k⟩,λq i hp hx=>by
  rw[World.frozen?_of_block (a:=⟨q,i,none⟩) (hb.block q (by have:=hP q hp;omega))];exact h.fz q i hp hx⟩
def AlL(P:Nat->Prop)(w:World)(v:Value):Prop:=∃p n c,v=.slice p n c∧n<140737488355328∧(n=0∨∃g,p=some ⟨g,0,none⟩∧P g∧(∀j,w.frozen? ⟨g,j,none⟩=false)∧∀i,i<n->∃x y,w.cell? ⟨g,i*2,none⟩=some (.int .i64 x)∧w.cell? ⟨g,i*2+1,none⟩=some (.int .i64 y))
def ImL(P:Nat->Prop)(w:World)(v:Value):Prop:=∃p n c,v=.slice p n c∧n<140737488355328∧(n=0∨∃g,p=some ⟨g,0,none⟩∧P g∧(∀j,w.frozen? ⟨g,j,none⟩=false)∧∀i,i<n->∃x y,w.cell? ⟨g,i*2,none⟩=some (.string x)∧w.cell? ⟨g,i*2+1,none⟩=some (.int .i64 y))
def CoL(P:Nat->Prop)(w:World)(v:Value):Prop:=∃p n c,v=.slice p n c∧n<140737488355328∧(n=0∨∃g,p=some ⟨g,0,none⟩∧P g∧(∀j,w.frozen? ⟨g,j,none⟩=false)∧∀i,i<n->∃x y av,w.cell? ⟨g,i*3,none⟩=some (.int .i64 x)∧w.cell? ⟨g,i*3+1,none⟩=some (.int .i64 y)∧w.cell? ⟨g,i*3+2,none⟩=some av∧AlL P w av)
def GlL(P:Nat->Prop)(w:World)(v:Value):Prop:=∃p n c,v=.slice p n c∧n<140737488355328∧(n=0∨∃g,p=some ⟨g,0,none⟩∧P g∧(∀j,w.frozen? ⟨g,j,none⟩=false)∧∀i,i<n->∃x y z cv,w.cell? ⟨g,i*4,none⟩=some (.string x)∧w.cell? ⟨g,i*4+1,none⟩=some (.int .i64 y)∧w.cell? ⟨g,i*4+2,none⟩=some (.bool z)∧w.cell? ⟨g,i*4+3,none⟩=some cv∧CoL P w cv)
theorem lk_slice{v u:Value}{p:Option Addr}{n c:Nat}(h:Lk v u)(e:v=.slice p n c):u=.slice p n c∨u=.slice none 0 0:=by
 rcases h with rfl|⟨s,s',e1,-⟩|⟨x,y,e1,-⟩|⟨x,y,e1,-⟩|⟨p',n',c',-,e2⟩
 ·exact Or.inl e
 ·rw[e]at e1;cases e1
 ·rw[e]at e1;cases e1
 ·rw[e]at e1;cases e1
 ·exact Or.inr e2
theorem AlL.lk{v u:Value}(h:AlL P w v)(k:Lk v u):AlL P w u:=by
 obtain⟨p,n,c,e,hn,h⟩:=h;rcases lk_slice k e with rfl|rfl
 ·exact⟨p,n,c,rfl,hn,h⟩
 ·exact⟨none,0,0,rfl,by omega,Or.inl rfl⟩
theorem CoL.lk{v u:Value}(h:CoL P w v)(k:Lk v u):CoL P w u:=by
 obtain⟨p,n,c,e,hn,h⟩:=h;rcases lk_slice k e with rfl|rfl
 ·exact⟨p,n,c,rfl,hn,h⟩
 ·exact⟨none,0,0,rfl,by omega,Or.inl rfl⟩
theorem ImL.lk{v u:Value}(h:ImL P w v)(k:Lk v u):ImL P w u:=by
 obtain⟨p,n,c,e,hn,h⟩:=h;rcases lk_slice k e with rfl|rfl
 ·exact⟨p,n,c,rfl,hn,h⟩
 ·exact⟨none,0,0,rfl,by omega,Or.inl rfl⟩
theorem GlL.lk{v u:Value}(h:GlL P w v)(k:Lk v u):GlL P w u:=by
 obtain⟨p,n,c,e,hn,h⟩:=h;rcases lk_slice k e with rfl|rfl
 ·exact⟨p,n,c,rfl,hn,h⟩
 ·exact⟨none,0,0,rfl,by omega,Or.inl rfl⟩
theorem lk_str{s:ByteArray}{u:Value}(h:Lk (.string s) u):∃s',u=.string s':=by
 rcases h with rfl|⟨s,s',-,rfl⟩|⟨x,y,e1,-⟩|⟨x,y,e1,-⟩|⟨p',n',c',e1,-⟩
 ·exact⟨_,rfl⟩
 ·exact⟨_,rfl⟩
 all_goals cases e1
theorem c3_off{b g j:Nat}{x0 x1 x2 u:Value}(hc:C3 X b x0 x1 x2)(hg:g≠b):C3 (X.setCell ⟨g,j,none⟩ u) b x0 x1 x2:=by
 have hb:(X.setCell ⟨g,j,none⟩ u).heap[b]?=X.heap[b]?:=Below.heap_setCell _ _ _ _ (Ne.symm hg);obtain⟨c0,c1,c2,hl⟩:=hc;exact⟨cell_same hb c0,cell_same hb c1,cell_same hb c2,by simpa using hl⟩
def SpC(P:Nat->Prop)(w:World)(b:Nat)(x0 x1 x2:Value)(X:World):Prop:=SpI P w X∧C3 X b x0 x1 x2∧w.heap.size<=b
theorem SpC.set(hP:∀b,P b->b<w.heap.size){b g j:Nat}{x0 x1 x2 v u:Value}(h:SpC P w b x0 x1 x2 X)(hg:P g)(hc:w.cell? ⟨g,j,none⟩=some v)(hk:Lk v u):SpC P w b x0 x1 x2 (X.setCell ⟨g,j,none⟩ u):=
 ⟨h.1.set hg hc hk,c3_off h.2.1 (by have:=hP g hg;have:=h.2.2;omega),h.2.2⟩
theorem spoil_any(hP:∀b,P b->b<w.heap.size)(n rc:Nat)(rp:Option Addr)(hn:n<140737488355328)(hrow:n=0∨∃g,rp=some ⟨g,0,none⟩∧P g∧(∀j,w.frozen? ⟨g,j,none⟩=false)∧∀i,i<n->∃s iv gv,w.cell? ⟨g,i*3,none⟩=some (.string s)∧w.cell? ⟨g,i*3+1,none⟩=some iv∧w.cell? ⟨g,i*3+2,none⟩=some gv∧ImL P w iv∧GlL P w gv):
 Calls Tryz.prog 8 #[.slice rp n rc] w λe w'=>e=.returned (.tuple #[])∧SpI P w w':=by
 have HP:=hid hP;have HROW:=hid hrow;clear hrow hP;go_enter Tryz.func8,Tryz.ntmps8;go_wp2;go_loopw [2] (λkv wr=>∃k:Nat,k<=n∧kv=.int .i64 (k:Int)∧Hid (SpI P w wr)) (λkv _=>n-(intOf kv).toNat)
 case atStart=>exact⟨0,Nat.zero_le _,rfl,SpI.refl _ _⟩
 case round=>
  rename World=>wr
  obtain⟨k,hk,rfl,HS⟩:=hrel;by_cases hlt:k<n
  ·obtain⟨g,rfl,hPg,hfz,hcs⟩:∃g,rp=some ⟨g,0,none⟩∧P g∧(∀j,w.frozen? ⟨g,j,none⟩=false)∧∀i,i<n->∃s iv gv,w.cell? ⟨g,i*3,none⟩=some (.string s)∧w.cell? ⟨g,i*3+1,none⟩=some iv∧w.cell? ⟨g,i*3+2,none⟩=some gv∧ImL P w iv∧GlL P w gv:=by
    rcases HROW.out with h|h
    ·omega
    ·exact h
   have h0:(0:Int)<=(k:Int):=by omega
   have h1:(k:Int)<(n:Int):=by omega
   obtain⟨s,iv,gv,a0,a1,a2,hIm,hGl⟩:=hcs k hlt;obtain⟨u0,q0,l0⟩:=HS.out.cl g _ _ hPg a0;obtain⟨u1,q1,l1⟩:=HS.out.cl g _ _ hPg a1;obtain⟨u2,q2,l2⟩:=HS.out.cl g _ _ hPg a2;obtain⟨s',rfl⟩:=lk_str l0;obtain⟨p1,n1,c1,rfl,hn1,hI1⟩:=hIm.lk l1;obtain⟨p2,n2,c2,rfl,hn2,hG2⟩:=hGl.lk l2;have HROWK:=hid (And.intro a0 (And.intro a1 (And.intro a2 (And.intro l1 (And.intro l2 (And.intro hPg hfz))))));have HI1:=hid hI1;have HG2:=hid hG2;have HN:=hid (C3.new wr (.string s') (.slice p1 n1 c1) (.slice p2 n2 c2) 50);have HSA:=hid (HS.out.alloc HP.out (.cells #[.string s',.slice p1 n1 c1,.slice p2 n2 c2] 50));have HSZ:=hid HS.out.size;clear hcs hIm hGl a0 a1 a2 l0 l1 l2 hI1 hG2 hfz hPg;go_upto_region 3 with fail
   go_cut [3] (λv3 wx=>∃b3:Nat,v3=.pointer (some ⟨b3,0,none⟩)∧Hid (SpC P w b3 (.string s') (.slice p1 n1 c1) (.slice p2 n2 c2) wx))
   case first=>
    go_wp2;go_meet
    exact⟨_,rfl,HSA.out,HN.out,HSZ.out⟩
   case rest=>
    clear HN HSA HSZ HS q0 q1 q2;rename World=>wx
    obtain⟨b3,rfl,HC⟩:=hcut;go_wp2;go_loopw [4] (λjv wi=>∃j:Nat,j<=n1∧jv=.int .i64 (j:Int)∧Hid (SpC P w b3 (.string s') (.slice p1 n1 c1) (.slice p2 n2 c2) wi)) (λjv _=>n1-(intOf jv).toNat)
    case atStart=>exact⟨0,Nat.zero_le _,rfl,HC.out⟩
    case round=>
     clear HC;rename World=>wi
     obtain⟨j,hj,rfl,HC⟩:=hrel;obtain⟨x0,x1,x2,-⟩:=id HC.out.2.1;by_cases hjl:j<n1
     ·obtain⟨g1,rfl,hPg,hfz,hcs⟩:∃g,p1=some ⟨g,0,none⟩∧P g∧(∀j,w.frozen? ⟨g,j,none⟩=false)∧∀i,i<n1->∃x y,w.cell? ⟨g,i*2,none⟩=some (.string x)∧w.cell? ⟨g,i*2+1,none⟩=some (.int .i64 y):=by
       rcases HI1.out with h|h
       ·omega
       ·exact h
      obtain⟨y0,y1,d0,d1⟩:=hcs j hjl;obtain⟨t0,r0,-⟩:=HC.out.1.cl g1 _ _ hPg d0;obtain⟨t1,r1,-⟩:=HC.out.1.cl g1 _ _ hPg d1;have f0:=HC.out.1.fz g1 (j*2) hPg (hfz _);have f1:=HC.out.1.fz g1 (j*2+1) hPg (hfz _);have h2:(0:Int)<=(j:Int):=by omega
      have h3:(j:Int)<(n1:Int):=by omega
      have HC2:=hid ((HC.out.set HP.out hPg d0 (Lk.str _ ⟨#[]⟩)).set HP.out hPg d1 (Lk.i _ 0));clear hcs hfz hPg d0 d1 HC;go_wp2;exact⟨⟨j+1,by omega,by go_num,HC2.out⟩,by simp[intOf];omega⟩
     ·obtain rfl:n1=j:=by omega
      have h2:¬(n1:Int)<(n1:Int):=by omega
      go_wp2;clear h2 hjl hj x0 x1 x2;go_loopw [5] (λjv wi=>∃j:Nat,j<=n2∧jv=.int .i64 (j:Int)∧Hid (SpC P w b3 (.string s') (.slice p1 n1 c1) (.slice p2 n2 c2) wi)) (λjv _=>n2-(intOf jv).toNat)
      case atStart=>exact⟨0,Nat.zero_le _,rfl,HC.out⟩
      case round=>
       clear HC;rename World=>wj
       obtain⟨m,hm,rfl,HC⟩:=hrel;obtain⟨x0,x1,x2,-⟩:=id HC.out.2.1;by_cases hml:m<n2
       ·obtain⟨g2,rfl,hPg2,hfz2,hcs2⟩:∃g,p2=some ⟨g,0,none⟩∧P g∧(∀j,w.frozen? ⟨g,j,none⟩=false)∧∀i,i<n2->∃x y z cv,w.cell? ⟨g,i*4,none⟩=some (.string x)∧w.cell? ⟨g,i*4+1,none⟩=some (.int .i64 y)∧w.cell? ⟨g,i*4+2,none⟩=some (.bool z)∧w.cell? ⟨g,i*4+3,none⟩=some cv∧CoL P w cv:=by
         rcases HG2.out with h|h
         ·omega
         ·exact h
        obtain⟨y0,y1,y2,cv,d0,d1,d2,d3,hCo⟩:=hcs2 m hml;obtain⟨t3,r3,k3⟩:=HC.out.1.cl g2 _ _ hPg2 d3;obtain⟨p3,n3,c3,rfl,hn3,hC3⟩:=hCo.lk k3;have h2:(0:Int)<=(m:Int):=by omega
        have h3:(m:Int)<(n2:Int):=by omega
        have HFG:Hid (∀X,SpC P w b3 (.string s') (.slice p1 n1 c1) (.slice (some ⟨g2,0,none⟩) n2 c2) X->(∃e0 e1 e2 e3,X.cell? ⟨g2,m*4,none⟩=some e0∧X.cell? ⟨g2,m*4+1,none⟩=some e1∧X.cell? ⟨g2,m*4+2,none⟩=some e2∧X.cell? ⟨g2,m*4+3,none⟩=some e3)∧(X.frozen? ⟨g2,m*4,none⟩=false∧X.frozen? ⟨g2,m*4+1,none⟩=false∧X.frozen? ⟨g2,m*4+2,none⟩=false∧X.frozen? ⟨g2,m*4+3,none⟩=false)∧Hid (SpC P w b3 (.string s') (.slice p1 n1 c1) (.slice (some ⟨g2,0,none⟩) n2 c2) ((((X.setCell ⟨g2,m*4,none⟩ (.string ⟨#[]⟩)).setCell ⟨g2,m*4+1,none⟩ (.int .i64 0)).setCell ⟨g2,m*4+2,none⟩ (.bool false)).setCell ⟨g2,m*4+3,none⟩ (.slice none 0 0)))):=λX hX=>by
         obtain⟨e0,q0,-⟩:=hX.1.cl g2 _ _ hPg2 d0;obtain⟨e1,q1,-⟩:=hX.1.cl g2 _ _ hPg2 d1;obtain⟨e2,q2,-⟩:=hX.1.cl g2 _ _ hPg2 d2;obtain⟨e3,q3,-⟩:=hX.1.cl g2 _ _ hPg2 d3;have hnil:Lk cv (.slice none 0 0):=by
          obtain⟨p,n,c,rfl,-⟩:=hCo;exact Lk.nil _ _ _
         exact⟨⟨e0,e1,e2,e3,q0,q1,q2,q3⟩,⟨hX.1.fz g2 _ hPg2 (hfz2 _),hX.1.fz g2 _ hPg2 (hfz2 _),hX.1.fz g2 _ hPg2 (hfz2 _),hX.1.fz g2 _ hPg2 (hfz2 _)⟩,(((hX.set HP.out hPg2 d0 (Lk.str _ _)).set HP.out hPg2 d1 (Lk.i _ _)).set HP.out hPg2 d2 (Lk.b _ _)).set HP.out hPg2 d3 hnil⟩
        have HC3:=hid hC3;clear hcs2 hfz2 hPg2 d0 d1 d2 d3 hCo k3 hC3;go_wp2;go_loopw [7] (λiv wi=>∃i:Nat,i<=n3∧iv=.int .i64 (i:Int)∧Hid (SpC P w b3 (.string s') (.slice p1 n1 c1) (.slice (some ⟨g2,0,none⟩) n2 c2) wi)) (λiv _=>n3-(intOf iv).toNat)
        case atStart=>exact⟨0,Nat.zero_le _,rfl,HC.out⟩
        case round=>
         clear HC r3 x0 x1 x2;rename World=>wk
         obtain⟨i,hi,rfl,HC⟩:=hrel;by_cases hil:i<n3
         ·obtain⟨g3,rfl,hPg3,hfz3,hcs3⟩:∃g,p3=some ⟨g,0,none⟩∧P g∧(∀j,w.frozen? ⟨g,j,none⟩=false)∧∀i,i<n3->∃x y av,w.cell? ⟨g,i*3,none⟩=some (.int .i64 x)∧w.cell? ⟨g,i*3+1,none⟩=some (.int .i64 y)∧w.cell? ⟨g,i*3+2,none⟩=some av∧AlL P w av:=by
           rcases HC3.out with h|h
           ·omega
           ·exact h
          obtain⟨y3,y4,av,d0,d1,d2,p4,n4,c4,rfl,hn4,hA4⟩:=hcs3 i hil;have h4:(0:Int)<=(i:Int):=by omega
          have h5:(i:Int)<(n3:Int):=by omega
          have HFI:Hid (∀X,SpC P w b3 (.string s') (.slice p1 n1 c1) (.slice (some ⟨g2,0,none⟩) n2 c2) X->(∃e0 e1,X.cell? ⟨g3,i*3,none⟩=some e0∧X.cell? ⟨g3,i*3+1,none⟩=some e1)∧(X.cell? ⟨g3,i*3+2,none⟩=some (.slice p4 n4 c4)∨X.cell? ⟨g3,i*3+2,none⟩=some (.slice none 0 0))∧(X.frozen? ⟨g3,i*3,none⟩=false∧X.frozen? ⟨g3,i*3+1,none⟩=false∧X.frozen? ⟨g3,i*3+2,none⟩=false)∧Hid (SpC P w b3 (.string s') (.slice p1 n1 c1) (.slice (some ⟨g2,0,none⟩) n2 c2) (((X.setCell ⟨g3,i*3,none⟩ (.int .i64 20)).setCell ⟨g3,i*3+1,none⟩ (.int .i64 0)).setCell ⟨g3,i*3+2,none⟩ (.slice none 0 0)))):=λX hX=>by
           obtain⟨e0,q0,-⟩:=hX.1.cl g3 _ _ hPg3 d0;obtain⟨e1,q1,-⟩:=hX.1.cl g3 _ _ hPg3 d1;obtain⟨e2,q2,k2⟩:=hX.1.cl g3 _ _ hPg3 d2;refine⟨⟨e0,e1,q0,q1⟩,?_,⟨hX.1.fz g3 _ hPg3 (hfz3 _),hX.1.fz g3 _ hPg3 (hfz3 _),hX.1.fz g3 _ hPg3 (hfz3 _)⟩,((hX.set HP.out hPg3 d0 (Lk.i _ _)).set HP.out hPg3 d1 (Lk.i _ _)).set HP.out hPg3 d2 (Lk.nil _ _ _)⟩;rcases lk_slice k2 rfl with rfl|rfl
           ·exact Or.inl q2
           ·exact Or.inr q2
          have HA4:=hid hA4;clear hcs3 hfz3 hPg3 d0 d1 d2 hA4;go_wp2;go_loopw [8] (λav wi=>∃a:Nat,a<=n4∧av=.int .i64 (a:Int)∧Hid (SpC P w b3 (.string s') (.slice p1 n1 c1) (.slice (some ⟨g2,0,none⟩) n2 c2) wi)) (λav _=>n4-(intOf av).toNat)
          case atStart=>exact⟨0,Nat.zero_le _,rfl,HC.out⟩
          case round=>
           clear HC;rename World=>wl
           obtain⟨a,ha,rfl,HC⟩:=hrel;obtain⟨⟨e0,e1,q0,q1⟩,hq2,⟨f0,f1,f2⟩,HC2⟩:=HFI.out _ HC.out;rcases hq2 with q2|q2
           ·by_cases hal:a<n4
            ·obtain⟨g4,rfl,hPg4,hfz4,hcs4⟩:∃g,p4=some ⟨g,0,none⟩∧P g∧(∀j,w.frozen? ⟨g,j,none⟩=false)∧∀i,i<n4->∃x y,w.cell? ⟨g,i*2,none⟩=some (.int .i64 x)∧w.cell? ⟨g,i*2+1,none⟩=some (.int .i64 y):=by
              rcases HA4.out with h|h
              ·omega
              ·exact h
             obtain⟨y5,y6,d0,d1⟩:=hcs4 a hal;obtain⟨t0,o0,-⟩:=HC.out.1.cl g4 _ _ hPg4 d0;obtain⟨t1,o1,-⟩:=HC.out.1.cl g4 _ _ hPg4 d1;have z0:=HC.out.1.fz g4 (a*2) hPg4 (hfz4 _);have z1:=HC.out.1.fz g4 (a*2+1) hPg4 (hfz4 _);have h6:(0:Int)<=(a:Int):=by omega
             have h7:(a:Int)<(n4:Int):=by omega
             have HC4:=hid ((HC.out.set HP.out hPg4 d0 (Lk.i _ (-1))).set HP.out hPg4 d1 (Lk.i _ 1099511627776));clear hcs4 hfz4 hPg4 d0 d1 HC HC2;go_wp2;exact⟨⟨a+1,by omega,by go_num,HC4.out⟩,by simp[intOf];omega⟩
            ·obtain rfl:a=n4:=by omega
             have h6:¬(a:Int)<(a:Int):=by omega
             clear HC;go_wp2;exact⟨⟨i+1,by omega,by go_num,HC2.out⟩,by simp[intOf];omega⟩
           ·have h6:¬(a:Int)<0:=by omega
            clear HC;go_wp2;exact⟨⟨i+1,by omega,by go_num,HC2.out⟩,by simp[intOf];omega⟩
         ·obtain rfl:i=n3:=by omega
          have h4:¬(i:Int)<(i:Int):=by omega
          obtain⟨⟨e0,e1,e2,e3,q0,q1,q2,q3⟩,⟨f0,f1,f2,f3⟩,HC2⟩:=HFG.out _ HC.out;obtain⟨x0,x1,x2,-⟩:=id HC.out.2.1;clear HFG HC;go_wp2;exact⟨⟨m+1,by omega,by go_num,HC2.out⟩,by simp[intOf];omega⟩
       ·obtain rfl:m=n2:=by omega
        have h2:¬(m:Int)<(m:Int):=by omega
        obtain⟨a0,a1,a2,l1,l2,hPg,hfz⟩:=HROWK.out;obtain⟨e0,q0,-⟩:=HC.out.1.cl g _ _ hPg a0;obtain⟨e1,q1,-⟩:=HC.out.1.cl g _ _ hPg a1;obtain⟨e2,q2,-⟩:=HC.out.1.cl g _ _ hPg a2;have f0:=HC.out.1.fz g (k*3) hPg (hfz _);have f1:=HC.out.1.fz g (k*3+1) hPg (hfz _);have f2:=HC.out.1.fz g (k*3+2) hPg (hfz _);have HC2:=hid (((HC.out.1.set hPg a0 (Lk.str _ ⟨#[]⟩)).set hPg a1 (l1.trans (Lk.nil _ _ _))).set hPg a2 (l2.trans (Lk.nil _ _ _)));clear a0 a1 a2 l1 l2 hPg hfz HC;go_wp2;exact⟨⟨k+1,by omega,by go_num,HC2.out⟩,by simp[intOf];omega⟩
  ·obtain rfl:k=n:=by omega
   have hki:¬((k:Int)<(k:Int)):=by omega
   go_wp2;refine bE ?_;exact⟨rfl,HS.out⟩
end
theorem wpList_app{P:Program}{w:World}{ops:Array Oper}{rest:List Oper}{o:Oper}{a:Act}{Q:Exit->Act->World->Prop}(hgd:o.guard=none)(s x:Operand)(t:TypeId)
 (ho:o.op=.call {callee:=.builtin .append,args:=#[s,x],argTypes:=#[t,t]})
 (base:Nat) (e:TypeId) (i:TypeInfo) (z:Value) (size bytes:Nat) (ht:P.underlying t=some (.slice e)) (hi:P.info? e=some i) (hz:i.zero=some z)
 (hsize:i.size=size) (hby:i.bytes=bytes) (hzs:z.cells.size=size) (hsz:0<size)
 (v:Value) (n:Nat) (xs:List Value) (hs:a.eval s=v) (hown:w.ownsRow base e size v n xs)
 (ad:Addr) (m c:Nat) (news:List Value) (hx:a.eval x=.slice (some ad) m c) (hl:news.length=m*size) (hnews:∀j u,news[j]?=some u->w.cell? (ad.add j)=some u) (h1:∀u∈news,u.oneCell'=true)
 (h63:n+m<=maxLen) (hbytes:(n+m)*bytes<=140737488355328) (hbase:base<=w.heap.size)
 (h:∀p cap w',w'.ownsRow base e size (.slice p (n+m) cap) (n+m) (xs++news)->w.grownBy w' v.ownBlock->((Value.slice p (n+m) cap).ownBlock=v.ownBlock∨(Value.slice p (n+m) cap).ownBlock=some w.heap.size)->wpList P ops Q rest (a.put o.dst (.slice p (n+m) cap)) w'):
 wpList P ops Q (o::rest) a w:=by
 refine wpList_plain hgd λK hK=>?_;obtain⟨v',w',hr,h2,h3,_,h5⟩:=run_append_own_at (P:=P) w base t o.type e i z size bytes ht hi hz hsize hby hzs hsz v n xs hown ad m c news hl hnews h1 h63 hbytes hbase;obtain⟨p,cap,rfl⟩:=row_slice h2;unfold Oper.wp execOp;simp only[ho,resolve,invoke,builtin,Sem.run_bind,Sem.run_pure,Result.andThen_ok,List.map_toArray,List.map_cons,List.map_nil,hs,hx,hr];exact hK _ _ (h p cap w' h2 h3 h5)
end Go.Proofs.YtahmgjjgikgpoaaGreatDoor

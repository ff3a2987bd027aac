import Derived.Test.YtglihimiidiacaaGreatDoorProg
import Derived.WalkKit
import Derived.WalkSpells
import Derived.WalkLawsBesides
import Derived.Deep.QuietTactic
import Derived.BigQuiet
import Derived.Lib.QuietBelow
import Derived.Deep.AppendLies
import Derived.OneCell
import Derived.Deep.RegionLaw
import Derived.Lib.AppendStr
namespace Go.Proofs.YtglihimiidiacaaGreatDoor
open Go.RowKit
def isLet(c:Int):Bool:=decide (97≤c) && decide (c≤122)
def isDig(c:Int):Bool:=decide (48≤c) && decide (c≤57)
set_option maxHeartbeats 400000 in
theorem isLetter_any(c:Int)(w:World):Calls Tryz.prog 139 #[.int .u8 c] w fun e w'=>e=.returned (.bool (isLet c))∧w'=w:=by
 go_enter Tryz.func139,Tryz.ntmps139;go_wp2;all_goals go_ret
 all_goals refine⟨?_,rfl⟩
 all_goals simp_all[isLet]
 all_goals omega
set_option maxHeartbeats 400000 in
theorem isDigit_any(c:Int)(w:World):Calls Tryz.prog 140 #[.int .u8 c] w fun e w'=>e=.returned (.bool (isDig c))∧w'=w:=by
 go_enter Tryz.func140,Tryz.ntmps140;go_wp2;all_goals go_ret
 all_goals refine⟨?_,rfl⟩
 all_goals simp_all[isDig]
 all_goals omega
def arB(c:Int):Bool:=decide (0≤c) && decide (c≤20)
set_option maxHeartbeats 400000 in
theorem isArity_any(c:Int)(w:World):Calls Tryz.prog 141 #[.int .i64 c] w fun e w'=>e=.returned (.bool (arB c))∧w'=w:=by
 go_enter Tryz.func141,Tryz.ntmps141;go_wp2;all_goals go_ret
 all_goals refine⟨?_,rfl⟩
 all_goals simp_all[arB]
 all_goals omega
set_option maxHeartbeats 400000 in
theorem isOp_any(c:Int)(w:World):Calls Tryz.prog 248 #[.int .i64 c] w fun e w'=>e=.returned (.bool (decide (0≤c) && decide (c<21)))∧w'=w:=by
 go_enter Tryz.func248,Tryz.ntmps248;go_wp2;all_goals go_ret
 all_goals refine⟨?_,rfl⟩
 all_goals simp_all
 all_goals omega
def endsB(c:Int):Bool:=c==17||c==18||c==19||c==20
set_option maxHeartbeats 400000 in
theorem ends_any(c:Int)(w:World):Calls Tryz.prog 152 #[.int .i64 c] w fun e w'=>e=.returned (.bool (endsB c))∧w'=w:=by
 go_enter Tryz.func152,Tryz.ntmps152;go_wp2;all_goals go_ret
 all_goals refine⟨?_,rfl⟩
 all_goals simp_all[endsB]
set_option maxHeartbeats 400000 in
theorem kindOf_any(k:Nat)(x:Int)(w:World)(hk:k<21)(hx:w.cell? ⟨24,k*7,none⟩=some (.int .i64 x)):Calls Tryz.prog 216 #[.int .i64 k] w fun e w'=>e=.returned (.int .i64 x)∧w'=w:=by
 go_enter Tryz.func216,Tryz.ntmps216;go_wp2;all_goals go_ret
 all_goals refine⟨?_,rfl⟩
 all_goals simp_all
end Go.Proofs.YtglihimiidiacaaGreatDoor
namespace Go.Proofs.YtglihimiidiacaaGreatDoor
open Go.RowKit
set_option maxHeartbeats 400000 in
theorem bounds_any(k:Nat)(x y:Int)(w:World)(hk:k<21)(hx:w.cell? ⟨24,k*7+1,none⟩=some (.int .i64 x))(hy:w.cell? ⟨24,k*7+2,none⟩=some (.int .i64 y)):
 Calls Tryz.prog 249 #[.int .i64 k] w fun e w'=>e=.returned (.tuple #[.int .i64 x,.int .i64 y])∧∃n,w'=w.drewN n:=by
 go_enter Tryz.func249,Tryz.ntmps249;go_wp2;go_quiet (fail);go_wp2;all_goals go_ret2
 all_goals refine⟨?_,_,rfl⟩
 all_goals simp_all
def amt(op a:Int):Int:=if op=15 then a.tmod 256 else a
set_option maxHeartbeats 400000 in
theorem amount_any(op a:Int)(al:Value)(w:World):
 Calls Tryz.prog 219 #[.agg #[.int .i64 op,.int .i64 a,al]] w fun e w'=>e=.returned (.int .i64 (amt op a))∧Below w.heap.size w w':=by
 go_enter Tryz.func219,Tryz.ntmps219;go_wp2;all_goals go_ret
 all_goals refine⟨?_,(Below.refl _ _).alloc (Nat.le_refl _) _⟩
 all_goals simp_all[amt]
end Go.Proofs.YtglihimiidiacaaGreatDoor
namespace Go.Proofs.YtglihimiidiacaaGreatDoor
open Go.RowKit
structure LAlt where
 tag:Int
 tto:Int
structure LIns where
 op:Int
 a:Int
 alts:List LAlt
structure LImp where
 name:ByteArray
 arity:Int
structure LGlob where
 name:ByteArray
 arity:Int
 exp:Bool
 code:List LIns
structure LObj where
 name:ByteArray
 imps:List LImp
 globs:List LGlob
def short(n:Nat):Prop:=n<140737488355328
theorem short.le{n:Nat}(h:short n):n<140737488355328:=h
def AltsAt(w:World)(v:Value)(l:List LAlt):Prop:=
 ∃p cap,v=.slice p l.length cap∧short l.length∧∀i (h:i<l.length),∃b o,p=some ⟨b,o,none⟩∧w.cell? ⟨b,o+i*2,none⟩=some (.int .i64 l[i].tag)∧w.cell? ⟨b,o+i*2+1,none⟩=some (.int .i64 l[i].tto)
def CodeAt(w:World)(v:Value)(l:List LIns):Prop:=
 ∃p cap,v=.slice p l.length cap∧short l.length∧∀i (h:i<l.length),∃b o av,p=some ⟨b,o,none⟩∧w.cell? ⟨b,o+i*3,none⟩=some (.int .i64 l[i].op)∧w.cell? ⟨b,o+i*3+1,none⟩=some (.int .i64 l[i].a)∧w.cell? ⟨b,o+i*3+2,none⟩=some av∧AltsAt w av l[i].alts
def ImpsAt(w:World)(v:Value)(l:List LImp):Prop:=
 ∃p cap,v=.slice p l.length cap∧short l.length∧∀i (h:i<l.length),∃b o,p=some ⟨b,o,none⟩∧w.cell? ⟨b,o+i*2,none⟩=some (.string l[i].name)∧w.cell? ⟨b,o+i*2+1,none⟩=some (.int .i64 l[i].arity)∧l[i].name.size≤maxLen
def GlobsAt(w:World)(v:Value)(l:List LGlob):Prop:=
 ∃p cap,v=.slice p l.length cap∧short l.length∧∀i (h:i<l.length),∃b o cv,p=some ⟨b,o,none⟩∧w.cell? ⟨b,o+i*4,none⟩=some (.string l[i].name)∧w.cell? ⟨b,o+i*4+1,none⟩=some (.int .i64 l[i].arity)∧w.cell? ⟨b,o+i*4+2,none⟩=some (.bool l[i].exp)∧w.cell? ⟨b,o+i*4+3,none⟩=some cv∧CodeAt w cv l[i].code∧l[i].name.size≤maxLen
def ObjAt(w:World)(v:Value)(O:LObj):Prop:=
 ∃iv gv,v=.agg #[.string O.name,iv,gv]∧O.name.size≤maxLen∧ImpsAt w iv O.imps∧GlobsAt w gv O.globs
theorem cell_keep{w w':World}(hb:Below w.heap.size w w'){a:Addr}{v:Value}(h:w.cell? a=some v):w'.cell? a=some v:=by
 rw[hb.cell (block_lt_of_cell h)];exact h
theorem bcell{W w1:World}(hb:Below W.heap.size W w1):(∀b o,b<W.heap.size→w1.cell? ⟨b,o,none⟩=W.cell? ⟨b,o,none⟩)∧(∀b o,b<W.heap.size→w1.frozen? ⟨b,o,none⟩=W.frozen? ⟨b,o,none⟩):=
 ⟨fun b o h=>hb.cell (p:=⟨b,o,none⟩) h,fun b o h=>hb.frozen (p:=⟨b,o,none⟩) h⟩
theorem AltsAt.keep{w w':World}(hb:Below w.heap.size w w'){v:Value}{l:List LAlt}(h:AltsAt w v l):AltsAt w' v l:=by
 obtain⟨p,cap,e,hs,hc⟩:=h;refine⟨p,cap,e,hs,fun i hi=>?_⟩;obtain⟨b,o,e2,h0,h1⟩:=hc i hi;exact⟨b,o,e2,cell_keep hb h0,cell_keep hb h1⟩
theorem CodeAt.keep{w w':World}(hb:Below w.heap.size w w'){v:Value}{l:List LIns}(h:CodeAt w v l):CodeAt w' v l:=by
 obtain⟨p,cap,e,hs,hc⟩:=h;refine⟨p,cap,e,hs,fun i hi=>?_⟩;obtain⟨b,o,av,e2,h0,h1,h2,h3⟩:=hc i hi;exact⟨b,o,av,e2,cell_keep hb h0,cell_keep hb h1,cell_keep hb h2,h3.keep hb⟩
theorem ImpsAt.keep{w w':World}(hb:Below w.heap.size w w'){v:Value}{l:List LImp}(h:ImpsAt w v l):ImpsAt w' v l:=by
 obtain⟨p,cap,e,hs,hc⟩:=h;refine⟨p,cap,e,hs,fun i hi=>?_⟩;obtain⟨b,o,e2,h0,h1,h2⟩:=hc i hi;exact⟨b,o,e2,cell_keep hb h0,cell_keep hb h1,h2⟩
theorem GlobsAt.keep{w w':World}(hb:Below w.heap.size w w'){v:Value}{l:List LGlob}(h:GlobsAt w v l):GlobsAt w' v l:=by
 obtain⟨p,cap,e,hs,hc⟩:=h;refine⟨p,cap,e,hs,fun i hi=>?_⟩;obtain⟨b,o,cv,e2,h0,h1,h2,h3,h4,h5⟩:=hc i hi;exact⟨b,o,cv,e2,cell_keep hb h0,cell_keep hb h1,cell_keep hb h2,cell_keep hb h3,h4.keep hb,h5⟩
theorem ObjAt.keep{w w':World}(hb:Below w.heap.size w w'){v:Value}{O:LObj}(h:ObjAt w v O):ObjAt w' v O:=by
 obtain⟨iv,gv,e,hn,hi,hg⟩:=h;exact⟨iv,gv,e,hn,hi.keep hb,hg.keep hb⟩
def AltsIn(w:World)(p:Option Addr)(l:List LAlt):Prop:=
 ∀i (h:i<l.length),∃b o,p=some ⟨b,o,none⟩∧w.cell? ⟨b,o+i*2,none⟩=some (.int .i64 l[i].tag)∧w.cell? ⟨b,o+i*2+1,none⟩=some (.int .i64 l[i].tto)
def CodeIn(w:World)(p:Option Addr)(l:List LIns):Prop:=
 ∀i (h:i<l.length),∃b o ap an ac,p=some ⟨b,o,none⟩∧w.cell? ⟨b,o+i*3,none⟩=some (.int .i64 l[i].op)∧w.cell? ⟨b,o+i*3+1,none⟩=some (.int .i64 l[i].a)∧w.cell? ⟨b,o+i*3+2,none⟩=some (.slice ap an ac)∧AltsAt w (.slice ap an ac) l[i].alts
def ImpsIn(w:World)(p:Option Addr)(l:List LImp):Prop:=
 ∀i (h:i<l.length),∃b o,p=some ⟨b,o,none⟩∧w.cell? ⟨b,o+i*2,none⟩=some (.string l[i].name)∧w.cell? ⟨b,o+i*2+1,none⟩=some (.int .i64 l[i].arity)∧l[i].name.size≤maxLen
def GlobsIn(w:World)(p:Option Addr)(l:List LGlob):Prop:=
 ∀i (h:i<l.length),∃b o cp cn cc,p=some ⟨b,o,none⟩∧w.cell? ⟨b,o+i*4,none⟩=some (.string l[i].name)∧w.cell? ⟨b,o+i*4+1,none⟩=some (.int .i64 l[i].arity)∧w.cell? ⟨b,o+i*4+2,none⟩=some (.bool l[i].exp)∧w.cell? ⟨b,o+i*4+3,none⟩=some (.slice cp cn cc)∧CodeAt w (.slice cp cn cc) l[i].code∧l[i].name.size≤maxLen
theorem AltsAt.open{w:World}{v:Value}{l:List LAlt}(h:AltsAt w v l):∃p cap,v=.slice p l.length cap∧l.length<140737488355328∧∀w',Below w.heap.size w w'→AltsIn w' p l:=by
 obtain⟨p,cap,e,hs,hc⟩:=h;refine⟨p,cap,e,hs.le,fun w' hb i hi=>?_⟩;obtain⟨b,o,e2,h0,h1⟩:=hc i hi;exact⟨b,o,e2,cell_keep hb h0,cell_keep hb h1⟩
theorem CodeAt.open{w:World}{v:Value}{l:List LIns}(h:CodeAt w v l):∃p cap,v=.slice p l.length cap∧l.length<140737488355328∧∀w',Below w.heap.size w w'→CodeIn w' p l:=by
 obtain⟨p,cap,e,hs,hc⟩:=h;refine⟨p,cap,e,hs.le,fun w' hb i hi=>?_⟩;obtain⟨b,o,av,e2,h0,h1,h2,h3⟩:=hc i hi;obtain⟨ap,ac,rfl,-,-⟩:=id h3;exact⟨b,o,ap,_,ac,e2,cell_keep hb h0,cell_keep hb h1,cell_keep hb h2,h3.keep hb⟩
theorem ImpsAt.open{w:World}{v:Value}{l:List LImp}(h:ImpsAt w v l):∃p cap,v=.slice p l.length cap∧l.length<140737488355328∧∀w',Below w.heap.size w w'→ImpsIn w' p l:=by
 obtain⟨p,cap,e,hs,hc⟩:=h;refine⟨p,cap,e,hs.le,fun w' hb i hi=>?_⟩;obtain⟨b,o,e2,h0,h1,h2⟩:=hc i hi;exact⟨b,o,e2,cell_keep hb h0,cell_keep hb h1,h2⟩
theorem GlobsAt.open{w:World}{v:Value}{l:List LGlob}(h:GlobsAt w v l):∃p cap,v=.slice p l.length cap∧l.length<140737488355328∧∀w',Below w.heap.size w w'→GlobsIn w' p l:=by
 obtain⟨p,cap,e,hs,hc⟩:=h;refine⟨p,cap,e,hs.le,fun w' hb i hi=>?_⟩;obtain⟨b,o,cv,e2,h0,h1,h2,h3,h4,h5⟩:=hc i hi;obtain⟨cp,cc,rfl,-,-⟩:=id h4;exact⟨b,o,cp,_,cc,e2,cell_keep hb h0,cell_keep hb h1,cell_keep hb h2,cell_keep hb h3,h4.keep hb,h5⟩
end Go.Proofs.YtglihimiidiacaaGreatDoor
namespace Go.Proofs.YtglihimiidiacaaGreatDoor
open Go.RowKit Go.Sort
theorem ret_bool'{a b:Bool}(h:a=b):Ending.returned (.bool a)=.returned (.bool b):=by rw[h]
theorem alloc_cell(w:World)(o:Array Value)(t:TypeId)(i:Nat)(v:Value)(h:o[i]?=some v):(w.alloc (.cells o t)).cell? ⟨w.heap.size,i,none⟩=some v:=by
 simp[h]
theorem alloc_old(w:World)(o:Obj)(b i:Nat)(v:Value)(h:w.cell? ⟨b,i,none⟩=some v):(w.alloc o).cell? ⟨b,i,none⟩=some v:=by
 rw[((Below.refl _ _).alloc (Nat.le_refl _) o).cell (block_lt_of_cell h)];exact h
set_option maxHeartbeats 400000 in
theorem behind_any(k:Nat)(a d:Int)(al:Value)(r5 r6:Int)(w:World)(hk:k<21)(h5:w.cell? ⟨24,k*7+5,none⟩=some (.int .i64 r5))(h6:w.cell? ⟨24,k*7+6,none⟩=some (.int .i64 r6)):
 Calls Tryz.prog 194 #[.agg #[.int .i64 k,.int .i64 a,al],.int .i64 d] w fun e w'=>e=.returned (.int .i64 (IntKind.i64.wrap (IntKind.i64.wrap (d+r5)+IntKind.i64.wrap (r6*amt k a))))∧Below w.heap.size w w':=by
 have c0:=cell_regrown (alloc_cell w #[.int .i64 k,.int .i64 a,al] 152 0 _ rfl);have c1:=cell_regrown (alloc_cell w #[.int .i64 k,.int .i64 a,al] 152 1 _ rfl);have c2:=cell_regrown (alloc_cell w #[.int .i64 k,.int .i64 a,al] 152 2 _ rfl);have g5:=cell_regrown (alloc_old w (.cells #[.int .i64 k,.int .i64 a,al] 152) _ _ _ h5);have g6:=cell_regrown (alloc_old w (.cells #[.int .i64 k,.int .i64 a,al] 152) _ _ _ h6);have hk1:(0:Int)≤(k:Int):=by omega
 have hk2:(k:Int)<21:=by omega
 go_enter Tryz.func194,Tryz.ntmps194;go_wp2;refine wp_region_quiet_below (by kernel_rfl) (by kernel_rfl) ?_;repeat (quiet_step (first|(go_at_call 219;exact Calls.regrown_of (amount_any _ _ _ _))))
 refine wpQuiet_nil ?_;intro _ hw';obtain⟨⟨dq,osq⟩,hw''⟩:=hw';subst hw'';go_wp2;go_ret;exact⟨rfl,((Below.refl _ _).alloc (Nat.le_refl _) _).trans ((below_regrown _ dq osq).mono (by simp))⟩
end Go.Proofs.YtglihimiidiacaaGreatDoor
namespace Go.Proofs.YtglihimiidiacaaGreatDoor
open Go.RowKit
def rowsTab:List Int:=[1,0,0,0,0,1,0,
 2,0,65535,0,0,1,0,
 2,0,1000,1,1,1,0,
 0,0,0,2,0,-1,0,
 2,0,1000,1,1,0,-1,
 2,0,1000,2,1,-1,0,
 2,0,1000,0,1,0,-1,
 2,1,1000,0,0,0,1,
 0,0,0,1,0,0,0,
 0,0,0,2,0,-1,0,
 0,0,0,2,0,-1,0,
 0,0,0,2,0,-1,0,
 0,0,0,2,0,-1,0,
 0,0,0,2,0,-1,0,
 0,0,0,2,0,-1,0,
 2,0,65535,0,1,1,-1,
 2,0,255,1,0,-1,1,
 3,0,0,1,0,0,0,
 2,0,65535,0,0,0,0,
 0,0,0,1,0,0,0,
 0,0,0,0,0,0,0]
def rowN(k j:Nat):Int:=rowsTab.getD (k*7+j) 0
def TabAt(w:World):Prop:=∀i,i<147→w.cell? ⟨24,i,none⟩=some (.int .i64 (rowsTab.getD i 0))
theorem TabAt.keep{w w':World}(hb:Below w.heap.size w w')(h:TabAt w):TabAt w':=fun i hi=>cell_keep hb (h i hi)
theorem TabAt.row{w:World}(h:TabAt w)(k j:Nat)(hk:k<21)(hj:j<7):w.cell? ⟨24,k*7+j,none⟩=some (.int .i64 (rowN k j)):=h _ (by omega)
end Go.Proofs.YtglihimiidiacaaGreatDoor
namespace Go.Proofs.YtglihimiidiacaaGreatDoor
open Go.RowKit Go.Sort
def behV(k:Nat)(a d:Int):Int:=wrap64 (wrap64 (d+rowN k 5)+wrap64 (rowN k 6*amt k a))
def needV(k:Nat)(a:Int):Int:=wrap64 (rowN k 3+wrap64 (rowN k 4*amt k a))
def fitsV(k:Nat)(a d:Int):Bool:=if k=19 then d==rowN 19 3 else decide (needV k a≤d) && decide (behV k a d≤1000)
theorem behind_tab(k:Nat)(a d:Int)(al:Value)(w:World)(hk:k<21)(hT:TabAt w):
 Calls Tryz.prog 194 #[.agg #[.int .i64 k,.int .i64 a,al],.int .i64 d] w fun e w'=>e=.returned (.int .i64 (behV k a d))∧Below w.heap.size w w':=
 (behind_any k a d al _ _ w hk (hT.row k 5 hk (by omega)) (hT.row k 6 hk (by omega))).mono fun e w' ⟨he,hb⟩=>⟨by rw[he];simp only[IntWalk.i64_left,behV],hb⟩
set_option maxHeartbeats 1000000 in
theorem fits_tab(k:Nat)(a d:Int)(ap:Option Addr)(an ac:Nat)(w:World)(hk:k<21)(hT:TabAt w):
 Calls Tryz.prog 155 #[.agg #[.int .i64 k,.int .i64 a,.slice ap an ac],.int .i64 d] w fun e w'=>e=.returned (.bool (fitsV k a d))∧Below w.heap.size w w':=by
 have HT:Hid (TabAt w):=hT;by_cases h19:k=19
 ·subst h19;have h3:=hT.row 19 3 hk (by omega);have h3':=alloc_old w (.cells #[.int .i64 19,.int .i64 a,.slice ap an ac] 152) _ _ _ h3;have HF:Hid (fitsV 19 a d=(d==rowN 19 3)):=rfl;generalize rowN 19 3=r3 at*;clear hT h3;go_enter Tryz.func155,Tryz.ntmps155;go_wp2;go_ret;exact⟨ret_bool' HF.out.symm,(Below.refl _ _).alloc (Nat.le_refl _) _⟩
 ·have HF:Hid (fitsV k a d=(decide (needV k a≤d) && decide (behV k a d≤1000))):=by show _=_;simp[fitsV,h19]
  have hb19:((k:Int)==19)=false:=by rw[beq_eq_false_iff_ne];omega
  have c0:=cell_regrown (alloc_cell w #[.int .i64 k,.int .i64 a,.slice ap an ac] 152 0 _ rfl);have c1:=cell_regrown (alloc_cell w #[.int .i64 k,.int .i64 a,.slice ap an ac] 152 1 _ rfl);have c2:=cell_regrown (alloc_cell w #[.int .i64 k,.int .i64 a,.slice ap an ac] 152 2 _ rfl);have g3:=cell_regrown (alloc_old w (.cells #[.int .i64 k,.int .i64 a,.slice ap an ac] 152) _ _ _ (hT.row k 3 hk (by omega)));have g4:=cell_regrown (alloc_old w (.cells #[.int .i64 k,.int .i64 a,.slice ap an ac] 152) _ _ _ (hT.row k 4 hk (by omega)));have hk1:(0:Int)≤(k:Int):=by omega
  have hk2:(k:Int)<21:=by omega
  have HN:Hid (needV k a=wrap64 (rowN k 3+wrap64 (rowN k 4*amt k a))):=rfl;clear h19 hT;generalize rowN k 3=r3 at*;generalize rowN k 4=r4 at*;cases hg:decide (wrap64 (r3+wrap64 (r4*amt k a))≤d)
  ·have HG:Hid (decide (wrap64 (r3+wrap64 (r4*amt k a))≤d)=false):=hg;go_enter Tryz.func155,Tryz.ntmps155;go_wp2;refine wp_region_quiet_below (by kernel_rfl) (by kernel_rfl) ?_;repeat (first|go_big_quiet_step (first|(go_at_call 219;exact Calls.regrown_of (amount_any _ _ _ _)))|quiet_step (first|(go_at_call 219;exact Calls.regrown_of (amount_any _ _ _ _))))
   refine wpQuiet_nil ?_;intro _ hw';obtain⟨⟨dq,osq⟩,hw''⟩:=hw';subst hw'';go_wp2;go_ret;exact⟨ret_bool' (by rw[HF.out,HN.out,HG.out];rfl),((Below.refl _ _).alloc (Nat.le_refl _) _).trans ((below_regrown _ dq osq).mono (by simp))⟩
  ·have HG:Hid (decide (wrap64 (r3+wrap64 (r4*amt k a))≤d)=true):=hg;go_enter Tryz.func155,Tryz.ntmps155;go_wp2;refine wp_region_quiet_below (by kernel_rfl) (by kernel_rfl) ?_;repeat (first|go_big_quiet_step (first|(go_at_call 219;exact Calls.regrown_of (amount_any _ _ _ _))|(go_at_call 194;exact Calls.regrown_of (behind_tab k _ _ _ _ hk (HT.out.keep (((Below.refl _ _).alloc (Nat.le_refl _) _).trans ((below_regrown _ _ _).mono (by simp)))))))|quiet_step (first|(go_at_call 219;exact Calls.regrown_of (amount_any _ _ _ _))|(go_at_call 194;exact Calls.regrown_of (behind_tab k _ _ _ _ hk (HT.out.keep (((Below.refl _ _).alloc (Nat.le_refl _) _).trans ((below_regrown _ _ _).mono (by simp))))))))
   refine wpQuiet_nil ?_;intro _ hw';obtain⟨⟨dq,osq⟩,hw''⟩:=hw';subst hw'';go_wp2;go_ret;exact⟨ret_bool' (by rw[HF.out,HN.out,HG.out];rfl),((Below.refl _ _).alloc (Nat.le_refl _) _).trans ((below_regrown _ dq osq).mono (by simp))⟩
end Go.Proofs.YtglihimiidiacaaGreatDoor
namespace Go.Proofs.YtglihimiidiacaaGreatDoor
open Go.RowKit
theorem hid{p:Prop}(h:p):Hid p:=h
structure Walking (w:World) (base B D:Nat) (cv:Value) (dep:List Int) (tv:Value) (todo:List Nat):Prop where
 hB:base≤B
 hD:base≤D
 ne:B≠D
 lB:B<w.heap.size
 lD:D<w.heap.size
 c0:w.cell? ⟨B,0,none⟩=some cv
 c1:w.cell? ⟨B,1,none⟩=some (.slice (some ⟨D,0,none⟩) dep.length dep.length)
 c2:w.cell? ⟨B,2,none⟩=some tv
 f2:w.frozen? ⟨B,2,none⟩=false
 dc:∀i (h:i<dep.length),w.cell? ⟨D,i,none⟩=some (.int .i64 dep[i])
 df:∀i,i<dep.length→w.frozen? ⟨D,i,none⟩=false
 own:w.ownsRow base 3 1 tv todo.length (todo.map fun a:Nat=>Value.int .i64 (a:Int))
 aB:tv.ownBlock≠some B
 aD:tv.ownBlock≠some D
def reachL(dep:List Int)(todo:List Nat)(k:Nat)(d:Int):List Int×List Nat:=
 if dep.getD k 0=d∨dep.getD k 0=-2 then (dep,todo) else (dep.set k (if dep.getD k 0=-1 then d else -2),todo++[k])
theorem Tryz.intInfo:(Tryz.prog.info? 3).map (fun i=>(i.zero,i.size,i.bytes))=some (some (.int .i64 0),1,8):=by kernel_rfl
theorem news_one(w:World)(v:Value)(t:TypeId)(H:Nat)(hH:w.heap.size=H):∀j u,[v][j]?=some u→(w.alloc (.cells #[v] t)).cell? ((⟨H,0,none⟩:Addr).add j)=some u:=by
 subst hH;exact World.news_of_block (heap_alloc_new w _)
theorem Walking.stored{w w1:World}{base B D:Nat}{cv:Value}{dep:List Int}{tv:Value}{todo:List Nat}(hW:Walking w base B D cv dep tv todo)(k:Nat)(hk:k<dep.length)(dv:Int)(ob:Obj)(hbase:base≤w.heap.size)
 (g cap:Nat) (hown:w1.ownsRow base 3 1 (.slice (some ⟨g,0,none⟩) (todo.length+1) cap) (todo.length+1) ((todo.map fun a:Nat=>Value.int .i64 (a:Int))++[.int .i64 (k:Int)]))
 (hgrow:((w.setCell ⟨D,k,none⟩ (.int .i64 dv)).alloc ob).grownBy w1 tv.ownBlock) (hat:tv.ownBlock=some g∨g=w.heap.size+1):
 (∃tv',Walking (w1.setCell ⟨B,2,none⟩ (.slice (some ⟨g,0,none⟩) (todo.length+1) cap)) base B D cv (dep.set k dv) tv' (todo++[k]))∧Below base w (w1.setCell ⟨B,2,none⟩ (.slice (some ⟨g,0,none⟩) (todo.length+1) cap)):=by
 have hlB:=hW.lB;have hlD:=hW.lD;have sz0:(w.setCell ⟨D,k,none⟩ (.int .i64 dv)).heap.size=w.heap.size:=by simp[World.setCell]
 have sz:((w.setCell ⟨D,k,none⟩ (.int .i64 dv)).alloc ob).heap.size=w.heap.size+1:=by simp[World.setCell]
 have hb1:Below (w.setCell ⟨D,k,none⟩ (.int .i64 dv)).heap.size (w.setCell ⟨D,k,none⟩ (.int .i64 dv)) ((w.setCell ⟨D,k,none⟩ (.int .i64 dv)).alloc ob):=(Below.refl _ _).alloc (Nat.le_refl _) _;have gB:g≠B:=by rcases hat with h|h;(intro e;subst e;exact hW.aB h);omega
 have gD:g≠D:=by rcases hat with h|h;(intro e;subst e;exact hW.aD h);omega
 have far:∀(b o:Nat),b<w.heap.size→tv.ownBlock≠some b→w1.cell? ⟨b,o,none⟩=(w.setCell ⟨D,k,none⟩ (.int .i64 dv)).cell? ⟨b,o,none⟩:=fun b o hb hne=>by
  rw[hgrow.cell_far ⟨b,o,none⟩ (by rw[sz];simp;omega) (fun e=>hne e.symm),hb1.cell (p:=⟨b,o,none⟩) (by rw[sz0];exact hb)]
 have farf:∀(b o:Nat),b<w.heap.size→tv.ownBlock≠some b→w1.frozen? ⟨b,o,none⟩=w.frozen? ⟨b,o,none⟩:=fun b o hb hne=>by
  rw[hgrow.frozen_far ⟨b,o,none⟩ (by rw[sz];simp;omega) (fun e=>hne e.symm),hb1.frozen (p:=⟨b,o,none⟩) (by rw[sz0];exact hb)];simp
 have cB:∀o,w1.cell? ⟨B,o,none⟩=w.cell? ⟨B,o,none⟩:=fun o=>by
  rw[far B o hlB hW.aB,World.cell?_setCell_other _ _ _ _ (by intro e;simp at e;exact hW.ne e.1.symm)]
 have cD:∀o,w1.cell? ⟨D,o,none⟩=(w.setCell ⟨D,k,none⟩ (.int .i64 dv)).cell? ⟨D,o,none⟩:=fun o=>far D o hlD hW.aD;have s1:=hgrow.size;rw[sz]at s1;refine⟨⟨.slice (some ⟨g,0,none⟩) (todo.length+1) cap,?_⟩,?_⟩
 ·refine {hB:=hW.hB,hD:=hW.hD,ne:=hW.ne,lB:=?_,lD:=?_,c0:=?_,c1:=?_,c2:=?_,f2:=?_,dc:=?_,df:=?_,own:=?_,aB:=?_,aD:=?_}
  ·simp[World.setCell];omega
  ·simp[World.setCell];omega
  ·rw[World.cell?_setCell_other _ _ _ _ (by simp),cB];exact hW.c0
  ·rw[World.cell?_setCell_other _ _ _ _ (by simp),cB,List.length_set];exact hW.c1
  ·exact World.cell?_setCell_same _ _ _ (u:=tv) (by rw[cB];exact hW.c2)
  ·rw[World.frozen?_setCell,farf B 2 hlB hW.aB];exact hW.f2
  ·intro i hi;rw[World.cell?_setCell_other _ _ _ _ (by intro e;simp at e;exact hW.ne e.1),cD];rw[List.length_set]at hi;by_cases e:k=i
   ·subst e;rw[World.cell?_setCell_same _ _ _ (hW.dc k hk)];simp
   ·rw[World.cell?_setCell_other _ _ _ _ (by intro e2;cases e2;exact e rfl),hW.dc i hi];simp[e]
  ·intro i hi;rw[List.length_set]at hi;rw[World.frozen?_setCell,farf D i hlD hW.aD];exact hW.df i hi
  ·have:=ownsRow_setCell_other hown (a:=⟨B,2,none⟩) (by simp[Value.ownBlock];exact gB) (.slice (some ⟨g,0,none⟩) (todo.length+1) cap);simpa using this
  ·simp[Value.ownBlock];exact gB
  ·simp[Value.ownBlock];exact gD
 ·refine Below.setCell ?_ (p:=⟨B,2,none⟩) hW.hB _;refine Below.grown ?_ hgrow (by rw[sz];omega) ?_
  ·exact((Below.refl _ _).setCell (p:=⟨D,k,none⟩) hW.hD _).alloc (by rw[sz0];exact hbase) _
  ·intro g' hg';rcases hW.own.2 with⟨rfl,_⟩|⟨g2,cap2,cur,rfl,hb,_⟩
   ·simp[Value.ownBlock]at hg'
   ·simp[Value.ownBlock]at hg';omega
set_option maxHeartbeats 1000000 in
theorem reach_store(base B D:Nat)(cv:Value)(dep:List Int)(tv:Value)(todo:List Nat)(k:Nat)(d old dv:Int)(w:World)(hW:Walking w base B D cv dep tv todo)(hk:k<dep.length)(_hn:dep.length≤65535)(ht:todo.length≤200000)(hbase:base≤w.heap.size)
 (ho:dep[k]=old) (b1:(old==d)=false) (b2:(old==-2)=false) (b3:(old !=-1)=false∧dv=d∨(old !=-1)=true∧dv=-2):
 Calls Tryz.prog 153 #[.pointer (some ⟨B,0,none⟩),.int .i64 k,.int .i64 d] w fun e w'=>e=.returned (.tuple #[])∧(∃tv',Walking w' base B D cv (dep.set k dv) tv' (todo++[k]))∧Below base w w':=by
 have HW:Hid (Walking w base B D cv dep tv todo):=hW;have c1:=hW.c1;have c2:=hW.c2;have f2:=hW.f2;have dk:=hW.dc k hk;have dfk:=hW.df k hk;have ne:=hW.ne;have lB:=hW.lB;have lD:=hW.lD;rw[ho]at dk;have HA:Hid (tv.ownBlock≠some B):=hW.aB;have Hown:=fun u o=>(ownsRow_setCell_other hW.own (a:=⟨D,k,none⟩) hW.aD u).alloc o;have HOWN:Hid (∀u o,((w.setCell ⟨D,k,none⟩ u).alloc o).ownsRow base 3 1 tv todo.length (todo.map fun a:Nat=>Value.int .i64 (a:Int))):=Hown;obtain⟨i,hi,hii⟩:=Option.map_eq_some_iff.1 Tryz.intInfo;simp only[Prod.mk.injEq]at hii;obtain⟨hz0,hz1,hz2⟩:=hii;have HI:Hid (i.zero=some (.int .i64 0)∧i.size=1∧i.bytes=8):=⟨hz0,hz1,hz2⟩;clear hW Hown ho hz0 hz1 hz2;rcases b3 with⟨b3,rfl⟩|⟨b3,rfl⟩
 ·skip
  go_enter Tryz.func153,Tryz.ntmps153;go_wp2_with (first|(at_builtin;refine wpList_append_lies _ rfl _ _ _ rfl base 3 i (.int .i64 0) 1 8 Tryz.underlying238 hi HI.out.1 HI.out.2.1 HI.out.2.2 rfl (by omega) tv todo.length _ rfl (HOWN.out _ _) ⟨w.heap.size,0,none⟩ 1 1 [.int .i64 (k:Int)] rfl rfl ?hnews ?h1 (by omega) ?h63 ?hbytes ?hbase (w.heap.size+1) ?hH ?_))
  case hnews=>exact news_one _ _ _ _ (by simp[World.setCell])
  case h1=>intro u hu;simp at hu;subst hu;rfl
  case h63=>unfold maxLen;omega
  case hbytes=>omega
  case hbase=>simp[World.setCell];omega
  case hH=>simp[World.setCell]
  intro g cap w1 hown hgrow hat hlt;have hfin:=HW.out.stored k hk _ _ hbase g cap hown hgrow hat;have HFIN:Hid _:=hfin;have q1:w1.cell? ⟨B,2,none⟩=some tv:=by
   rw[hgrow.cell_far ⟨B,2,none⟩ (by simp[World.setCell];omega) (fun e=>HA.out e.symm),World.cell?_alloc_lt _ _ _ (by simp[World.setCell];omega),World.cell?_setCell_other _ _ _ _ (by intro e;cases e;exact ne rfl)];exact c2
  have q2:w1.frozen? ⟨B,2,none⟩=false:=by
   rw[hgrow.frozen_far ⟨B,2,none⟩ (by simp[World.setCell];omega) (fun e=>HA.out e.symm),((Below.refl _ _).alloc (Nat.le_refl _) _).frozen (p:=⟨B,2,none⟩) (by simp[World.setCell];omega),World.frozen?_setCell];exact f2
  clear hfin hown hgrow hat;go_wp2;go_end0
  exact⟨rfl,HFIN.out⟩
 ·skip
  go_enter Tryz.func153,Tryz.ntmps153;go_wp2_with (first|(at_builtin;refine wpList_append_lies _ rfl _ _ _ rfl base 3 i (.int .i64 0) 1 8 Tryz.underlying238 hi HI.out.1 HI.out.2.1 HI.out.2.2 rfl (by omega) tv todo.length _ rfl (HOWN.out _ _) ⟨w.heap.size,0,none⟩ 1 1 [.int .i64 (k:Int)] rfl rfl ?hnews ?h1 (by omega) ?h63 ?hbytes ?hbase (w.heap.size+1) ?hH ?_))
  case hnews=>exact news_one _ _ _ _ (by simp[World.setCell])
  case h1=>intro u hu;simp at hu;subst hu;rfl
  case h63=>unfold maxLen;omega
  case hbytes=>omega
  case hbase=>simp[World.setCell];omega
  case hH=>simp[World.setCell]
  intro g cap w1 hown hgrow hat hlt;have hfin:=HW.out.stored k hk _ _ hbase g cap hown hgrow hat;have HFIN:Hid _:=hfin;have q1:w1.cell? ⟨B,2,none⟩=some tv:=by
   rw[hgrow.cell_far ⟨B,2,none⟩ (by simp[World.setCell];omega) (fun e=>HA.out e.symm),World.cell?_alloc_lt _ _ _ (by simp[World.setCell];omega),World.cell?_setCell_other _ _ _ _ (by intro e;cases e;exact ne rfl)];exact c2
  have q2:w1.frozen? ⟨B,2,none⟩=false:=by
   rw[hgrow.frozen_far ⟨B,2,none⟩ (by simp[World.setCell];omega) (fun e=>HA.out e.symm),((Below.refl _ _).alloc (Nat.le_refl _) _).frozen (p:=⟨B,2,none⟩) (by simp[World.setCell];omega),World.frozen?_setCell];exact f2
  clear hfin hown hgrow hat;go_wp2;go_end0
  exact⟨rfl,HFIN.out⟩
set_option maxHeartbeats 1000000 in
theorem reach_any(base B D:Nat)(cv:Value)(dep:List Int)(tv:Value)(todo:List Nat)(k:Nat)(d:Int)(w:World)(hW:Walking w base B D cv dep tv todo)(hk:k<dep.length)(hn:dep.length≤65535)(ht:todo.length≤200000)(hbase:base≤w.heap.size):
 Calls Tryz.prog 153 #[.pointer (some ⟨B,0,none⟩),.int .i64 k,.int .i64 d] w fun e w'=>e=.returned (.tuple #[])∧(∃tv',Walking w' base B D cv (reachL dep todo k d).1 tv' (reachL dep todo k d).2)∧Below base w w':=by
 have hR:reachL dep todo k d=if dep[k]=d∨dep[k]=-2 then (dep,todo) else (dep.set k (if dep[k]=-1 then d else -2),todo++[k]):=by
  unfold reachL;simp[List.getD,hk]
 by_cases h:dep[k]=d∨dep[k]=-2
 ·rw[if_pos h]at hR;rw[hR];have HFIN:Hid ((∃tv',Walking w base B D cv dep tv' todo)∧Below base w w):=⟨⟨tv,hW⟩,Below.refl _ _⟩;have c1:=hW.c1;have dk:=hW.dc k hk;clear hR hW;generalize dep[k]=old at*;by_cases e1:old=d
  ·have b1:(old==d)=true:=by simp[e1]
   clear e1 h;go_enter Tryz.func153,Tryz.ntmps153;go_wp2;exact bodyPost_ret (v:=.tuple #[]) (by simp[results,Tryz.results153,go_sem]) rfl ⟨rfl,HFIN.out⟩
  ·have b1:(old==d)=false:=by simp[e1]
   have b2:(old==-2)=true:=by rcases h with h|h;(exact absurd h e1);simp[h]
   clear e1 h;go_enter Tryz.func153,Tryz.ntmps153;go_wp2;exact bodyPost_ret (v:=.tuple #[]) (by simp[results,Tryz.results153,go_sem]) rfl ⟨rfl,HFIN.out⟩
 ·rw[if_neg h]at hR;rw[hR];refine reach_store base B D cv dep tv todo k d dep[k] _ w hW hk hn ht hbase rfl (by rw[beq_eq_false_iff_ne];omega) (by rw[beq_eq_false_iff_ne];omega) ?_;by_cases e:dep[k]=-1
  ·left;simp[e]
  ·right;simp[e]
end Go.Proofs.YtglihimiidiacaaGreatDoor
namespace Go.Proofs.YtglihimiidiacaaGreatDoor
open Go.RowKit Go.Sort
theorem flat2_at{α:Type}(f g:α→Value):∀(l:List α) (i:Nat) (h:i<l.length),(l.flatMap fun x=>[f x,g x])[i*2]?=some (f l[i])∧(l.flatMap fun x=>[f x,g x])[i*2+1]?=some (g l[i])
 |a::r,0,_=>by simp
 |a::r,i+1,h=>by
  have:=flat2_at f g r i (by simpa using h);simp only[List.flatMap_cons,List.getElem_cons_succ];rw[List.getElem?_append_right (by simp;omega),List.getElem?_append_right (by simp;omega)];simp only[List.length_cons,List.length_nil];rw[show(i+1)*2-(0+1+1)=i*2 by omega,show(i+1)*2+1-(0+1+1)=i*2+1 by omega];exact this
theorem flat3_at{α:Type}(f g k:α→Value):∀(l:List α) (i:Nat) (h:i<l.length),(l.flatMap fun x=>[f x,g x,k x])[i*3]?=some (f l[i])∧(l.flatMap fun x=>[f x,g x,k x])[i*3+1]?=some (g l[i])∧(l.flatMap fun x=>[f x,g x,k x])[i*3+2]?=some (k l[i])
 |a::r,0,_=>by simp
 |a::r,i+1,h=>by
  have:=flat3_at f g k r i (by simpa using h);simp only[List.flatMap_cons,List.getElem_cons_succ];rw[List.getElem?_append_right (by simp;omega),List.getElem?_append_right (by simp;omega),List.getElem?_append_right (by simp;omega)];simp only[List.length_cons,List.length_nil];rw[show(i+1)*3-(0+1+1+1)=i*3 by omega,show(i+1)*3+1-(0+1+1+1)=i*3+1 by omega,show(i+1)*3+2-(0+1+1+1)=i*3+2 by omega];exact this
theorem flat4_at{α:Type}(f g k m:α→Value):∀(l:List α) (i:Nat) (h:i<l.length),(l.flatMap fun x=>[f x,g x,k x,m x])[i*4]?=some (f l[i])∧(l.flatMap fun x=>[f x,g x,k x,m x])[i*4+1]?=some (g l[i])∧(l.flatMap fun x=>[f x,g x,k x,m x])[i*4+2]?=some (k l[i])∧(l.flatMap fun x=>[f x,g x,k x,m x])[i*4+3]?=some (m l[i])
 |a::r,0,_=>by simp
 |a::r,i+1,h=>by
  have:=flat4_at f g k m r i (by simpa using h);simp only[List.flatMap_cons,List.getElem_cons_succ];rw[List.getElem?_append_right (by simp;omega),List.getElem?_append_right (by simp;omega),List.getElem?_append_right (by simp;omega),List.getElem?_append_right (by simp;omega)];simp only[List.length_cons,List.length_nil];rw[show(i+1)*4-(0+1+1+1+1)=i*4 by omega,show(i+1)*4+1-(0+1+1+1+1)=i*4+1 by omega,show(i+1)*4+2-(0+1+1+1+1)=i*4+2 by omega,show(i+1)*4+3-(0+1+1+1+1)=i*4+3 by omega];exact this
theorem row_lt{w:World}{base:Nat}{e:TypeId}{size g n cap:Nat}{xs:List Value}(h:w.ownsRow base e size (.slice (some ⟨g,0,none⟩) n cap) n xs):g<w.heap.size∧base≤g∧n≤cap:=by
 rcases h.2 with⟨h0,-⟩|⟨g',cap',cur,hv,hb,hh,hn,-⟩
 ·cases h0
 ·simp at hv;obtain⟨rfl,rfl⟩:=hv;refine⟨?_,hb,hn⟩;rcases Nat.lt_or_ge g w.heap.size with h1|h1
  ·exact h1
  ·rw[Array.getElem?_eq_none h1]at hh;cases hh
theorem frozen_new(w:World)(o:Array Value)(t:TypeId)(j:Nat):(w.alloc (.cells o t)).frozen? ⟨w.heap.size,j,none⟩=false:=by simp
def moved(w:World)(x x':Option Nat):Prop:=x'=x∨x'=some w.heap.size
theorem row_keep{w w':World}{base:Nat}{e:TypeId}{size n:Nat}{v:Value}{xs:List Value}(h:w.ownsRow base e size v n xs)(hb:Below w.heap.size w w'):w'.ownsRow base e size v n xs:=
 h.kept (row:=none) ⟨hb.os,hb.tape,hb.output,hb.size,fun k hk _=>hb.block k hk⟩ (by cases v.ownBlock<;>simp)
theorem row_slice{w:World}{base:Nat}{e:TypeId}{size n:Nat}{v:Value}{xs:List Value}(h:w.ownsRow base e size v n xs):∃p c,v=.slice p n c:=by
 rcases h.2 with⟨rfl,rfl⟩|⟨g,cap,cur,rfl,-⟩<;>exact⟨_,_,rfl⟩
structure IB (wr wx:World) (x0 x1 x2:Value):Prop where
 below:Below wr.heap.size wr wx
 c0:wx.cell? ⟨wr.heap.size,0,none⟩=some x0
 c1:wx.cell? ⟨wr.heap.size,1,none⟩=some x1
 c2:wx.cell? ⟨wr.heap.size,2,none⟩=some x2
 f2:wx.frozen? ⟨wr.heap.size,2,none⟩=false
 lt:wr.heap.size<wx.heap.size
theorem IB.first(wr:World)(x0 x1 x2:Value)(t:TypeId):IB wr (wr.alloc (.cells #[x0,x1,x2] t)) x0 x1 x2:=by
 have c:=fun(i:Nat) (v:Value) (h:#[x0,x1,x2][i]?=some v)=>alloc_cell wr #[x0,x1,x2] t i v h;exact⟨(Below.refl _ _).alloc (Nat.le_refl _) _,c 0 _ rfl,c 1 _ rfl,c 2 _ rfl,frozen_new _ _ _ _,by simp⟩
theorem IB.keep{wr wx w':World}{x0 x1 x2:Value}(h:IB wr wx x0 x1 x2)(hb:Below wx.heap.size wx w'):IB wr w' x0 x1 x2:=
 ⟨h.below.trans (hb.mono h.below.size),cell_keep hb h.c0,cell_keep hb h.c1,cell_keep hb h.c2,by rw[(bcell hb).2 _ _ h.lt];exact h.f2,Nat.lt_of_lt_of_le h.lt hb.size⟩
theorem IB.put{wr wx:World}{x0 x1 x2:Value}(h:IB wr wx x0 x1 x2)(y:Value):IB wr (wx.setCell ⟨wr.heap.size,2,none⟩ y) x0 x1 y:=by
 have no:∀{c:Nat},c≠2→(⟨wr.heap.size,2,none⟩:Addr)≠⟨wr.heap.size,c,none⟩:=fun h e=>h (congrArg Addr.off e).symm;refine⟨h.below.setCell (Nat.le_refl _) _,?_,?_,World.cell?_setCell_same _ _ _ h.c2,by rw[World.frozen?_setCell];exact h.f2,by simpa using h.lt⟩
 ·rw[World.cell?_setCell_other _ _ _ _ (no (by omega))];exact h.c0
 ·rw[World.cell?_setCell_other _ _ _ _ (no (by omega))];exact h.c1
structure GB (wr wx:World) (x0 x1 x2 x3:Value):Prop where
 below:Below wr.heap.size wr wx
 c0:wx.cell? ⟨wr.heap.size,0,none⟩=some x0
 c1:wx.cell? ⟨wr.heap.size,1,none⟩=some x1
 c2:wx.cell? ⟨wr.heap.size,2,none⟩=some x2
 c3:wx.cell? ⟨wr.heap.size,3,none⟩=some x3
 f3:wx.frozen? ⟨wr.heap.size,3,none⟩=false
 lt:wr.heap.size<wx.heap.size
theorem GB.first(wr:World)(x0 x1 x2 x3:Value)(t:TypeId):GB wr (wr.alloc (.cells #[x0,x1,x2,x3] t)) x0 x1 x2 x3:=by
 have c:=fun(i:Nat) (v:Value) (h:#[x0,x1,x2,x3][i]?=some v)=>alloc_cell wr #[x0,x1,x2,x3] t i v h;exact⟨(Below.refl _ _).alloc (Nat.le_refl _) _,c 0 _ rfl,c 1 _ rfl,c 2 _ rfl,c 3 _ rfl,frozen_new _ _ _ _,by simp⟩
theorem GB.keep{wr wx w':World}{x0 x1 x2 x3:Value}(h:GB wr wx x0 x1 x2 x3)(hb:Below wx.heap.size wx w'):GB wr w' x0 x1 x2 x3:=
 ⟨h.below.trans (hb.mono h.below.size),cell_keep hb h.c0,cell_keep hb h.c1,cell_keep hb h.c2,cell_keep hb h.c3,by rw[(bcell hb).2 _ _ h.lt];exact h.f3,Nat.lt_of_lt_of_le h.lt hb.size⟩
theorem GB.put{wr wx:World}{x0 x1 x2 x3:Value}(h:GB wr wx x0 x1 x2 x3)(y:Value):GB wr (wx.setCell ⟨wr.heap.size,3,none⟩ y) x0 x1 x2 y:=by
 have no:∀{c:Nat},c≠3→(⟨wr.heap.size,3,none⟩:Addr)≠⟨wr.heap.size,c,none⟩:=fun h e=>h (congrArg Addr.off e).symm;refine⟨h.below.setCell (Nat.le_refl _) _,?_,?_,?_,World.cell?_setCell_same _ _ _ h.c3,by rw[World.frozen?_setCell];exact h.f3,by simpa using h.lt⟩
 ·rw[World.cell?_setCell_other _ _ _ _ (no (by omega))];exact h.c0
 ·rw[World.cell?_setCell_other _ _ _ _ (no (by omega))];exact h.c1
 ·rw[World.cell?_setCell_other _ _ _ _ (no (by omega))];exact h.c2
end Go.Proofs.YtglihimiidiacaaGreatDoor
namespace Go.Proofs.YtglihimiidiacaaGreatDoor
open Go.RowKit Go.Sort
def u8s(bs:List Nat):List Value:=bs.map fun b:Nat=>Value.int .u8 (b:Int)
theorem u8s_app(a b:List Nat):u8s (a++b)=u8s a++u8s b:=List.map_append
def Buf(w:World)(base:Nat)(v:Value)(bs:List Nat):Prop:=w.ownsRow base 5 1 v bs.length (u8s bs)
theorem Buf.keep{w w':World}{base:Nat}{v:Value}{bs:List Nat}(h:Buf w base v bs)(hb:Below w.heap.size w w'):Buf w' base v bs:=row_keep h hb
theorem Buf.slice{w:World}{base:Nat}{v:Value}{bs:List Nat}(h:Buf w base v bs):∃p c,v=.slice p bs.length c:=row_slice h
def vb(n:Nat):List Nat:=if n<128 then [n] else (n % 128+128)::vb (n / 128)
 termination_by n
 decreasing_by omega
theorem vb_small{n:Nat}(h:n<128):vb n=[n]:=by rw[vb,if_pos h]
theorem vb_big{n:Nat}(h:¬n<128):vb n=(n % 128+128)::vb (n / 128):=by rw[vb,if_neg h]
theorem vb_len:∀(k n:Nat),n<128 ^ k→(vb n).length≤max k 1
 |0,n,h=>by
  rw[vb_small (by simp at h;omega)];simp
 |k+1,n,h=>by
  by_cases h1:n<128
  ·rw[vb_small h1];simp
  ·rw[vb_big h1];have:=vb_len k (n / 128) (by rw[Nat.pow_succ]at h;omega);cases k with
   |zero=>simp at h;omega
   |succ k=>simp only[List.length_cons];omega
theorem vb_len10(n:Nat)(h:n<18446744073709551616):(vb n).length≤10:=vb_len 10 n (by omega)
theorem Tryz.u8Info:(Tryz.prog.info? 5).map (fun i=>(i.zero,i.size,i.bytes))=some (some (.int .u8 0),1,1):=by kernel_rfl
end Go.Proofs.YtglihimiidiacaaGreatDoor
namespace Go.Proofs.YtglihimiidiacaaGreatDoor
open Go.RowKit Go.Sort
theorem Buf.base{w:World}{B:Nat}{v:Value}{bs:List Nat}(h:Buf w B v bs):∀k,v.ownBlock=some k→B≤k∧k<w.heap.size:=fun k hk=>h.lt k hk
end Go.Proofs.YtglihimiidiacaaGreatDoor
namespace Go.Proofs.YtglihimiidiacaaGreatDoor
open Go.RowKit Go.Sort Go.Lib
theorem run_str_lies{P:Program}(w:World)(base:Nat)(t u ty e:TypeId)(i:TypeInfo)(ht:P.underlying t=some (.slice e))(hu:P.underlying u=some .string)(hi:P.info? e=some i)(hz:i.zero=some (.int .u8 0))
 (hsize:i.size=1) (hby:i.bytes=1) (g n cap:Nat) (xs:List Value) (hown:w.ownsRow base e 1 (.slice (some ⟨g,0,none⟩) n cap) n xs) (s:ByteArray)
 (hpos:0<n+s.size) (hl:n+s.size≤140737488355328) (hbase:base≤w.heap.size):
 ∃g' cap' w',(Builtin.append_ #[t,u] ty #[.slice (some ⟨g,0,none⟩) n cap,.string s]).run P w=.ok (.slice (some ⟨g',0,none⟩) (n+s.size) cap') w'∧w'.ownsRow base e 1 (.slice (some ⟨g',0,none⟩) (n+s.size) cap') (n+s.size) (xs++strCells s)∧
  w.grownBy w' (some g)∧(g'=g∨g'=w.heap.size):=by
 obtain⟨v',w',hr,h2,h3,-⟩:=run_append_own_string (P:=P) w base t u ty e i ht hu hi hz hsize hby _ n xs hown s (by unfold maxLen;omega) hl hbase;obtain⟨g',cap',rfl,-,-⟩:=h2.form hpos;refine⟨g',cap',w',hr,h2,h3,?_⟩;rcases hown.2 with⟨h0,-⟩|⟨g0,cap0,cur,h0,hb0,hg,hnc,hcm,hcs,htake⟩
 ·cases h0
 ·simp only[Value.slice.injEq,Option.some.injEq,Addr.mk.injEq,and_true,true_and]at h0;obtain⟨rfl,rfl⟩:=h0;by_cases hroom:n+s.size≤cap
  ·have hr2:=run_append_room_string (P:=P) w t u ty e i ht hu hi hsize g n cap cur hg s hroom (by omega);rw[hr]at hr2;injection hr2 with h4 h5;simp at h4;exact Or.inl h4.1
  ·have hxl:xs.length=n:=by simpa using hown.1
   have hr2:=run_append_grow_string (P:=P) w t u ty e i (.int .u8 0) ht hu hi hz ⟨g,0,none⟩ n cap xs (by rw[hsize];simpa using hxl) (hown.cells (g:=g) rfl) s (by omega) (by omega) (by rw[hby];exact growslice_fits (by omega) (by omega));rw[hr]at hr2;injection hr2 with h4 h5;simp at h4;exact Or.inr h4.1
theorem wpList_str_lies{P:Program}(w:World){ops:Array Oper}{rest:List Oper}{o:Oper}{a:Act}{Q:Exit→Act→World→Prop}(hgd:o.guard=none)(sl x:Operand)(t u:TypeId)
 (ho:o.op=.call {callee:=.builtin .append,args:=#[sl,x],argTypes:=#[t,u]})
 (base:Nat) (e:TypeId) (i:TypeInfo) (ht:P.underlying t=some (.slice e)) (hu:P.underlying u=some .string) (hi:P.info? e=some i) (hz:i.zero=some (.int .u8 0)) (hsize:i.size=1) (hby:i.bytes=1)
 (g n cap:Nat) (xs:List Value) (hs:a.eval sl=.slice (some ⟨g,0,none⟩) n cap) (hown:w.ownsRow base e 1 (.slice (some ⟨g,0,none⟩) n cap) n xs) (s:ByteArray) (hx:a.eval x=.string s)
 (hpos:0<n+s.size) (hl:n+s.size≤140737488355328) (hbase:base≤w.heap.size)
 (h:∀g' cap' w',w'.ownsRow base e 1 (.slice (some ⟨g',0,none⟩) (n+s.size) cap') (n+s.size) (xs++strCells s)→w.grownBy w' (some g)→(g'=g∨g'=w.heap.size)→wpList P ops Q rest (a.put o.dst (.slice (some ⟨g',0,none⟩) (n+s.size) cap')) w'):wpList P ops Q (o::rest) a w:=by
 refine wpList_plain hgd fun K hK=>?_;obtain⟨g',cap',w',hr,h2,h3,h4⟩:=run_str_lies (P:=P) w base t u o.type e i ht hu hi hz hsize hby g n cap xs hown s hpos hl hbase;unfold Oper.wp execOp;simp only[ho,resolve,invoke,builtin,Sem.run_bind,Sem.run_pure,Result.andThen_ok,List.map_toArray,List.map_cons,List.map_nil,hs,hx,hr];exact hK _ _ (h g' cap' w' h2 h3 h4)
def tb(s:ByteArray):List Nat:=s.data.toList.map fun b=>b.toNat
theorem tb_len(s:ByteArray):(tb s).length=s.size:=by rw[tb,List.length_map,Array.length_toList];rfl
theorem u8s_tb(s:ByteArray):u8s (tb s)=strCells s:=by simp[u8s,tb,strCells]
def nb(s:ByteArray):List Nat:=vb s.size++tb s
end Go.Proofs.YtglihimiidiacaaGreatDoor
namespace Go.Proofs.YtglihimiidiacaaGreatDoor
open Go.RowKit
def needR(m:Nat)(a:Int):Int:=
 if m=0∨m=1 then 0 else if m=2 then a+1 else if m=4 then a+1 else if m=5 then a+2 else if m=6 then a else if m=7 then 0 else if m=8∨m=17∨m=19 then 1 else if m=15 then a % 256 else if m=16 then 1 else if m=18∨m=20 then 0 else 2
def moreR(m:Nat)(a:Int):Int:=
 if m=0∨m=1 then 1 else if m=2 then 1 else if m=4 then -a else if m=5 then -1 else if m=6 then -a else if m=7 then a else if m=8∨m=17∨m=19 then 0 else if m=15 then 1-a % 256 else if m=16 then a-1 else if m=18∨m=20 then 0 else -1
theorem all21(m:Nat)(h:m<21):m=0∨m=1∨m=2∨m=3∨m=4∨m=5∨m=6∨m=7∨m=8∨m=9∨m=10∨m=11∨m=12∨m=13∨m=14∨m=15∨m=16∨m=17∨m=18∨m=19∨m=20:=by omega
end Go.Proofs.YtglihimiidiacaaGreatDoor

import Derived.Test.YtlccndplhfcknaaGreatDoorOwnJ
import Derived.Deep.DeepCutAuto
set_option maxRecDepth 100000
set_option maxHeartbeats 8000000
namespace Go.Proofs.YtlccndplhfcknaaGreatDoor
open Go.RowKit Go.Sort
def KeptI(iv iv':Value)(wx:World)(lo:Nat)(imps:List LImp):Prop:=(∃n c,iv=.slice none n c∧iv'=iv)∨(∃a n c,iv=.slice (some a) n c∧ImpsR wx lo iv' imps)
def KeptG(gv gv':Value)(w':World)(globs:List LGlob):Prop:=(∃n c,gv=.slice none n c∧gv'=gv)∨(∃a n c,gv=.slice (some a) n c∧GlobsR w' gv' globs)
structure KB (w wx:World) (r1 r2 o1 o2:Value):Prop where
 below:Below w.heap.size w wx
 r1:wx.cell? ⟨w.heap.size,1,none⟩=some r1
 r2:wx.cell? ⟨w.heap.size,2,none⟩=some r2
 o1:wx.cell? ⟨w.heap.size+1,1,none⟩=some o1
 o2:wx.cell? ⟨w.heap.size+1,2,none⟩=some o2
theorem KB.first(w w3:World)(a b:Value)(r1 r2 o1 o2:Value)(hb:Below ((w.alloc (.cells #[a,r1,r2] 44)).alloc (.cells #[b,o1,o2] 44)).heap.size ((w.alloc (.cells #[a,r1,r2] 44)).alloc (.cells #[b,o1,o2] 44)) w3):KB w w3 r1 r2 o1 o2:=by
 have c:=λ(i:Nat) (v:Value) (h:#[a,r1,r2][i]?=some v)=>alloc_cell w #[a,r1,r2] 44 i v h;have e1:(w.alloc (.cells #[a,r1,r2] 44)).heap.size=w.heap.size+1:=by simp
 have d:=λ(i:Nat) (v:Value) (h:#[b,o1,o2][i]?=some v)=>alloc_cell (w.alloc (.cells #[a,r1,r2] 44)) #[b,o1,o2] 44 i v h;rw[e1]at d;exact⟨(((Below.refl _ _).alloc (Nat.le_refl _) _).alloc (by simp) _).trans (hb.mono (by simp;omega)),cell_keep hb (alloc_old _ _ _ _ _ (c 1 _ rfl)),cell_keep hb (alloc_old _ _ _ _ _ (c 2 _ rfl)),cell_keep hb (d 1 _ rfl),cell_keep hb (d 2 _ rfl)⟩
theorem KB.drews{w wx:World}{r1 r2 o1 o2:Value}(h:KB w wx r1 r2 o1 o2)(n:Nat):KB w (wx.drewN n) r1 r2 o1 o2:=⟨below_drewN h.below _,h.r1,h.r2,h.o1,h.o2⟩
theorem kept_any(O:LObj)(iv gv iv' gv':Value)(w:World)(hA:ObjAt w (.agg #[.string O.name,iv',gv']) O)(hB:ObjAt w (.agg #[.string O.name,iv,gv]) O)(hI:KeptI iv iv' w 0 O.imps)(hG:KeptG gv gv' w O.globs):
 Calls Tryz.prog 19 #[.agg #[.string O.name,iv',gv'],.agg #[.string O.name,iv,gv]] w λe w'=>e=.returned (.bool true)∧Below w.heap.size w w':=by
 obtain⟨ia,ga,e1,hsz,hIA,hGA⟩:=id hA;obtain⟨ib,gb,e2,-,hIB,hGB⟩:=id hB;obtain⟨rfl,rfl⟩:iv'=ia∧gv'=ga:=by simpa using e1
 obtain⟨rfl,rfl⟩:iv=ib∧gv=gb:=by simpa using e2
 obtain⟨qp,qc,rfl,hs1,-⟩:=hIA.open;obtain⟨hp,hc,rfl,hs2,hgin⟩:=hGA.open;obtain⟨ip,ic,rfl,-,-⟩:=hIB.open;obtain⟨gp,gc,rfl,-,-⟩:=hGB.open;have HA:=hid hA;have HB:=hid hB;have HI:=hid hI;have HNG:Hid (∀{n:Nat},n<O.globs.length->hp≠none):=by
  intro n h;obtain⟨b,o,cp,cn,cc,rfl,-⟩:=hgin _ (Below.refl _ _) n h;simp
 have HSB:Hid (∀n (h:n<O.globs.length) j (hj:j<O.globs[n].code.length),O.globs[n].code[j].alts.length<140737488355328):=by
  intro n h j hj;obtain⟨b,o,cp,cn,cc,-,-,-,-,-,hca,-⟩:=hgin _ (Below.refl _ _) n h;obtain⟨_,_,-,-,h2⟩:=hca.open;obtain⟨_,_,_,_,_,-,-,-,-,hal⟩:=h2 _ (Below.refl _ _) j hj;obtain⟨_,_,-,h3,-⟩:=hal.open;exact h3
 have HSH:Hid (∀n (h:n<O.globs.length),O.globs[n].code.length<140737488355328):=by
  intro n h;obtain⟨b,o,cp,cn,cc,-,-,-,-,-,hca,-⟩:=hgin _ (Below.refl _ _) n h;obtain⟨_,_,-,h,-⟩:=hca.open;exact h
 have HG:=hid hG;clear hA hB hI hG hgin e1 e2 hIA hGA hIB hGB;generalize O.name=nm at*;generalize hx1:O.imps=imps at*;generalize hx2:O.globs=globs at*;clear hx1 hx2;go_enter Tryz.func19,Tryz.ntmps19;go_wp2_with (first|(go_at_call 31;refine(Same_any O _ _ _ ?_ ?_).mono ?_;exact HA.out.keep (((Below.refl _ _).alloc (Nat.le_refl _) _).alloc (by simp) _);exact HB.out.keep (((Below.refl _ _).alloc (Nat.le_refl _) _).alloc (by simp) _);rintro e w3 ⟨rfl,hb3⟩;have HKB:=hid (KB.first w w3 _ _ _ _ _ _ hb3);clear hb3))
 go_cut [33] (λc wx=>c=.bool false∧Hid (KB w wx (.slice qp imps.length qc) (.slice hp globs.length hc) (.slice ip imps.length ic) (.slice gp globs.length gc)))
 case first=>
  have HK:=HKB;obtain⟨hb,r1,r2,o1,o2⟩:=id HKB.out;clear HKB;rcases HI.out with⟨n,c,e,e2⟩|⟨a,n,c,e,g,cap,e2,l1,-,-,-,l5⟩
  ·cases e;clear e2;go_quiet (fail);all_goals go_wp2_with fail
   all_goals go_meet
   all_goals exact⟨rfl,HK.out.drews _⟩
  ·cases e;cases e2;have k5:=cell_keep hb l5;have l2:(imps.length:Int)+1<=(qc:Int):=by omega
   go_quiet (fail);all_goals go_wp2_with fail
   all_goals go_meet
   all_goals exact⟨rfl,HK.out.drews _⟩
 case rest=>
  obtain⟨rfl,hcut⟩:=hcut;clear HKB;rename World=>w4
  go_wp2;go_cut [52] (λc wx=>c=.bool false∧Hid (KB w wx (.slice qp imps.length qc) (.slice hp globs.length hc) (.slice ip imps.length ic) (.slice gp globs.length gc)))
  case first=>
   have HK:=hcut;obtain⟨hb,r1,r2,o1,o2⟩:=id hcut.out;clear hcut;rcases HG.out with⟨n,c,e,e2⟩|⟨a,n,c,e,g,cap,e2,l1,-,-,l5⟩
   ·cases e;clear e2;go_quiet (fail);all_goals go_wp2_with fail
    all_goals go_meet
    all_goals exact⟨rfl,HK.out.drews _⟩
   ·cases e;cases e2;have k5:=cell_keep hb l5;have l2:(globs.length:Int)+1<=(hc:Int):=by omega
    go_quiet (fail);all_goals go_wp2_with fail
    all_goals go_meet
    all_goals exact⟨rfl,HK.out.drews _⟩
  case rest=>
   obtain⟨rfl,hcut⟩:=hcut;rename World=>w5
   have HK:=hcut;have r2:=hcut.out.r2;clear hcut;go_wp2;go_loopw [6] (λk wr=>∃n:Nat,n<=globs.length∧k=.int .i64 n∧Hid (Below w.heap.size w wr)∧wr.cell? ⟨w.heap.size,2,none⟩=some (.slice hp globs.length hc)) (λk _=>globs.length-(intOf k).toNat)
   case atStart=>exact⟨0,Nat.zero_le _,rfl,HK.out.below,HK.out.r2⟩
   case round=>
    rename World=>wB
    obtain⟨n,hn,rfl,hb,q2⟩:=hrel;by_cases hlt:n<globs.length
    ·obtain⟨g,cap,e2,l1,-,l4,-⟩:GlobsR w (.slice hp globs.length hc) globs:=by
      rcases HG.out with⟨n',c,e,e2⟩|⟨a,n',c,e,h⟩
      ·exfalso;cases e;cases e2;exact HNG.out hlt rfl
      ·exact h
     cases e2;obtain⟨cv,-,-,-,x3,hC⟩:=l4 n hlt;obtain⟨cp,cc,rfl⟩:=hC.slice;have y3:=cell_keep hb.out x3;have hn1:(0:Int)<=(n:Int):=by omega
     have hn2:(n:Int)<(globs.length:Int):=by omega
     have HC:=hid hC;have hs3:=HSH.out n hlt;have HSA:=hid (HSB.out n hlt);clear l4 x3 hC;generalize globs[n].code=code at*;go_upto_region 12 with fail
     go_cut [80] (λc wx=>c=.bool false∧wx=wB)
     case first=>
      rcases HC.out with⟨c,e,e2⟩|⟨g2,cap2,e,j1,-,-,-,j5⟩
      ·have ep:cp=none:=by injection e
       subst ep;clear e e2;go_wp2_with fail
       all_goals go_meet
       all_goals exact⟨rfl,rfl⟩
      ·cases e;have k5:=cell_keep hb.out j5;have j2:(code.length:Int)+1<=(cc:Int):=by omega
       go_wp2_with fail
       all_goals go_meet
       all_goals exact⟨rfl,rfl⟩
     case rest=>
      obtain⟨rfl,e⟩:=hcut;subst e;go_wp2;go_loopw [8] (λk wr=>∃j:Nat,j<=code.length∧k=.int .i64 j∧Hid (Below w.heap.size w wr)∧wr.cell? ⟨w.heap.size,2,none⟩=some (.slice (some ⟨g,0,none⟩) globs.length hc)) (λk _=>code.length-(intOf k).toNat)
      case atStart=>exact⟨0,Nat.zero_le _,rfl,hb.out,q2⟩
      case round=>
       rename World=>wD
       obtain⟨j,hj,rfl,hbj,p2⟩:=hrel;by_cases hjt:j<code.length
       ·rcases HC.out with⟨c,e,e2⟩|⟨g2,cap2,e,j1,-,-,j4,-⟩
        ·subst e2;simp at hjt
        ·cases e;obtain⟨av,-,-,x2,hAl⟩:=j4 j hjt;obtain⟨ap,ac,rfl⟩:=hAl.slice;have y2:=cell_keep hbj.out x2;have hj1:(0:Int)<=(j:Int):=by omega
         have hj2:(j:Int)<(code.length:Int):=by omega
         have HAL:=hid hAl;have hs4:=HSA.out j hjt;clear j4 x2 hAl y3;generalize code[j].alts=alts at*;go_upto_region 18 with fail
         go_cut [106] (λc wx=>c=.bool false∧wx=wD)
         case first=>
          rcases HAL.out with⟨c,e,e2⟩|⟨g3,cap3,e,j1,-,-,-,j5⟩
          ·have ep:ap=none:=by injection e
           subst ep;clear e e2;go_wp2_with fail
           all_goals go_meet
           all_goals exact⟨rfl,rfl⟩
          ·cases e;have k5:=cell_keep hbj.out j5;have j2:(alts.length:Int)+1<=(ac:Int):=by omega
           go_wp2_with fail
           all_goals go_meet
           all_goals exact⟨rfl,rfl⟩
         case rest=>
          obtain⟨rfl,e⟩:=hcut;subst e;go_wp2;go_roundw
          case rel=>
           first
           |exact⟨j+1,by omega,by go_num,hbj,p2⟩
           |((repeat apply Exists.intro);exact⟨⟨j+1,by omega,by go_num,hbj,p2⟩,rfl⟩)
          case measure=>simp[intOf];omega
       ·go_wp2;go_roundw
        case rel=>
         first
         |exact⟨n+1,by omega,by go_num,hbj,p2⟩
         |((repeat apply Exists.intro);exact⟨⟨n+1,by omega,by go_num,hbj,p2⟩,rfl⟩)
        case measure=>simp[intOf];omega
    ·go_wp2;go_ret;exact⟨rfl,hb.out⟩
end Go.Proofs.YtlccndplhfcknaaGreatDoor

import Derived.Test.YtlccndplhfcknaaGreatDoorValsJ
set_option maxRecDepth 100000
set_option maxHeartbeats 8000000
namespace Go.Proofs.YtlccndplhfcknaaGreatDoor
open Go.RowKit Go.Sort
def KeptI(iv iv':Value)(wx:World)(lo:Nat)(imps:List LImp):Prop:=(∃n c,iv=.slice none n c∧iv'=iv)∨(∃a n c,iv=.slice (some a) n c∧ImpsR wx lo iv' imps)
def KeptG(gv gv':Value)(w':World)(globs:List LGlob):Prop:=(∃n c,gv=.slice none n c∧gv'=gv)∨(∃a n c,gv=.slice (some a) n c∧GlobsR w' gv' globs)
structure KB (w wx:World) (r1 r2 o1 o2:Value):Prop where
 below:Below w.heap.size w wx
 r1:wx.cell? ⟨w.heap.size,1,none⟩=some r1
 r2:wx.cell? ⟨w.heap.size,2,none⟩=some r2
 o1:wx.cell? ⟨w.heap.size+1,1,none⟩=some o1
 o2:wx.cell? ⟨w.heap.size+1,2,none⟩=some o2
theorem KB.first(w w3:World)(a b:Value)(r1 r2 o1 o2:Value)(hb:Below ((w.alloc (.cells #[a,r1,r2] 44)).alloc (.cells #[b,o1,o2] 44)).heap.size ((w.alloc (.cells #[a,r1,r2] 44)).alloc (.cells #[b,o1,o2] 44)) w3):KB w w3 r1 r2 o1 o2:=by
 have c:=λ(i:Nat) (v:Value) (h:#[a,r1,r2][i]?=some v)=>alloc_cell w #[a,r1,r2] 44 i v h;have e1:(w.alloc (.cells #[a,r1,r2] 44)).heap.size=w.heap.size+1:=by simp
 have d:=λ(i:Nat) (v:Value) (h:#[b,o1,o2][i]?=some v)=>alloc_cell (w.alloc (.cells #[a,r1,r2] 44)) #[b,o1,o2] 44 i v h;rw[e1]at d;exact⟨(((Below.refl _ _).alloc (Nat.le_refl _) _).alloc (by simp) _).trans (hb.mono (by simp;omega)),cell_keep hb (alloc_old _ _ _ _ _ (c 1 _ rfl)),cell_keep hb (alloc_old _ _ _ _ _ (c 2 _ rfl)),cell_keep hb (d 1 _ rfl),cell_keep hb (d 2 _ rfl)⟩
theorem KB.drews{w wx:World}{r1 r2 o1 o2:Value}(h:KB w wx r1 r2 o1 o2)(n:Nat):KB w (wx.drewN n) r1 r2 o1 o2:=⟨below_drewN h.below _,h.r1,h.r2,h.o1,h.o2⟩
theorem kept_any(O:LObj)(iv gv iv' gv':Value)(w:World)(hA:ObjAt w (.agg #[.string O.name,iv',gv']) O)(hB:ObjAt w (.agg #[.string O.name,iv,gv]) O)(hI:KeptI iv iv' w 0 O.imps)(hG:KeptG gv gv' w O.globs):
 Calls Tryz.prog 19 #[.agg #[.string O.name,iv',gv'],.agg #[.string O.name,iv,gv]] w λe w'=>e=.returned (.bool true)∧Below w.heap.size w w':=by
 obtain⟨ia,ga,e1,hsz,hIA,hGA⟩:=id hA;obtain⟨ib,gb,e2,-,hIB,hGB⟩:=id hB;obtain⟨rfl,rfl⟩:iv'=ia∧gv'=ga:=by simpa using e1
 obtain⟨rfl,rfl⟩:iv=ib∧gv=gb:=by simpa using e2
 obtain⟨qp,qc,rfl,hs1,-⟩:=hIA.open;obtain⟨hp,hc,rfl,hs2,hgin⟩:=hGA.open;obtain⟨ip,ic,rfl,-,-⟩:=hIB.open;obtain⟨gp,gc,rfl,-,-⟩:=hGB.open;have HA:=hid hA;have HB:=hid hB;have HI:=hid hI;have HNG:Hid (∀{n:Nat},n<O.globs.length->hp≠none):=by
  intro n h;obtain⟨b,o,cp,cn,cc,rfl,-⟩:=hgin _ (Below.refl _ _) n h;simp
 have HSB:Hid (∀n (h:n<O.globs.length) j (hj:j<O.globs[n].code.length),O.globs[n].code[j].alts.length<140737488355328):=by
  intro n h j hj;obtain⟨b,o,cp,cn,cc,-,-,-,-,-,hca,-⟩:=hgin _ (Below.refl _ _) n h;obtain⟨_,_,-,-,h2⟩:=hca.open;obtain⟨_,_,_,_,_,-,-,-,-,hal⟩:=h2 _ (Below.refl _ _) j hj;obtain⟨_,_,-,h3,-⟩:=hal.open;exact h3
 have HSH:Hid (∀n (h:n<O.globs.length),O.globs[n].code.length<140737488355328):=by
  intro n h;obtain⟨b,o,cp,cn,cc,-,-,-,-,-,hca,-⟩:=hgin _ (Below.refl _ _) n h;obtain⟨_,_,-,h,-⟩:=hca.open;exact h
 have HG:=hid hG;clear hA hB hI hG hgin e1 e2 hIA hGA hIB hGB;generalize O.name=nm at*;generalize hx1:O.imps=imps at*;generalize hx2:O.globs=globs at*;clear hx1 hx2;go_enter Tryz.func19,Tryz.ntmps19;go_wp2_with (first|(go_at_call 31;refine(Same_any O _ _ _ ?_ ?_).mono ?_;exact HA.out.keep (((Below.refl _ _).alloc (Nat.le_refl _) _).alloc (by simp) _);exact HB.out.keep (((Below.refl _ _).alloc (Nat.le_refl _) _).alloc (by simp) _);rintro e w3 ⟨rfl,hb3⟩;have HKB:=hid (KB.first w w3 _ _ _ _ _ _ hb3);clear hb3))
 go_cut [33] (λc wx=>c=.bool false∧Hid (KB w wx (.slice qp imps.length qc) (.slice hp globs.length hc) (.slice ip imps.length ic) (.slice gp globs.length gc)))
 case first=>
  have HK:=HKB;obtain⟨hb,r1,r2,o1,o2⟩:=id HKB.out;clear HKB;rcases HI.out with⟨n,c,e,e2⟩|⟨a,n,c,e,g,cap,e2,l1,-,-,-,l5⟩
  ·cases e;clear e2;go_quiet (fail);all_goals go_wp2_with fail
   all_goals go_meet
   all_goals exact⟨rfl,HK.out.drews _⟩
  ·cases e;cases e2;have k5:=cell_keep hb l5;have l2:(imps.length:Int)+1<=(qc:Int):=by omega
   go_quiet (fail);all_goals go_wp2_with fail
   all_goals go_meet
   all_goals exact⟨rfl,HK.out.drews _⟩
 case rest=>
  obtain⟨rfl,hcut⟩:=hcut;clear HKB;rename World=>w4
  go_wp2;go_cut [52] (λc wx=>c=.bool false∧Hid (KB w wx (.slice qp imps.length qc) (.slice hp globs.length hc) (.slice ip imps.length ic) (.slice gp globs.length gc)))
  case first=>
   have HK:=hcut;obtain⟨hb,r1,r2,o1,o2⟩:=id hcut.out;clear hcut;rcases HG.out with⟨n,c,e,e2⟩|⟨a,n,c,e,g,cap,e2,l1,-,-,l5⟩
   ·cases e;clear e2;go_quiet (fail);all_goals go_wp2_with fail
    all_goals go_meet
    all_goals exact⟨rfl,HK.out.drews _⟩
   ·cases e;cases e2;have k5:=cell_keep hb l5;have l2:(globs.length:Int)+1<=(hc:Int):=by omega
    go_quiet (fail);all_goals go_wp2_with fail
    all_goals go_meet
    all_goals exact⟨rfl,HK.out.drews _⟩
  case rest=>
   obtain⟨rfl,hcut⟩:=hcut;rename World=>w5
   have HK:=hcut;have r2:=hcut.out.r2;clear hcut;go_wp2;go_loopw [6] (λk wr=>∃n:Nat,n<=globs.length∧k=.int .i64 n∧Hid (Below w.heap.size w wr)∧wr.cell? ⟨w.heap.size,2,none⟩=some (.slice hp globs.length hc)) (λk _=>globs.length-(intOf k).toNat)
   case atStart=>exact⟨0,Nat.zero_le _,rfl,HK.out.below,HK.out.r2⟩
   case round=>
    rename World=>wB
    obtain⟨n,hn,rfl,hb,q2⟩:=hrel;by_cases hlt:n<globs.length
    ·obtain⟨g,cap,e2,l1,-,l4,-⟩:GlobsR w (.slice hp globs.length hc) globs:=by
      rcases HG.out with⟨n',c,e,e2⟩|⟨a,n',c,e,h⟩
      ·exfalso;cases e;cases e2;exact HNG.out hlt rfl
      ·exact h
     cases e2;obtain⟨cv,-,-,-,x3,hC⟩:=l4 n hlt;obtain⟨cp,cc,rfl⟩:=hC.slice;have y3:=cell_keep hb.out x3;have hn1:(0:Int)<=(n:Int):=by omega
     have hn2:(n:Int)<(globs.length:Int):=by omega
     have HC:=hid hC;have hs3:=HSH.out n hlt;have HSA:=hid (HSB.out n hlt);clear l4 x3 hC;generalize globs[n].code=code at*;go_upto_region 12 with fail
     go_cut [80] (λc wx=>c=.bool false∧wx=wB)
     case first=>
      rcases HC.out with⟨c,e,e2⟩|⟨g2,cap2,e,j1,-,-,-,j5⟩
      ·have ep:cp=none:=by injection e
       subst ep;clear e e2;go_wp2_with fail
       all_goals go_meet
       all_goals exact⟨rfl,rfl⟩
      ·cases e;have k5:=cell_keep hb.out j5;have j2:(code.length:Int)+1<=(cc:Int):=by omega
       go_wp2_with fail
       all_goals go_meet
       all_goals exact⟨rfl,rfl⟩
     case rest=>
      obtain⟨rfl,e⟩:=hcut;subst e;go_wp2;go_loopw [8] (λk wr=>∃j:Nat,j<=code.length∧k=.int .i64 j∧Hid (Below w.heap.size w wr)∧wr.cell? ⟨w.heap.size,2,none⟩=some (.slice (some ⟨g,0,none⟩) globs.length hc)) (λk _=>code.length-(intOf k).toNat)
      case atStart=>exact⟨0,Nat.zero_le _,rfl,hb.out,q2⟩
      case round=>
       rename World=>wD
       obtain⟨j,hj,rfl,hbj,p2⟩:=hrel;by_cases hjt:j<code.length
       ·rcases HC.out with⟨c,e,e2⟩|⟨g2,cap2,e,j1,-,-,j4,-⟩
        ·subst e2;simp at hjt
        ·cases e;obtain⟨av,-,-,x2,hAl⟩:=j4 j hjt;obtain⟨ap,ac,rfl⟩:=hAl.slice;have y2:=cell_keep hbj.out x2;have hj1:(0:Int)<=(j:Int):=by omega
         have hj2:(j:Int)<(code.length:Int):=by omega
         have HAL:=hid hAl;have hs4:=HSA.out j hjt;clear j4 x2 hAl y3;generalize code[j].alts=alts at*;go_upto_region 18 with fail
         go_cut [106] (λc wx=>c=.bool false∧wx=wD)
         case first=>
          rcases HAL.out with⟨c,e,e2⟩|⟨g3,cap3,e,j1,-,-,-,j5⟩
          ·have ep:ap=none:=by injection e
           subst ep;clear e e2;go_wp2_with fail
           all_goals go_meet
           all_goals exact⟨rfl,rfl⟩
          ·cases e;have k5:=cell_keep hbj.out j5;have j2:(alts.length:Int)+1<=(ac:Int):=by omega
           go_wp2_with fail
           all_goals go_meet
           all_goals exact⟨rfl,rfl⟩
         case rest=>
          obtain⟨rfl,e⟩:=hcut;subst e;go_wp2;go_roundw
          case rel=>
           first
           |exact⟨j+1,by omega,by go_num,hbj,p2⟩
           |((repeat apply Exists.intro);exact⟨⟨j+1,by omega,by go_num,hbj,p2⟩,rfl⟩)
          case measure=>simp[intOf];omega
       ·go_wp2;go_roundw
        case rel=>
         first
         |exact⟨n+1,by omega,by go_num,hbj,p2⟩
         |((repeat apply Exists.intro);exact⟨⟨n+1,by omega,by go_num,hbj,p2⟩,rfl⟩)
        case measure=>simp[intOf];omega
    ·go_wp2;go_ret;exact⟨rfl,hb.out⟩
end Go.Proofs.YtlccndplhfcknaaGreatDoor
namespace Go.Proofs.YtlccndplhfcknaaGreatDoor
open Go.RowKit
def succI(op a:Int)(alts:List LAlt)(k:Nat):List Int:=if op=19∨op=20 then [] else if op=18 then [a] else if op=17 then alts.map (·.to) else [(k:Int)+1]
def intsV(l:List Int):List Value:=l.map λa=>Value.int .i64 a
def OwnInts(w:World)(base:Nat)(v:Value)(l:List Int):Prop:=w.ownsRow base 3 1 v l.length (intsV l)
theorem next_any(op a:Int)(alts:List LAlt)(av:Value)(k:Nat)(w:World)(hA:AltsAt w av alts)(hl:alts.length<=256)(hk:k<=65535):
 Calls Tryz.prog 66 #[.agg #[.int .i64 op,.int .i64 a,av],.int .i64 k] w λe w'=>(∃v,e=.returned v∧OwnInts w' w.heap.size v (succI op a alts k))∧Below w.heap.size w w':=by
 obtain⟨p,cap,rfl,hs1,hcell⟩:=hA.open;have HC:Hid (∀w',Below w.heap.size w w'->AltsIn w' p alts):=hcell;obtain⟨i,hi,hii⟩:=Option.map_eq_some_iff.1 Tryz.intInfo;simp only[Prod.mk.injEq]at hii;obtain⟨hz0,hz1,hz2⟩:=hii;have HI:Hid (i.zero=some (.int .i64 0)∧i.size=1∧i.bytes=8):=⟨hz0,hz1,hz2⟩;clear hcell hA hz0 hz1 hz2;by_cases h19:op=19∨op=20
 ·have HS:Hid (succI op a alts k=[]):=by show _=_;unfold succI;rw[if_pos h19]
  rcases h19 with rfl|rfl;all_goals
   go_enter Tryz.func66,Tryz.ntmps66;go_wp2;go_ret;exact⟨⟨_,rfl,by rw[HS.out];exact⟨rfl,Or.inl ⟨rfl,rfl⟩⟩⟩,(Below.refl _ _).alloc (Nat.le_refl _) _⟩
 ·by_cases h18:op=18
  ·subst h18;have HS:Hid (succI 18 a alts k=[a]):=rfl;go_enter Tryz.func66,Tryz.ntmps66;go_wp2_with (first|(at_builtin;refine wpList_append_lies _ rfl _ _ _ rfl w.heap.size 3 i (.int .i64 0) 1 8 Tryz.underlying112 hi HI.out.1 HI.out.2.1 HI.out.2.2 rfl (by omega) (.slice none 0 0) 0 [] rfl ⟨rfl,Or.inl ⟨rfl,rfl⟩⟩ ⟨w.heap.size+1,0,none⟩ 1 1 [.int .i64 a] rfl rfl ?hnews ?h1 (by omega) ?h63 ?hbytes ?hbase (w.heap.size+1+1) ?hH ?_))
   case hnews=>exact news_one _ _ _ _ (by simp)
   case h1=>intro u hu;simp at hu;subst hu;rfl
   case h63=>unfold maxLen;omega
   case hbytes=>omega
   case hbase=>simp;omega
   case hH=>simp
   intro g gc w1 hown hgrow hat hlt;go_wp2;go_ret;refine⟨⟨_,rfl,by rw[HS.out];exact hown⟩,?_⟩;refine Below.grown ?_ hgrow (by simp;omega) (by intro k hk;cases hk);exact((Below.refl _ _).alloc (Nat.le_refl _) _).alloc (by simp) _
  ·have b18:(op==18)=false:=by simp[h18]
   have b19:(op==19)=false:=by simp;omega
   have b20:(op==20)=false:=by simp;omega
   by_cases h17:op=17
   ·subst h17;have HS:Hid (succI 17 a alts k=alts.map (·.to)):=rfl;go_enter Tryz.func66,Tryz.ntmps66;go_wp2;go_loopw [5,6] (λs i wr=>∃(j:Nat) (sv:Value),j<=alts.length∧s=sv∧i=.int .i64 j∧Hid (OwnInts wr w.heap.size sv ((alts.take j).map (·.to)))∧Hid (sv.ownBlock≠some w.heap.size)∧Below w.heap.size w wr∧wr.cell? ⟨w.heap.size,2,none⟩=some (.slice p alts.length cap)∧w.heap.size<wr.heap.size) (λ_ i _=>alts.length-(intOf i).toNat)
    case atStart=>exact⟨0,.slice none 0 0,Nat.zero_le _,rfl,rfl,⟨rfl,Or.inl ⟨rfl,rfl⟩⟩,(by intro h;cases h),(Below.refl _ _).alloc (Nat.le_refl _) _,by simp,by simp⟩
    case round=>
     obtain⟨j,sv,hj,rfl,rfl,ho,hne,hb,q2,hz⟩:=hrel;by_cases hlt:j<alts.length
     ·obtain⟨b,o,rfl,x0,x1⟩:=HC.out _ hb j hlt;have HL:Hid (((alts.take (j+1)).map (·.to))=((alts.take j).map (·.to))++[alts[j].to]):=by
       show _=_;rw[List.take_succ_eq_append_getElem hlt,List.map_append];rfl
      have hN:((alts.take j).map (·.to)).length=j:=by simp;omega
      have hO:wr.ownsRow w.heap.size 3 1 u5 ((alts.take j).map (·.to)).length (intsV ((alts.take j).map (·.to))):=ho.out;rw[hN]at hO;have HO:Hid (wr.ownsRow w.heap.size 3 1 u5 j (intsV ((alts.take j).map (·.to)))):=hO;have HN:Hid (((alts.take j).map (·.to)).length=j):=hN;clear hO hN ho;generalize alts[j].tag=tg at*;generalize alts[j].to=tto at*;generalize ((alts.take j).map (·.to))=pre at*;go_wp2_with (first|(at_builtin;refine wpList_append_lies _ rfl _ _ _ rfl w.heap.size 3 i (.int .i64 0) 1 8 Tryz.underlying112 hi HI.out.1 HI.out.2.1 HI.out.2.2 rfl (by omega) u5 j (intsV pre) rfl (HO.out.alloc _) ⟨wr.heap.size,0,none⟩ 1 1 [.int .i64 tto] rfl rfl ?hnews ?h1 (by omega) ?h63 ?hbytes ?hbase (wr.heap.size+1) ?hH ?_))
      case hnews=>exact news_one _ _ _ _ (by simp)
      case h1=>intro u hu;simp at hu;subst hu;rfl
      case h63=>unfold maxLen;omega
      case hbytes=>omega
      case hbase=>simp;omega
      case hH=>simp
      intro g gc w1 hown hgrow hat hlt2;have hfar:w1.cell? ⟨w.heap.size,2,none⟩=some (.slice (some ⟨b,o,none⟩) alts.length cap):=by
       rw[hgrow.cell_far ⟨w.heap.size,2,none⟩ (by simp;omega) (λe=>hne.out e.symm),World.cell?_alloc_lt _ _ _ hz];exact q2
      have hs3:=hgrow.size;simp at hs3;have HOW:Hid (OwnInts w1 w.heap.size (.slice (some ⟨g,0,none⟩) (j+1) gc) (pre++[tto])):=by
       show w1.ownsRow _ _ _ _ _ _;rw[List.length_append,HN.out,intsV,List.map_append];exact hown
      have HNE:Hid ((Value.slice (some ⟨g,0,none⟩) (j+1) gc).ownBlock≠some w.heap.size):=by
       intro e;have e':g=w.heap.size:=by simpa[Value.ownBlock]using e
       rcases hat with h|h
       ·exact hne.out (by rw[h,e'])
       ·omega
      have hbf:Below w.heap.size w w1:=by
       refine Below.grown (hb.alloc (by omega) _) hgrow (by simp;omega) ?_;intro g' hg';rcases HO.out.2 with⟨rfl,_⟩|⟨g2,cap2,cur,rfl,hbb,_⟩
       ·cases hg'
       ·simp[Value.ownBlock]at hg';omega
      clear hown hgrow hat;go_wp2;exact⟨⟨j+1,_,by omega,rfl,by go_num,by rw[HL.out];exact HOW,HNE,hbf,hfar,by omega⟩,by simp[intOf];omega⟩
     ·have HFin:Hid (OwnInts wr w.heap.size u5 (alts.map (·.to))):=by
       have:=ho.out;rw[List.take_of_length_le (by omega)]at this;exact this
      go_wp2;go_ret;exact⟨⟨_,rfl,by rw[HS.out];exact HFin.out⟩,hb⟩
   ·have b17:(op==17)=false:=by simp[h17]
    have HS:Hid (succI op a alts k=[(k:Int)+1]):=by show _=_;unfold succI;rw[if_neg h19,if_neg h18,if_neg h17]
    clear h17 h18 h19;go_enter Tryz.func66,Tryz.ntmps66;go_wp2_with (first|(at_builtin;refine wpList_append_lies _ rfl _ _ _ rfl w.heap.size 3 i (.int .i64 0) 1 8 Tryz.underlying112 hi HI.out.1 HI.out.2.1 HI.out.2.2 rfl (by omega) (.slice none 0 0) 0 [] rfl ⟨rfl,Or.inl ⟨rfl,rfl⟩⟩ ⟨w.heap.size+1,0,none⟩ 1 1 [.int .i64 ((k:Int)+1)] rfl rfl ?hnews ?h1 (by omega) ?h63 ?hbytes ?hbase (w.heap.size+1+1) ?hH ?_))
    case hnews=>exact news_one _ _ _ _ (by simp)
    case h1=>intro u hu;simp at hu;subst hu;rfl
    case h63=>unfold maxLen;omega
    case hbytes=>omega
    case hbase=>simp;omega
    case hH=>simp
    intro g gc w1 hown hgrow hat hlt;go_wp2;go_ret;refine⟨⟨_,rfl,by rw[HS.out];exact hown⟩,?_⟩;refine Below.grown ?_ hgrow (by simp;omega) (by intro k hk;cases hk);exact((Below.refl _ _).alloc (Nat.le_refl _) _).alloc (by simp) _
theorem hid2{p:Prop}(h:p):Hid p:=h
theorem nodup_le:∀(n:Nat) (l:List Nat),l.Nodup->(∀x∈l,x<n)->l.length<=n
 |0,l,_,h=>by
  cases l with
  |nil=>simp
  |cons a r=>exact absurd (h a (by simp)) (by omega)
 |n+1,l,hd,h=>by
  have h1:(l.erase n).Nodup:=hd.erase n;have h2:∀x∈l.erase n,x<n:=λx hx=>by
   have h3:=List.mem_of_mem_erase hx;have h4:x≠n:=λe=>by subst e;exact(List.Nodup.not_mem_erase hd) hx
   have:=h x h3;omega
  have h5:=nodup_le n (l.erase n) h1 h2;by_cases hm:n∈l
  ·have:=List.length_erase_of_mem hm;omega
  ·rw[List.erase_of_not_mem hm]at h5;omega
theorem altsB_len(l:List LAlt)(h:altsB l=true):l.length<=256:=by
 obtain⟨h1,h2⟩:=(altsB_iff l).1 h;have hr:∀j (hj:j<l.length),0<=l[j].tag∧l[j].tag<=255:=λj hj=>by
  have:=h1 j hj hj;simp only[altOk,Bool.and_eq_true,decide_eq_true_eq]at this;omega
 have:=nodup_le 256 (l.map λa=>a.tag.toNat) ?_ ?_
 ·simpa using this
 ·rw[List.nodup_iff_pairwise_ne,List.pairwise_iff_getElem];intro i j hi hj hij;simp only[List.length_map]at hi hj;have a1:=h2 i j hi hj hij hj;have a2:=hr i hi;have a3:=hr j hj;simp only[List.getElem_map];omega
 ·intro x hx;obtain⟨a,ha,rfl⟩:=List.mem_map.1 hx;obtain⟨i,hi,rfl⟩:=List.mem_iff_getElem.1 ha;have:=hr i hi;omega
theorem altsGood_eq(l:List LAlt):altsGood l=(altsB l && decide (0<l.length)):=by
 unfold altsGood;cases h:altsB l with
 |true=>simp[altsB_len l h]
 |false=>simp
theorem insG_row(k:Nat)(hk:k<21)(a:Int)(alts:List LAlt):insG k a alts=
 if rowN k 0=1 then (alts.length:Int)==0 else if rowN k 0=2 then ((alts.length:Int)==0) && decide (rowN k 1<=a) && decide (a<=rowN k 2) else if rowN k 0=3 then (a==0) && altsGood alts else (a==0) && ((alts.length:Int)==0):=by
 simp only[insG];rw[if_pos (by omega)];rfl
theorem refFits_case(a:Int)(alts:List LAlt)(av:Value)(w:World)(hA:AltsAt w av alts)(ha:a=0):
 Calls Tryz.prog 47 #[.agg #[.int .i64 17,.int .i64 a,av]] w λe w'=>e=.returned (.bool (altsGood alts))∧Below w.heap.size w w':=by
 subst ha;obtain⟨p,cap,rfl,hs1,hcell⟩:=hA.open;have HC:Hid (∀w',Below w.heap.size w w'->AltsIn w' p alts):=hcell;have HB:Hid (∀w,Calls Tryz.prog 65 #[.int .i64 17] w λe w'=>e=.returned (.tuple #[.int .i64 1,.int .i64 0])∧w'=w):=λw=>refBounds_any 17 (by omega) w;have HG:=hid2 (altsGood_eq alts);clear hcell hA;go_enter Tryz.func47,Tryz.ntmps47;go_wp2_with (first|(go_at_call 65;refine(HB.out _).mono ?_;rintro e w1 ⟨rfl,rfl⟩))
 go_loopw [5] (λi wr=>∃k:Nat,k<=alts.length∧i=.int .i64 k∧Hid (altsUpto alts k)∧wr.cell? ⟨w.heap.size,0,none⟩=some (.int .i64 17)∧wr.cell? ⟨w.heap.size,2,none⟩=some (.slice p alts.length cap)∧Below w.heap.size w wr∧w.heap.size<wr.heap.size) (λi _=>alts.length-(intOf i).toNat)
 case atStart=>exact⟨0,Nat.zero_le _,rfl,altsUpto_zero _,by simp,by simp,(Below.refl _ _).alloc (Nat.le_refl _) _,by simp⟩
 case round=>
  obtain⟨k,hk,rfl,ha,q0,q2,hb,hz⟩:=hrel;by_cases hlt:k<alts.length
  ·obtain⟨b,o,rfl,c0,c1⟩:=HC.out _ hb k hlt;have HTG:=hid2 (Eq.refl alts[k].tag);by_cases hok:altOk alts[k]=true
   ·have hok2:0<=alts[k].tag∧alts[k].tag<=255∧0<=alts[k].to∧alts[k].to<=65535:=by
     simp only[altOk,Bool.and_eq_true,decide_eq_true_eq]at hok;omega
    obtain⟨k1,k2,k3,k4⟩:=hok2;have HOK:Hid (altOk alts[k]=true):=hok;have hbs:Nat.ble 0 0=true:=rfl;clear hok hbs;generalize htg:alts[k].tag=tg at*;have HT:Hid (alts[k].tag=tg):=htg;clear htg HTG;generalize alts[k].to=tto at*;have t1:decide (tg<0)=false:=by simp;omega
    have t2:decide (255<tg)=false:=by simp;omega
    have t3:decide (tto<0)=false:=by simp;omega
    have t4:decide (65535<tto)=false:=by simp;omega
    rename World=>W0
    go_wp2;go_loopw [7] (λs wx=>∃j:Nat,j<=k∧s=.int .i64 j∧Hid (∀i (hi:i<alts.length),i<j->alts[i].tag≠alts[k].tag)∧wx.cell? ⟨W0.heap.size,0,none⟩=some (.int .i64 tg)∧wx.cell? ⟨w.heap.size,0,none⟩=some (.int .i64 17)∧wx.cell? ⟨w.heap.size,2,none⟩=some (.slice (some ⟨b,o,none⟩) alts.length cap)∧Below w.heap.size w wx∧w.heap.size<wx.heap.size) (λs _=>k-(intOf s).toNat)
    case atStart=>exact⟨0,Nat.zero_le _,rfl,λ_ _ h=>absurd h (by omega),by simp,by rw[World.cell?_alloc_lt _ _ _ hz];exact q0,by rw[World.cell?_alloc_lt _ _ _ hz];exact q2,hb.alloc hb.size _,by simp;omega⟩
    case round=>
     obtain⟨j,hj,rfl,hd,y1,y2,y3,hbx,hzx⟩:=hrel;clear q0 q2 c0 c1 t1 t2 t3 t4 hb hz;by_cases hjl:j<k
     ·obtain⟨b',o',e,x0,x1⟩:=HC.out _ hbx j (by omega);obtain⟨rfl,rfl⟩:b=b'∧o=o':=by simpa using e
      have hj1:(0:Int)<=(j:Int):=by omega
      have hj2:(j:Int)<(alts.length:Int):=by omega
      have HTW:Hid (alts[j].tag=tg->altsB alts=false):=λh=>altsB_twice alts k hlt ⟨j,by omega,hjl,by rw[HT.out];exact h⟩;have HND:Hid (alts[j].tag≠tg->∀i (hi:i<alts.length),i<j+1->alts[i].tag≠alts[k].tag):=by
       intro h i hi hij;by_cases e:i=j
       ·subst e;rw[HT.out];exact h
       ·exact hd.out i hi (by omega)
      clear e x1;generalize alts[j].tag=tj at*;go_wp2;go_quiet (fail);go_wp2;any_goals
       go_ret;exact⟨ret_bool (by rw[HG.out,HTW.out (by simp_all)];rfl),below_drewN hbx _⟩
      all_goals exact⟨⟨j+1,by omega,by go_num,HND.out (by simp_all),y1,y2,y3,below_drewN hbx _,hzx⟩,by simp[intOf];omega⟩
     ·go_wp2;exact⟨⟨k+1,by omega,by go_num,altsUpto_next alts k hlt ha.out HOK.out (λi hi hik=>hd.out i hi (by omega)),y2,y3,hbx,hzx⟩,by simp[intOf];omega⟩
   ·have hok2:alts[k].tag<0∨255<alts[k].tag∨alts[k].to<0∨65535<alts[k].to:=by
     have:altOk alts[k]=false:=by simpa using hok
     simp only[altOk,Bool.and_eq_false_iff,decide_eq_false_iff_not]at this;omega
    have HBad:Hid (altsB alts=false):=altsB_bad alts k hlt (by simpa using hok);clear hok HTG;generalize alts[k].tag=tg at*;generalize alts[k].to=tto at*;go_wp2;all_goals
     go_ret;exact⟨ret_bool (by rw[HG.out,HBad.out];rfl),hb.alloc hb.size _⟩
  ·have HE:Hid (altsB alts=true):=(altsB_iff alts).2 (by have:=ha.out;rw[show k=alts.length by omega]at this;exact this);go_wp2;go_ret;refine⟨ret_bool ?_,hb⟩;rw[HG.out,HE.out,Bool.true_and]
theorem bd_facts(k:Nat)(hk:k<21)(h17:k≠17):
 (rowN k 0=2∧(if k=7 then (1:Int) else if rowN k 0=2 then 0 else 1)=rowN k 1∧(if rowN k 0=2 then rowN k 2 else 0)=rowN k 2∧rowN k 1<=rowN k 2∧k≠0)∨k=0∨
 (rowN k 0=0∧(if k=7 then (1:Int) else if rowN k 0=2 then 0 else 1)=1∧(if rowN k 0=2 then rowN k 2 else 0)=0∧k≠0):=by
 rcases all21 k hk with rfl|rfl|rfl|rfl|rfl|rfl|rfl|rfl|rfl|rfl|rfl|rfl|rfl|rfl|rfl|rfl|rfl|rfl|rfl|rfl|rfl;all_goals first|(exact absurd rfl h17)|decide
theorem refFits_any(op a:Int)(alts:List LAlt)(av:Value)(w:World)(hA:AltsAt w av alts):
 Calls Tryz.prog 47 #[.agg #[.int .i64 op,.int .i64 a,av]] w λe w'=>e=.returned (.bool (insG op a alts))∧Below w.heap.size w w':=by
 obtain⟨p,cap,rfl,hs1,-⟩:=hA.open;by_cases ho:0<=op∧op<21
 ·obtain⟨k,rfl⟩:=Int.eq_ofNat_of_zero_le ho.1;have hk:k<21:=by omega
  have hR:=insG_row k hk a alts;by_cases h17:k=17
  ·subst h17;have e0:rowN 17 0=3:=rfl;rw[e0]at hR;by_cases ha:a=0
   ·have:insG ((17:Nat):Int) a alts=altsGood alts:=by rw[hR];simp[ha]
    rw[this];exact refFits_case a alts _ w hA ha
   ·have HF:Hid (insG ((17:Nat):Int) a alts=false):=by show _=_;rw[hR];simp[ha]
    have hb:(a !=0)=true:=by simp[ha]
    have HB:Hid (∀w,Calls Tryz.prog 65 #[.int .i64 17] w λe w'=>e=.returned (.tuple #[.int .i64 1,.int .i64 0])∧w'=w):=λw=>refBounds_any 17 (by omega) w;clear hR hA ho;go_enter Tryz.func47,Tryz.ntmps47;go_wp2_with (first|(go_at_call 65;refine(HB.out _).mono ?_;rintro e w1 ⟨rfl,rfl⟩))
    go_ret;exact⟨ret_bool HF.out.symm,(Below.refl _ _).alloc (Nat.le_refl _) _⟩
  ·have hkz:decide ((k:Int)<0)=false:=by rw[decide_eq_false_iff_not];omega
   have hkm:decide (20<(k:Int))=false:=by rw[decide_eq_false_iff_not];omega
   have hk17:((k:Int) !=17)=true:=by rw[bne_iff_ne];omega
   have hf:=bd_facts k hk h17;have HB0:=hid2 (λw=>refBounds_any k hk w);by_cases hn:alts.length=0
   ·have hn1:((alts.length:Int)==0)=true:=by simp[hn]
    have hn2:((alts.length:Int) !=0)=false:=by simp[hn]
    rw[hn1]at hR;have HR:=hid2 hR;clear hR hA ho hn1;generalize alts.length=n at*;subst hn;rcases hf with⟨f0,f1,f2,f3,f4⟩|rfl|⟨f0,f1,f2,f4⟩
    ·have HB:Hid (∀w,Calls Tryz.prog 65 #[.int .i64 k] w λe w'=>e=.returned (.tuple #[.int .i64 (rowN k 1),.int .i64 (rowN k 2)])∧w'=w):=λw=>by have:=HB0.out w;rw[f1,f2]at this;exact this
     have HR2:Hid (insG k a alts=(decide (rowN k 1<=a) && decide (a<=rowN k 2))):=by show _=_;rw[HR.out,f0];simp
     clear f0 f1 f2 f4 HR HB0;generalize rowN k 1=r1 at*;generalize rowN k 2=r2 at*;go_enter Tryz.func47,Tryz.ntmps47;go_wp2_with (first|(go_at_call 65;refine(HB.out _).mono ?_;rintro e w1 ⟨rfl,rfl⟩))
     all_goals
      go_ret;refine⟨ret_bool ?_,(Below.refl _ _).alloc (Nat.le_refl _) _⟩;rw[HR2.out];simp_all;try omega
    ·have HB:Hid (∀w,Calls Tryz.prog 65 #[.int .i64 0] w λe w'=>e=.returned (.tuple #[.int .i64 1,.int .i64 0])∧w'=w):=λw=>HB0.out w;have HR2:Hid (insG ((0:Nat):Int) a alts=true):=by show _=_;rw[HR.out];rfl
     clear HR HB0 hk17 hkz hkm;go_enter Tryz.func47,Tryz.ntmps47;go_wp2_with (first|(go_at_call 65;refine(HB.out _).mono ?_;rintro e w1 ⟨rfl,rfl⟩))
     go_ret;exact⟨ret_bool HR2.out.symm,(Below.refl _ _).alloc (Nat.le_refl _) _⟩
    ·have HB:Hid (∀w,Calls Tryz.prog 65 #[.int .i64 k] w λe w'=>e=.returned (.tuple #[.int .i64 1,.int .i64 0])∧w'=w):=λw=>by have:=HB0.out w;rw[f1,f2]at this;exact this
     have HR2:Hid (insG k a alts=(a==0)):=by show _=_;rw[HR.out,f0];simp
     have hk0:((k:Int)==0)=false:=by rw[beq_eq_false_iff_ne];omega
     clear f0 f1 f2 f4 HR HB0;cases ha:(a !=0)
     ·have ea:(a==0)=true:=by simpa using ha
      rw[ea]at HR2;go_enter Tryz.func47,Tryz.ntmps47;go_wp2_with (first|(go_at_call 65;refine(HB.out _).mono ?_;rintro e w1 ⟨rfl,rfl⟩))
      refine wp_loop_rounds 1 ?_;rw[rounds_succ];go_wp2;go_ret;exact⟨ret_bool HR2.out.symm,(Below.refl _ _).alloc (Nat.le_refl _) _⟩
     ·have ea:(a==0)=false:=by simpa using ha
      rw[ea]at HR2;go_enter Tryz.func47,Tryz.ntmps47;go_wp2_with (first|(go_at_call 65;refine(HB.out _).mono ?_;rintro e w1 ⟨rfl,rfl⟩))
      go_ret;exact⟨ret_bool HR2.out.symm,(Below.refl _ _).alloc (Nat.le_refl _) _⟩
   ·have hn1:((alts.length:Int)==0)=false:=by rw[beq_eq_false_iff_ne];omega
    have hn2:((alts.length:Int) !=0)=true:=by rw[bne_iff_ne];omega
    have HF:Hid (insG k a alts=false):=by
     show _=_;rw[hR,hn1];rcases hf with⟨f0,-⟩|rfl|⟨f0,-⟩
     ·rw[f0];simp
     ·rfl
     ·rw[f0];simp
    clear hR hA ho hf HB0;go_enter Tryz.func47,Tryz.ntmps47;go_wp2;go_ret;exact⟨ret_bool HF.out.symm,(Below.refl _ _).alloc (Nat.le_refl _) _⟩
 ·have HF:Hid (insG op a alts=false):=by show _=_;simp only[insG];rw[if_neg ho]
  clear hA;by_cases h0:op<0
  ·go_enter Tryz.func47,Tryz.ntmps47;go_wp2;go_ret;exact⟨ret_bool HF.out.symm,(Below.refl _ _).alloc (Nat.le_refl _) _⟩
  ·have h20:20<op:=by omega
   clear ho;go_enter Tryz.func47,Tryz.ntmps47;go_wp2;go_ret;exact⟨ret_bool HF.out.symm,(Below.refl _ _).alloc (Nat.le_refl _) _⟩
end Go.Proofs.YtlccndplhfcknaaGreatDoor

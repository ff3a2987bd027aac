import Derived.Test.YtahmgjjgikgpoaaGreatDoorThJ
import Derived.Test.YtahmgjjgikgpoaaGreatDoorSiJ
import Derived.Deep.CutBlock
set_option maxRecDepth 100000
set_option maxHeartbeats 8000000
namespace Go.Proofs.YtahmgjjgikgpoaaGreatDoor
open Go.RowKit Go.Sort
section
variable {gs:List LGlob} {a b:ASt}
def KZ(a:ASt):Prop:=(a.ended=true->a.kind≠0)∧(a.ended=false->a.kind=0)
theorem rEnd_kz{k:Int}(hk:k≠0)(h:KZ a):KZ (rEnd k a):=by
 unfold rEnd;split
 ·exact h
 ·exact⟨λ_=>hk,λe=>by cases e⟩
theorem rRoomS_kz(n:Int)(h:KZ a):KZ (rRoomS n a):=by
 unfold rRoomS;exact ite_P (P:=KZ) h (rEnd_kz (by decide) h)
theorem rMakeN_kz(n:Nat)(h:KZ a):KZ (rMakeN n a):=by
 induction n with
 |zero=>exact h
 |succ n ih=>exact ih
theorem rSplit_kz(n:Int)(h:KZ a):KZ (rSplit n a):=by
 unfold rSplit;exact ite_P (P:=KZ) (rEnd_kz (by decide) h) h
theorem rFork_kz(l:List LAlt)(h:KZ a):KZ (rFork l a):=by
 unfold rFork;refine ite_P (P:=KZ) (rEnd_kz (by decide) h) ?_;cases l.find? _ with
 |none=>exact rEnd_kz (by decide) h
 |some a=>exact h
theorem rMakeR_kz(x:MCl)(h:KZ a):KZ (rMake x a):=h
theorem rStk_kz(s:List Int)(h:KZ a):KZ (rStk s a):=h
theorem rDoes_kz(i:LIns)(h:KZ a):KZ (rDoes i a):=by
 unfold rDoes rReck;repeat' (first|exact rEnd_kz (by decide) h|exact rSplit_kz _ h|exact rFork_kz _ h|exact rMakeR_kz _ (rStk_kz _ (rRoomS_kz _ h))|exact rMakeR_kz _ (rRoomS_kz _ h)|exact rMakeN_kz _ (rRoomS_kz _ h)|refine ite_P (P:=KZ) ?_ ?_|exact h)
theorem rStepS_kz(h:KZ a):KZ (rStepS a):=by
 unfold rStepS;exact ite_P (P:=KZ) (rEnd_kz (by decide) h) (ite_P (P:=KZ) h h)
theorem rVal_kz(v:Int)(h:KZ a):KZ (rVal v a).1:=by unfold rVal;split<;>exact h
theorem rEnter_kz(g:Int)(h:KZ a):KZ (rEnter gs g a):=by
 unfold rEnter;exact ite_P (P:=KZ) h (rEnd_kz (by decide) h)
theorem aLook_kz:∀(n:Nat) (st:ASt),KZ st->KZ (aLook gs n st).1
 |0,st,h=>rStepS_kz h
 |n+1,st,h=>by
  rw[aLook];simp only;have h1:KZ {st with steps:=st.steps+1}:=h;split
  ·split
   ·exact aLook_kz n _ h1
   ·split
    ·exact aLook_kz n _ h1
    ·split
     ·exact rEnd_kz (by decide) h1
     ·split
      ·split
       ·exact rEnter_kz _ h1
       ·exact rVal_kz _ h1
      ·split
       ·exact rEnd_kz (by decide) h1
       ·exact rVal_kz _ h1
  ·exact rStepS_kz h
theorem aDo_kz(st:ASt)(h:KZ st):KZ (aDo gs st).1:=by
 unfold aDo;split
 ·have h1:KZ (rNext st):=h;simp only;split
  ·exact aLook_kz _ _ h1
  ·split
   ·exact aLook_kz _ (rEval (rNext st)) h1
   ·exact rDoes_kz _ h1
 ·exact rStepS_kz h
theorem aGo_kz:∀(n:Nat) (r:AR),KZ r.1->KZ (aGo gs n r).1
 |0,_,h=>h
 |n+1,(st,none),h=>by
  rw[aGo];split
  ·exact h
  ·exact aGo_kz n _ (aDo_kz st h)
 |n+1,(st,some v),h=>h
theorem aWork_kz(c:Int)(h:KZ a):KZ (aWork gs c a).1:=aGo_kz _ _ (aLook_kz _ (aBegin c a) h)
theorem tVal_kz(c:Int)(h:KZ a):KZ (tVal gs c a).1:=by
 have h1:=aWork_kz (gs:=gs) c h;unfold tVal;simp only;split
 ·exact h1
 ·exact rStepS_kz h1
theorem tTodo_kz:∀(n:Nat) (L:List TD) (a:ASt) (t:List UInt8),KZ a->KZ (tTodo gs n L a t).1
 |n,[],a,t,h=>by cases n<;>exact h
 |0,_::_,a,_,h=>h
 |n+1,(s,c)::L,a,t,h=>by
  rw[tTodo];have hsay:∀(s:List UInt8) (b:ASt) (L':List TD),KZ b->KZ (tSay s b t (λt'=>tTodo gs n L' b t')).1:=λs b L' hb=>by
   unfold tSay;split
   ·exact tTodo_kz n L' b _ hb
   ·exact rEnd_kz (by decide) hb
  split
  ·have hv:=tVal_kz (gs:=gs) c h;split
   ·rename_i a1 x e
    rw[e]at hv;exact hsay _ _ _ hv
   ·rename_i a1 e
    rw[e]at hv;exact hv
  ·exact hsay _ _ _ h
theorem tEnd_kz(L:List TD)(t:List UInt8)(h:KZ a):KZ (tEnd gs L a t).1:=tTodo_kz _ L a t h
end
section
variable {lo:Nat} {w w4:World} {M Ib:Nat} {st:ASt} {cs:List (MCl×Value)} {ds:List (AFr×Value)} {cv sv dv:Value}
theorem RMem.rowS(h:RMem lo w M Ib st cs ds cv sv dv)(hA:AG (vB sv) w w4){s':List Int}(hown:w4.ownsRow lo 3 1 sv s'.length (iC s')):RMem lo w4 M Ib (rStk s' st) cs ds cv sv dv∧AG (rB M cv sv dv ds) w w4:=by
 have hrg:=h.rg;have hnd:((M::vB cv)++(vB sv++(vB dv++dB ds))).Nodup:=h.nd;have hd:=List.nodup_append.1 hnd;have hd2:=List.nodup_append.1 hd.2.1;have hnS:∀b,b∈(M::vB cv)∨b∈vB dv++dB ds->b∉vB sv:=λb hb hm=>by
  rcases hb with hb|hb
  ·exact hd.2.2 b hb b (List.mem_append_left _ hm) rfl
  ·exact hd2.2.2 b hm b hb rfl
 have hAG:AG (rB M cv sv dv ds) w w4:=⟨hA.os,hA.tape,hA.output,hA.size,λk hk hX=>hA.block k hk λhm=>hX (List.mem_cons_of_mem _ (List.mem_append_right _ (List.mem_append_left _ hm)))⟩;have hfr:∀v,(∀b∈vB v,b∈vB cv∨b∈vB dv++dB ds)->Fr (vB v) w w4:=λv hv b hb=>by
  rcases hv b hb with h1|h1
  ·exact hA.block b (hrg b (List.mem_cons_of_mem _ (List.mem_append_left _ h1))).2 (hnS b (Or.inl (List.mem_cons_of_mem _ h1)))
  ·exact hA.block b (hrg b (List.mem_cons_of_mem _ (List.mem_append_right _ (List.mem_append_right _ h1)))).2 (hnS b (Or.inr h1))
 exact⟨⟨h.m.of_block (hA.block M h.m.lt (hnS M (Or.inl (List.mem_cons_self ..)))) hA.size,row_fr h.cl (hfr cv λb hb=>Or.inl hb),λx hx=>(h.fl x hx).fr λb ⟨g1,g2⟩ hbl=>⟨⟨g1,g2⟩,hA.block b hbl λhm=>g2 (List.mem_cons_of_mem _ (List.mem_append_right _ (List.mem_append_left _ hm)))⟩,hown,row_fr h.dp (hfr dv λb hb=>Or.inr (List.mem_append_left _ hb)),λx hx=>row_fr (h.dk x hx) (hfr x.2 λb hb=>Or.inr (List.mem_append_right _ (List.mem_flatMap.2 ⟨x,hx,hb⟩))),h.hcs,h.hds,h.nd,h.ml⟩,hAG⟩
theorem flat3w_take:∀(l:List (AFr×Value)) (m:Nat),(l.flatMap wtC).take (m*3)=(l.take m).flatMap wtC
 |[],m=>by simp
 |x::l,0=>by simp
 |x::l,m+1=>by
  rw[List.flatMap_cons,List.take_succ_cons,List.flatMap_cons,List.take_append,<-flat3w_take l m];simp[wtC,Nat.add_mul]
theorem dB_snoc(l:List (AFr×Value))(x:AFr×Value):dB (l++[x])=dB l++vB x.2:=by simp[dB]
theorem RMem.resume{dp:Option Addr}{dc:Nat}{f:AFr}{fv:Value}(h:RMem lo w M Ib st cs (ds++[(f,fv)]) cv sv (.slice dp (ds.length+1) dc)):
 RMem lo ((((w.setCell ⟨M,2,none⟩ fv).setCell ⟨M,3,none⟩ (.int .i64 f.g)).setCell ⟨M,4,none⟩ (.int .i64 f.at_)).setCell ⟨M,5,none⟩ (.slice dp ds.length dc)) M Ib {st with now:=f,dump:=st.dump.dropLast} cs ds cv fv (.slice dp ds.length dc)∧(∀b∈rB M cv fv (.slice dp ds.length dc) ds,b∈rB M cv sv (.slice dp (ds.length+1) dc) (ds++[(f,fv)])):=by
 have hvd:vB (.slice dp ds.length dc)=vB (.slice dp (ds.length+1) dc):=by unfold vB;cases dp<;>rfl
 have hnd:=List.nodup_cons.1 h.nd;have hsub:∀b∈rB M cv fv (.slice dp ds.length dc) ds,b∈rB M cv sv (.slice dp (ds.length+1) dc) (ds++[(f,fv)]):=λb hb=>by
  unfold rB at hb ⊢;rw[hvd]at hb;rw[dB_snoc];simp only[List.mem_cons,List.mem_append]at hb ⊢;rcases hb with h1|h1|h1|h1|h1
  ·exact Or.inl h1
  ·exact Or.inr (Or.inl h1)
  ·exact Or.inr (Or.inr (Or.inr (Or.inr (Or.inr h1))))
  ·exact Or.inr (Or.inr (Or.inr (Or.inl h1)))
  ·exact Or.inr (Or.inr (Or.inr (Or.inr (Or.inl h1))))
 have hne:∀b,b≠M->((((w.setCell ⟨M,2,none⟩ fv).setCell ⟨M,3,none⟩ (.int .i64 f.g)).setCell ⟨M,4,none⟩ (.int .i64 f.at_)).setCell ⟨M,5,none⟩ (.slice dp ds.length dc)).heap[b]?=w.heap[b]?:=λb hb=>by
  rw[Below.heap_setCell _ _ _ _ hb,Below.heap_setCell _ _ _ _ hb,Below.heap_setCell _ _ _ _ hb,Below.heap_setCell _ _ _ _ hb]
 have hM:∀b,b∈vB cv++(vB fv++(vB (.slice dp ds.length dc)++dB ds))->b≠M:=λb hb e=>by
  subst e;have:=hsub b (List.mem_cons_of_mem _ hb);rcases List.mem_cons.1 (show b∈b::(vB cv++(vB fv++(vB (.slice dp ds.length dc)++dB ds))) from List.mem_cons_of_mem _ hb) with _|_;all_goals
   refine hnd.1 ?_;rw[hvd]at hb;rw[dB_snoc];simp only[List.mem_append]at hb ⊢;rcases hb with h1|h1|h1|h1
   ·exact Or.inl h1
   ·exact Or.inr (Or.inr (Or.inr (Or.inr h1)))
   ·exact Or.inr (Or.inr (Or.inl h1))
   ·exact Or.inr (Or.inr (Or.inr (Or.inl h1)))
 have hm:FBL ((((w.setCell ⟨M,2,none⟩ fv).setCell ⟨M,3,none⟩ (.int .i64 f.g)).setCell ⟨M,4,none⟩ (.int .i64 f.at_)).setCell ⟨M,5,none⟩ (.slice dp ds.length dc)) M (rL Ib cv fv (.slice dp ds.length dc) {st with now:=f,dump:=st.dump.dropLast}):=
  (((h.m.set (i:=2) (by simp[rL]) fv).set (i:=3) (by simp[rL]) _).set (i:=4) (by simp[rL]) _).set (i:=5) (by simp[rL]) _
 have hfk:=h.dk (f,fv) (by simp);have hdp:=h.dp;rw[List.length_append,List.length_singleton]at hdp;have hd2:=owns_tk hdp (m:=ds.length) (by omega);rw[flat3w_take,List.take_left' rfl]at hd2;have hdd:st.dump.dropLast=ds.map (·.1):=by rw[<-h.hds,List.map_append,List.map_cons,List.map_nil,List.dropLast_concat]
 refine⟨⟨hm,row_fr h.cl λb hb=>hne b (hM b (List.mem_append_left _ hb)),λx hx=>(h.fl x hx).fr λb ⟨g1,g2⟩ hbl=>⟨⟨g1,λhm=>g2 (hsub b hm)⟩,hne b λe=>g2 (e▸List.mem_cons_self ..)⟩,row_fr hfk λb hb=>hne b (hM b (List.mem_append_right _ (List.mem_append_left _ hb))),row_fr hd2 λb hb=>hne b (hM b (List.mem_append_right _ (List.mem_append_right _ (List.mem_append_left _ hb)))),λx hx=>row_fr (h.dk x (List.mem_append_left _ hx)) λb hb=>hne b (hM b (List.mem_append_right _ (List.mem_append_right _ (List.mem_append_right _ (List.mem_flatMap.2 ⟨x,hx,hb⟩))))),h.hcs,hdd.symm,?_,h.ml⟩,hsub⟩;have hold:=h.nd;unfold rB at hold ⊢;rw[dB_snoc]at hold;rw[hvd];have h1:(M::(vB cv++(vB (.slice dp (ds.length+1) dc)++(dB ds++vB fv)))).Nodup:=by
  refine List.Nodup.sublist ?_ hold;refine List.Sublist.cons_cons _ (List.Sublist.append (List.Sublist.refl _) ?_);exact List.sublist_append_right _ _
 refine(List.Perm.nodup_iff ?_).1 h1;refine List.Perm.cons _ (List.Perm.append_left _ ?_);rw[<-List.append_assoc,<-List.append_assoc (vB fv)];refine(List.perm_append_comm).trans ?_;rw[List.append_assoc]
end
theorem flat3w_at(j:Nat)(hj:j<3):∀(l:List (AFr×Value)) (r:Nat) (hr:r<l.length),(l.flatMap wtC)[r*3+j]?=(wtC l[r])[j]?
 |x::l,0,_=>by rw[List.flatMap_cons,List.getElem?_append_left (by simp[wtC];omega)];simp
 |x::l,r+1,hr=>by
  rw[List.flatMap_cons,List.getElem?_append_right (by simp[wtC];omega),show(r+1)*3+j-(wtC x).length=r*3+j by simp[wtC];omega];simpa using flat3w_at j hj l r (by simpa using hr)
theorem aLookF_stop{gs:List LGlob}{st:ASt}(h:rStepB st=false):aLookF gs st=(rStepS st,none):=by
 unfold aLookF;cases (st.fuel-st.steps).toNat with
 |zero=>rfl
 |succ n=>rw[aLook,h];rfl
theorem aLookF_go{gs:List LGlob}{st:ASt}(hs:st.steps<st.fuel)(h:rStepB st=true):aLookF gs st=
 (if (cAt st ((st.now.s.getLast?).getD 0)).kind=5 then aLookF gs (rStk (st.now.s.dropLast++[(cAt st ((st.now.s.getLast?).getD 0)).left]) {st with steps:=st.steps+1})
 else if (cAt st ((st.now.s.getLast?).getD 0)).kind=2 then aLookF gs (rStk (st.now.s++[(cAt st ((st.now.s.getLast?).getD 0)).left]) {st with steps:=st.steps+1})
 else if (cAt st ((st.now.s.getLast?).getD 0)).kind=0 then (rEnd 7 {st with steps:=st.steps+1},none)
 else if (cAt st ((st.now.s.getLast?).getD 0)).kind=4 then
  if (gAt gs (cAt st ((st.now.s.getLast?).getD 0)).n).arity<(st.now.s.length:Int) then (rEnter gs (cAt st ((st.now.s.getLast?).getD 0)).n {st with steps:=st.steps+1},none) else rVal (st.now.s.headD 0) {st with steps:=st.steps+1}
 else if 1<st.now.s.length then (rEnd 5 {st with steps:=st.steps+1},none)
 else rVal ((st.now.s.getLast?).getD 0) {st with steps:=st.steps+1}):=by
 obtain⟨n,hn⟩:∃n,(st.fuel-st.steps).toNat=n+1:=⟨(st.fuel-st.steps).toNat-1,by omega⟩;have hn2:(st.fuel-(st.steps+1)).toNat=n:=by omega
 unfold aLookF;rw[hn,aLook,if_pos h];simp only[rStk,hn2]
def vOf(o:Option Int):Int:=match o with
 |some v=>v
 |none=>-1
def rmu(M:Nat)(w:World):Nat:=(intOf ((w.cell? ⟨M,6,none⟩).getD .nilIface)-intOf ((w.cell? ⟨M,10,none⟩).getD .nilIface)).toNat
theorem RM.mu{lo:Nat}{w:World}{M Ib:Nat}{st:ASt}{B:List Nat}(h:RM lo w M Ib st B):rmu M w=(st.fuel-st.steps).toNat:=by
 obtain⟨cs,ds,cv,sv,dv,h,-⟩:=h;unfold rmu;rw[h.m.at 6 rfl,h.m.at 10 rfl];rfl
theorem RM.lows{lo:Nat}{w:World}{M Ib:Nat}{st:ASt}{B:List Nat}(h:RM lo w M Ib st B):lo<=w.heap.size∧∀b∈B,lo<=b:=by
 obtain⟨cs,ds,cv,sv,dv,h,rfl⟩:=h;exact⟨h.lz,λb hb=>(h.rg b hb).1⟩
def RkJ(lo M Ib:Nat)(gs:List LGlob)(D:Nat->Nat->Int)(B:List Nat)(w:World)(res:AR)(wr:World):Prop:=∃st1 B1,RM lo wr M Ib st1 B1∧AG B w wr∧(∀b∈B1,b∈B∨w.heap.size<=b)∧WfC gs D st1∧res=aLookF gs st1
theorem kB5(k:Int)(h:0<=k∧k<=5):(k=5∧kByte k=110)∨(k=2∧kByte k=97)∨(k=0∧kByte k=104)∨(k=4∧(kByte k==110)=false∧(kByte k==97)=false∧(kByte k==104)=false∧(kByte k==103)=true)∨((k=1∨k=3)∧(kByte k==110)=false∧(kByte k==97)=false∧(kByte k==104)=false∧(kByte k==103)=false):=by
 unfold kByte;rcases(show k=0∨k=1∨k=2∨k=3∨k=4∨k=5 by omega) with rfl|rfl|rfl|rfl|rfl|rfl<;>simp
theorem iC_setLast(l:List Int)(x:Int)(h:0<l.length):(iC l).set (l.length-1) (.int .i64 x)=iC (l.dropLast++[x]):=by
 rcases List.eq_nil_or_concat l with rfl|⟨m,y,rfl⟩
 ·simp at h
 ·rw[List.concat_eq_append];simp[iC]
theorem RkJ.drew{lo M Ib:Nat}{gs:List LGlob}{D:Nat->Nat->Int}{B:List Nat}{w:World}{res:AR}{wr:World}(h:RkJ lo M Ib gs D B w res wr):RkJ lo M Ib gs D B w res wr.drew:=by
 obtain⟨st1,B1,h1,h2,h3,h4,h5⟩:=h;exact⟨st1,B1,h1.keep (Below.refl _ _).drew,h2.then (Below.refl _ _).drew,h3,h4,h5⟩
theorem RkJ.fin{lo M Ib:Nat}{gs:List LGlob}{D:Nat->Nat->Int}{B B2 B':List Nat}{w w2 wr X:World}{res:AR}{s':ASt}(hA2:AG B w w2)(hB2:∀b∈B2,b∈B∨w.heap.size<=b)(hA:AG B2 w2 X)(hM:RM lo X M Ib s' B')(hB':∀b∈B',b∈B2∨w2.heap.size<=b)(hW:WfC gs D s')(hres:res=aLookF gs s')(hmu:(s'.fuel-s'.steps).toNat<rmu M wr):RkJ lo M Ib gs D B w res X∧rmu M X<rmu M wr:=
 ⟨⟨s',B',hM,hA2.trans hA hB2,λb hb=>(hB' b hb).elim (hB2 b) λh=>Or.inr (Nat.le_trans hA2.size h),hW,hres⟩,by rw[hM.mu];exact hmu⟩
theorem rLooks_any{lo:Nat}{w:World}{M Ib:Nat}{st:ASt}{B:List Nat}{gs:List LGlob}{D:Nat->Nat->Int}{v1:Value}(hG:ImgOk gs D)(hW:WfC gs D st)(h:RM lo w M Ib st B)(hI:ImR lo w Ib gs v1):
 Calls Tryz.prog 58 #[.pointer (some ⟨M,0,none⟩)] w λe w'=>RRes lo M Ib B w (aLookF gs st).1 (.int .i64 (vOf (aLookF gs st).2)) e w':=by
 obtain⟨ii,hii,hij⟩:=Option.map_eq_some_iff.1 Tryz.intK;simp only[Prod.mk.injEq]at hij;obtain⟨hi0,hi1,hi2⟩:=hij;obtain⟨res,hres⟩:∃res,aLookF gs st=res:=⟨_,rfl⟩;have HJ0:Hid (RkJ lo M Ib gs D B w res w):=⟨st,B,h,AG.refl _ _,λb hb=>Or.inl hb,hW,hres.symm⟩;rw[hres];have HG:=hid hG;have HIM:Hid (∀X,AG B w X->ImR lo X Ib gs v1):=λX hX=>hI.low (hX.low h.lows.2 h.lows.1);clear h hW hI hres hG;go_enter Tryz.func58,Tryz.ntmps58;go_wp2;go_loopw [] (λwr=>RkJ lo M Ib gs D B w res wr) (λwr=>rmu M wr)
 case atStart=>exact HJ0.out
 case round=>
  rename World=>wr
  clear HJ0;obtain⟨st1,B1,hM1,hA1,hB1,hW1,hres1⟩:=hrel;have hst:=hW1.b.steps;have hfu:=hW1.b.fuel;have HST:=hid (rStep_any hM1 (by omega));have HMU:=hid hM1.mu;cases hsb:rStepB st1 with
  |false=>
   have HRE:Hid (res=(rStepS st1,none)):=by show _=_;rw[hres1,aLookF_stop hsb]
   rw[hsb]at HST;have HA:=hid hA1;have HB:=hid hB1;clear hM1 hA1 hB1 hW1 hres1 hst hfu hsb;go_wp2_with (first
    |(go_at_call 37;refine HST.out.mono ?_;intro e w2 hr;obtain⟨rfl,-⟩:=id hr;have HRR:=hid (hr.of HA.out HB.out (r':=.int .i64 (-1)) (e':=.returned (.int .i64 (-1))) rfl);clear hr))
   go_ret;rw[HRE.out];exact HRR.out
  |true=>
   have hlt:st1.steps<st1.fuel:=by
    rcases Int.lt_or_eq_of_le hst.2 with h1|h1
    ·exact h1
    ·have:=(rStep_no hW1.b).1.2 h1;rw[hsb]at this;cases this
   have HRE:=hid (hres1.trans (aLookF_go hlt hsb));have hss:rStepS st1={st1 with steps:=st1.steps+1}:=by
    unfold rStepS;rw[if_neg (by omega),hW1.b.live];rfl
   rw[hsb,hss]at HST;have HA:=hid hA1;have HB:=hid hB1;have HW1:=hid hW1;have hne:st1.steps≠st1.fuel:=by omega
   have HWS:=hid (hW1.stepped hne (s:=st1.now.s) hW1.s hW1.ne (by omega));clear hM1 hA1 hB1 hW1 hres1 hsb hss;go_upto_region 4 with(first
    |(go_at_call 37;refine HST.out.mono ?_;intro e w2 hr;obtain⟨rfl,-⟩:=id hr;have HR2:=hid (hr.of HA.out HB.out (r':=.tuple #[]) (e':=.returned (.tuple #[])) rfl);clear hr))
   clear HST HA HB;obtain⟨-,hA2,B2,hM2,hB2⟩:=HR2.out;have HA2:=hid hA2;have HB2:=hid hB2;have HM2:=hid hM2;have hIm:=HIM.out w2 hA2;obtain⟨cs,ds,cv,sv,dv,h,hBe⟩:=hM2;have hne1:=HW1.out.ne;obtain⟨sg,sc,rfl,hcap,hsc⟩:=stack_slice h.sk hne1;have htop:=HW1.out.top;obtain⟨r,hr⟩:∃r:Nat,(st1.now.s.getLast?).getD 0=(r:Int):=⟨((st1.now.s.getLast?).getD 0).toNat,by omega⟩;have hrc:r<st1.cells.length:=by omega
   obtain⟨cg,cc,pp,pn,pc,rfl,c0,c1,c2,hpt⟩:=h.cellAt (r:=r) hrc;have ec:cAt st1 (r:Int)=st1.cells[r]:=by unfold cAt;rw[Int.toNat_natCast,List.getElem?_eq_getElem hrc];rfl
   have hck:CellOk gs.length st1.cells.length (cAt st1 (r:Int)):=(cAt_ok HW1.out.b ⟨by omega,by omega⟩).2.2;rw[<-ec]at c0 c1 hpt;clear ec;have m1:=h.m.at 1 rfl;have m2:=h.m.at 2 rfl;have sl:w2.cell? ⟨sg,st1.now.s.length-1,none⟩=some (.int .i64 (r:Int)):=by
    rw[hsc _ (by show st1.now.s.length-1<st1.now.s.length;omega),<-hr,List.getLast?_eq_getElem?];simp only[iC,List.getElem?_map];rw[List.getElem?_eq_getElem (by omega)];rfl
   have hNl:st1.now.s.length<=1000000000:=by
    have h1:=HW1.out.size;have h2:=HW1.out.b.used;have h3:=HW1.out.b.spare;omega
   generalize hN:st1.now.s.length=N at*;have t1:((N:Int)-1).toNat=N-1:=by omega
   have t2:(0:Int)<=(N:Int)-1:=by omega
   have t3:(N:Int)-1<(N:Int):=by omega
   have t4:(r:Int)<(st1.cells.length:Int):=by omega
   have HH:=hid h;rw[hr]at HRE;have HN:=hid hN;have HR:=hid hr;have HPT:=hid hpt;have HBE:=hid hBe;have HSK:Hid (∀X,Below w2.heap.size w2 X->X.ownsRow lo 3 1 (.slice (some ⟨sg,0,none⟩) N sc) N (iC st1.now.s)):=λX hX=>by
    have h1:=(h.keep hX).sk;have h2:X.ownsRow lo 3 1 (.slice (some ⟨sg,0,none⟩) N sc) st1.now.s.length (iC st1.now.s):=h1;rw[hN]at h2;exact h2
   clear h hBe hsc htop hr hN hpt hA2 hB2;go_upto_block 2 with fail
   obtain⟨W3,hW3⟩:∃W3,w2.alloc (Obj.cells #[.int .u8 (kByte (cAt st1 (r:Int)).kind),.int .i64 (cN (cAt st1 (r:Int))),.slice pp pn pc] 88)=W3:=⟨_,rfl⟩;have HB3:Hid (Below w2.heap.size w2 W3):=by rw[<-hW3];exact(Below.refl _ _).alloc (Nat.le_refl _) _
   obtain⟨x0,x1,x2,-⟩:C3 W3 w2.heap.size (.int .u8 (kByte (cAt st1 (r:Int)).kind)) (.int .i64 (cN (cAt st1 (r:Int)))) (.slice pp pn pc):=by rw[<-hW3];exact C3.new w2 _ _ _ _
   rw[hW3];clear hW3 c0 c1 c2;have n1:=cell_keep HB3.out m1;have n2:=cell_keep HB3.out m2;have n3:=cell_keep HB3.out sl;clear m1 m2 sl;go_cut [7,36] (λv7 v36 wx=>∃v kk,v7=.int .i64 v∧v36=.int .u8 kk∧Hid (res=rVal v {st1 with steps:=st1.steps+1})∧Hid (Below w2.heap.size w2 wx))
   case first=>
    rcases kB5 (cAt st1 (r:Int)).kind hck.k with⟨hk,hb⟩|⟨hk,hb⟩|⟨hk,hb⟩|⟨hk,b1,b2,b3,b4⟩|⟨hk,b1,b2,b3,b4⟩
    ·have HR5:Hid (res=aLookF gs (rStk (st1.now.s.dropLast++[(cAt st1 (r:Int)).left]) {st1 with steps:=st1.steps+1})):=by show _=_;rw[HRE.out,if_pos hk]
     have hle:=hck.l (Or.inl hk);obtain⟨pb,po,rfl,hpn,hp0⟩:∃pb po,pp=some ⟨pb,po,none⟩∧pn=1∧w2.cell? ⟨pb,po,none⟩=some (.int .i64 (cAt st1 (r:Int)).left):=by
      obtain⟨p,cap,e,hp⟩:=HPT.out;have ecp:cP (cAt st1 (r:Int))=[(cAt st1 (r:Int)).left]:=by unfold cP;rw[if_neg (by omega),if_neg (by omega),if_pos hk]
      rw[ecp]at e hp;cases e;obtain⟨b,o,-,rfl,hc⟩:=hp 0 (by simp);exact⟨b,o,rfl,rfl,hc⟩
     subst hpn;have p0:=cell_keep HB3.out hp0;have HFI:Hid (∀X,Below w2.heap.size w2 X->RkJ lo M Ib gs D B w res (X.setCell ⟨sg,N-1,none⟩ (.int .i64 (cAt st1 (r:Int)).left))∧rmu M (X.setCell ⟨sg,N-1,none⟩ (.int .i64 (cAt st1 (r:Int)).left))<rmu M wr):=λX hX=>by
      have h3:=HH.out.keep hX;obtain⟨ho,-⟩:=(HSK.out X hX).stored (N-1) (.int .i64 (cAt st1 (r:Int)).left);have e1:(iC st1.now.s).set (N-1) (.int .i64 (cAt st1 (r:Int)).left)=iC (st1.now.s.dropLast++[(cAt st1 (r:Int)).left]):=by rw[<-HN.out];exact iC_setLast _ _ HW1.out.ne
      rw[e1]at ho;have hlen:(st1.now.s.dropLast++[(cAt st1 (r:Int)).left]).length=N:=by simp[HN.out];omega
      obtain⟨k1,k2⟩:=h3.rowS (s':=st1.now.s.dropLast++[(cAt st1 (r:Int)).left]) (AG.cell (j:=N-1) rfl (.int .i64 (cAt st1 (r:Int)).left)) (by rw[hlen];exact ho);have hWn:=HW1.out.stepped hne (s:=st1.now.s.dropLast++[(cAt st1 (r:Int)).left]) ((by rw[List.dropLast_eq_take];exact HW1.out.s.take _:RefOk _ st1.now.s.dropLast).app (RefOk.one hle)) (by simp) (by rw[hlen,HN.out];omega);exact RkJ.fin HA2.out HB2.out ((AG.of_below hX).trans (by rw[HBE.out];exact k2) λb hb=>Or.inl hb) ⟨cs,ds,_,_,dv,k1,rfl⟩ (λb hb=>Or.inl (by rw[HBE.out];exact hb)) hWn HR5.out (by rw[HMU.out];show(st1.fuel-(st1.steps+1)).toNat<_;omega)
     have fz:W3.frozen? ⟨sg,N-1,none⟩=false:=(HSK.out W3 HB3.out).frozenAt (N-1);go_upto_region 13 with fail
     go_region
     all_goals(try go_wp2)
     exact⟨(HFI.out W3 HB3.out).1.drew,(HFI.out W3 HB3.out).2⟩
    ·have HR2:Hid (res=aLookF gs (rStk (st1.now.s++[(cAt st1 (r:Int)).left]) {st1 with steps:=st1.steps+1})):=by show _=_;rw[HRE.out,if_neg (by omega),if_pos hk]
     have hle:=hck.l (Or.inr hk);obtain⟨pb,po,rfl,hpn,hp0⟩:∃pb po,pp=some ⟨pb,po,none⟩∧pn=2∧w2.cell? ⟨pb,po,none⟩=some (.int .i64 (cAt st1 (r:Int)).left):=by
      obtain⟨p,cap,e,hp⟩:=HPT.out;have ecp:cP (cAt st1 (r:Int))=[(cAt st1 (r:Int)).left,(cAt st1 (r:Int)).right]:=by unfold cP;rw[if_pos hk]
      rw[ecp]at e hp;cases e;obtain⟨b,o,-,rfl,hc⟩:=hp 0 (by simp);exact⟨b,o,rfl,rfl,hc⟩
     subst hpn;have p0:=cell_keep HB3.out hp0;have HFI:Hid (∀Z w6 G c',Below w2.heap.size w2 Z->Z.grownBy w6 (Value.slice (some ⟨sg,0,none⟩) N sc).ownBlock->((Value.slice (some ⟨sg,0,none⟩) N sc).ownBlock=some G∨G=Z.heap.size)->w6.ownsRow lo 3 1 (.slice (some ⟨G,0,none⟩) (N+1) c') (N+1) (iC st1.now.s++[.int .i64 (cAt st1 (r:Int)).left])->(w6.cell? ⟨M,2,none⟩=some (.slice (some ⟨sg,0,none⟩) N sc)∧w6.frozen? ⟨M,2,none⟩=false)∧Hid (RkJ lo M Ib gs D B w res (w6.setCell ⟨M,2,none⟩ (.slice (some ⟨G,0,none⟩) (N+1) c'))∧rmu M (w6.setCell ⟨M,2,none⟩ (.slice (some ⟨G,0,none⟩) (N+1) c'))<rmu M wr)):=λZ w6 G c' hbz hg hat hown=>by
      have h:=HH.out;have hA:AG (vB (.slice (some ⟨sg,0,none⟩) N sc)) w2 w6:=AG.append hbz hg;have hz:=hbz.size;have hnM:M∉vB (.slice (some ⟨sg,0,none⟩) N sc):=λhm=>(List.nodup_cons.1 h.nd).1 (List.mem_append_right _ (List.mem_append_left _ hm));have hbM:=hA.block M h.m.lt hnM;have hlen:(st1.now.s++[(cAt st1 (r:Int)).left]).length=N+1:=by simp[HN.out]
      obtain⟨q1,q2,q3⟩:=h.turnS hA (sv':=.slice (some ⟨G,0,none⟩) (N+1) c') (s':=st1.now.s++[(cAt st1 (r:Int)).left]) (by rw[hlen,iC_app];exact hown) (λb hb'=>by
       rw[vB_slice]at hb';obtain rfl:=List.mem_singleton.1 hb';rcases hat with e|e
       ·exact Or.inl (mem_vB.2 e)
       ·right;omega)
      rw[<-HBE.out]at q2 q3;have hWn:=HW1.out.stepped hne (s:=st1.now.s++[(cAt st1 (r:Int)).left]) (HW1.out.s.app (RefOk.one hle)) (by simp) (by simp);exact⟨⟨cell_same hbM (h.m.at 2 rfl),by rw[World.frozen?_of_block (a:=⟨M,2,none⟩) hbM];exact h.m.fz 2⟩,RkJ.fin HA2.out HB2.out q2 ⟨cs,ds,_,_,dv,q1,rfl⟩ q3 hWn HR2.out (by rw[HMU.out];show(st1.fuel-(st1.steps+1)).toNat<_;omega)⟩
     have n2a:=λo=>alloc_old W3 o _ _ _ n2;have x2a:=λo=>alloc_old W3 o _ _ _ x2;have p0a:=λo=>alloc_old W3 o _ _ _ p0;have HLO:Hid (lo<=W3.heap.size):=Nat.le_trans HH.out.lz HB3.out.size;go_upto_region 15 with fail
     go_region_law
      (first
       |(refine step_append_lies _ rfl (.tmp 61) (.tmp 66) 81 rfl lo 3 ii _ 1 8 Tryz.underlying81 hii hi0 hi1 hi2 rfl (by omega) (.slice (some ⟨sg,0,none⟩) N sc) N (iC st1.now.s) (by first|(simp[Act.eval];done)|(simp[Act.eval,Act.put];done)) (HSK.out _ (HB3.out.trans (((Below.refl _ _).alloc (Nat.le_refl _) _).drew.mono HB3.out.size))) ⟨W3.heap.size,0,none⟩ 1 1 [.int .i64 (cAt st1 (r:Int)).left] (by first|(simp[Act.eval];done)|(simp[Act.eval,Act.put];done)) rfl (by have h:=World.news_of_block (heap_alloc_new W3 (Obj.cells #[.int .i64 (cAt st1 (r:Int)).left] 3));simpa using h) (by intro u hu;simp at hu;rcases hu with rfl;rfl) (by omega) (by unfold maxLen;omega) (by omega) (by have:=HLO.out;simp;omega) _ rfl ?_;intro G1 c1 w7 hown hgrow hat hlt1;obtain⟨⟨k7,f7⟩,HRR⟩:=HFI.out _ _ _ _ (HB3.out.trans (((Below.refl _ _).alloc (Nat.le_refl _) _).drew.mono HB3.out.size)) hgrow hat hown;clear hown hgrow hat hlt1))
     all_goals(try go_wp2)
     all_goals first|(exact HRR.out)|(exact⟨HRR.out.1.drew,HRR.out.2⟩)
    ·have HR0:Hid (res=(rEnd 7 {st1 with steps:=st1.steps+1},none)):=by show _=_;rw[HRE.out,if_neg (by omega),if_neg (by omega),if_pos hk]
     have HE:=hid ((rEnd_any 7 (HM2.out.keep HB3.out)).mono λe w' hr=>(⟨hr.1,hr.of (HA2.out.then HB3.out) HB2.out rfl⟩:e=.returned (.tuple #[])∧Hid (RRes lo M Ib B w (rEnd 7 {st1 with steps:=st1.steps+1}) (.int .i64 (-1)) (.returned (.int .i64 (-1))) w')));go_wp2_with (first
      |(go_at_call 39;refine HE.out.mono ?_;rintro e w5 ⟨rfl,HRR⟩))
     go_ret;rw[HR0.out];exact HRR.out
    ·obtain⟨nn,hnn⟩:∃nn:Nat,(cAt st1 (r:Int)).n=(nn:Int):=⟨(cAt st1 (r:Int)).n.toNat,by have:=(hck.g hk).1;omega⟩;have hng:nn<gs.length:=by have:=(hck.g hk).2;omega
     have ecn:cN (cAt st1 (r:Int))=(nn:Int):=by unfold cN;rw[if_pos (by omega)];exact hnn
     have eg:gAt gs (nn:Int)=gs[nn]:=by unfold gAt;rw[Int.toNat_natCast,List.getElem?_eq_getElem hng];rfl
     have HR4:Hid (res=if gs[nn].arity<(N:Int) then (rEnter gs (nn:Int) {st1 with steps:=st1.steps+1},none) else rVal ((st1.now.s.head?).getD 0) {st1 with steps:=st1.steps+1}):=by show _=_;rw[HRE.out,if_neg (by omega),if_neg (by omega),if_neg (by omega),if_pos hk,hnn,eg,List.headD_eq_head?_getD]
     obtain⟨gb,go,gcc,gcv,k0,k1,-⟩:=hIm.glob hng;have k0':=cell_keep HB3.out k0;have k1':=cell_keep HB3.out k1;have m0:=(HH.out.keep HB3.out).m.at 0 rfl;rw[ecn]at x1;have harb:=HG.out.ar nn hng;have t5:(nn:Int)<(gs.length:Int):=by omega
     obtain⟨ar,har⟩:∃ar:Int,gs[nn].arity=ar:=⟨_,rfl⟩;have HARE:=hid har;rw[har]at k1' harb HR4;clear k0 k1 eg ecn hnn hIm har;by_cases ha:ar<(N:Int)
     ·have HR5:Hid (res=(rEnter gs (nn:Int) {st1 with steps:=st1.steps+1},none)):=by show _=_;rw[HR4.out,if_pos ha]
      have HEN:Hid (∀X,Below w2.heap.size w2 X->Calls Tryz.prog 81 #[.pointer (some ⟨M,0,none⟩),.int .i64 (nn:Int)] X λe w'=>e=.returned (.tuple #[])∧Hid (RRes lo M Ib B w (rEnter gs (nn:Int) {st1 with steps:=st1.steps+1}) (.int .i64 (-1)) (.returned (.int .i64 (-1))) w')):=λX hX=>(rEnters_any HG.out HWS.out (HM2.out.keep hX) (HIM.out X (HA2.out.then hX)) nn hng (by rw[HARE.out];show ar<(st1.now.s.length:Int);rw[HN.out];exact ha) (by show st1.now.s.length<=_;rw[HN.out];exact hNl)).mono λe w' hr=>⟨hr.1,hr.of (HA2.out.then hX) HB2.out rfl⟩;have q1:ar<=(N:Int)-1:=by omega
      go_upto_region 20 with fail
      go_quiet (fail);go_wp2_with (first
       |(go_at_call 81;refine(HEN.out _ ?_).mono ?_;exact below_drewN HB3.out _;rintro e w5 ⟨rfl,HRR⟩))
      go_ret;rw[HR5.out];exact HRR.out
     ·have HR5:Hid (res=rVal ((st1.now.s.head?).getD 0) {st1 with steps:=st1.steps+1}):=by show _=_;rw[HR4.out,if_neg ha]
      have q1:¬ar<=(N:Int)-1:=by omega
      have s0:W3.cell? ⟨sg,0,none⟩=some (.int .i64 ((st1.now.s.head?).getD 0)):=by
       rw[(HSK.out W3 HB3.out).cellAt 0 (by omega),List.head?_eq_getElem?];simp only[iC,List.getElem?_map];rw[List.getElem?_eq_getElem (by rw[HN.out];omega)];rfl
      have t6:(0:Int)<(N:Int):=by omega
      go_upto_region 20 with fail
      go_quiet (fail);go_wp2;go_meet
      exact⟨_,_,rfl,rfl,HR5.out,below_drewN HB3.out _⟩
    ·by_cases h1:1<N
     ·have HR0:Hid (res=(rEnd 5 {st1 with steps:=st1.steps+1},none)):=by show _=_;rw[HRE.out,if_neg (by omega),if_neg (by omega),if_neg (by omega),if_neg (by omega),if_pos h1]
      have HE:=hid ((rEnd_any 5 (HM2.out.keep HB3.out)).mono λe w' hr=>(⟨hr.1,hr.of (HA2.out.then HB3.out) HB2.out rfl⟩:e=.returned (.tuple #[])∧Hid (RRes lo M Ib B w (rEnd 5 {st1 with steps:=st1.steps+1}) (.int .i64 (-1)) (.returned (.int .i64 (-1))) w')));have q1:(0:Int)<(N:Int)-1:=by omega
      go_wp2_with (first
       |(go_at_call 39;refine HE.out.mono ?_;rintro e w5 ⟨rfl,HRR⟩))
      go_ret;rw[HR0.out];exact HRR.out
     ·have HR0:Hid (res=rVal (r:Int) {st1 with steps:=st1.steps+1}):=by show _=_;rw[HRE.out,if_neg (by omega),if_neg (by omega),if_neg (by omega),if_neg (by omega),if_neg h1]
      have q1:¬(0:Int)<(N:Int)-1:=by omega
      go_wp2;go_meet
      exact⟨_,_,rfl,rfl,HR0.out,HB3.out⟩
   case rest=>
    rename World=>X
    obtain⟨v,kk,rfl,rfl,HRV,HBX⟩:=hcut;have h:=HH.out.keep HBX.out;obtain⟨dp,dc,hdv⟩:=row_slice h.dp;subst hdv;have m5:=h.m.at 5 rfl;rcases List.eq_nil_or_concat ds with hd0|⟨ds',fx,hd0⟩
    ·subst hd0;have hdm:st1.dump=[]:=h.hds.symm;have HR0:Hid (res=({st1 with steps:=st1.steps+1},some v)):=by show _=_;rw[HRV.out,rVal_nil (st:={st1 with steps:=st1.steps+1}) v hdm]
     have HRR:Hid (RRes lo M Ib B w {st1 with steps:=st1.steps+1} (.int .i64 v) (.returned (.int .i64 v)) X):=⟨rfl,HA2.out.then HBX.out,B2,HM2.out.keep HBX.out,HB2.out⟩;clear h;go_wp2;go_ret;rw[HR0.out];exact HRR.out
    ·rw[List.concat_eq_append]at hd0;obtain⟨f,fv⟩:=fx;subst hd0;have hdm:st1.dump=ds'.map (·.1)++[f]:=by rw[<-h.hds];simp
     have HR0:Hid (res=({st1 with steps:=st1.steps+1,now:={f with s:=f.s++[v]},dump:=ds'.map (·.1)},none)):=by show _=_;rw[HRV.out,rVal_snoc (st:={st1 with steps:=st1.steps+1}) v hdm]
     obtain⟨fp,fc,rfl⟩:∃fp fc,fv=.slice fp f.s.length fc:=row_slice (h.dk (f,fv) (by simp));rw[List.length_append,List.length_singleton]at m5 h;have hdown:=h.dp;rw[List.length_append,List.length_singleton]at hdown;obtain⟨dg,dc',hdv,-,-⟩:=World.ownsRow.form hdown (by omega);cases hdv;have d0:X.cell? ⟨dg,ds'.length*3,none⟩=some (.slice fp f.s.length fc):=by
      rw[hdown.cellAt _ (by omega),show ds'.length*3=ds'.length*3+0 by rfl,flat3w_at 0 (by omega) _ _ (by simp)];simp[wtC]
     have d1:X.cell? ⟨dg,ds'.length*3+1,none⟩=some (.int .i64 f.g):=by
      rw[hdown.cellAt _ (by omega),flat3w_at 1 (by omega) _ _ (by simp)];simp[wtC]
     have d2:X.cell? ⟨dg,ds'.length*3+2,none⟩=some (.int .i64 f.at_):=by
      rw[hdown.cellAt _ (by omega),flat3w_at 2 (by omega) _ _ (by simp)];simp[wtC]
     have hdc:ds'.length+1<=dc:=by
      rcases hdown.2 with⟨h1,-⟩|⟨g',cap,cur,hv,-,-,h4,-⟩
      ·cases h1
      ·cases hv;exact h4
     have hdl:ds'.length+1<=2000000:=by
      have h1:=HW1.out.dl;rw[hdm]at h1;simp at h1;omega
     obtain⟨r1,r2⟩:=h.resume;have HRS:=hid r1;have HRB:=hid r2;have m2:=h.m.at 2 rfl;have m3:=h.m.at 3 rfl;have m4:=h.m.at 4 rfl;have f2:=h.m.fz 2;have f3:=h.m.fz 3;have f4:=h.m.fz 4;have f5:=h.m.fz 5;have HXR:=hid h.rg;have HFL:Hid (f.s.length<=1000000000):=by
      have h1:=HW1.out.size;have h2:=HW1.out.b.used;have h3:=HW1.out.b.spare;have h4:(f.s.length:Int)<=((flat st1).length:Int):=by
       unfold flat;rw[hdm,flat_snoc];simp;omega
      show f.s.length<=_;omega
     generalize ds'.length=L at*;have t7:(((L+1:Nat):Int)-1).toNat=L:=by omega
     have t8:(0:Int)<=((L+1:Nat):Int)-1:=by omega
     have t9:((L+1:Nat):Int)-1<((L+1:Nat):Int):=by omega
     have t10:((L+1:Nat):Int)-1<=(dc:Int):=by omega
     clear h hdown hdm r1 r2;go_upto_region 26 with fail
     go_region
     go_upto_region 27 with fail
     go_region
     obtain⟨Y,hY⟩:∃Y,(((((X.setCell ⟨M,2,none⟩ (.slice fp f.s.length fc)).setCell ⟨M,3,none⟩ (.int .i64 f.g)).setCell ⟨M,4,none⟩ (.int .i64 f.at_)).setCell ⟨M,5,none⟩ (.slice (some ⟨dg,0,none⟩) L dc)).drew.drew)=Y:=⟨_,rfl⟩;have HY:Hid (RMem lo Y M Ib {st1 with steps:=st1.steps+1,now:=f,dump:=st1.dump.dropLast} cs ds' (.slice (some ⟨cg,0,none⟩) st1.cells.length cc) (.slice fp f.s.length fc) (.slice (some ⟨dg,0,none⟩) L dc)):=by rw[<-hY];exact HRS.out.keep (Below.refl _ _).drew.drew
     have HAY:Hid (AG B w Y):=by
      show AG B w Y;rw[<-hY];have hMB:M∈B∨w.heap.size<=M:=HB2.out M (by rw[HBE.out];exact List.mem_cons_self ..);exact(((((HA2.out.then HBX.out).set hMB _).set hMB _).set hMB _).set hMB _).then (Below.refl _ _).drew.drew
     rw[hY];clear hY m2 m3 m4 m5 f2 f3 f4 f5 d0 d1 d2 n1 n2 n3 x0 x1 x2;have e2:=HY.out.m.at 2 rfl;have e2a:=λo=>alloc_old Y o _ _ _ e2;have HOW:=hid HY.out.sk;have HLO:=hid HY.out.lz;have HNX:Hid (∀Z w6 G c,Below Y.heap.size Y Z->Z.grownBy w6 (Value.slice fp f.s.length fc).ownBlock->((Value.slice fp f.s.length fc).ownBlock=some G∨G=Z.heap.size)->w6.ownsRow lo 3 1 (.slice (some ⟨G,0,none⟩) (f.s.length+1) c) (f.s.length+1) (iC f.s++[.int .i64 v])->(w6.cell? ⟨M,2,none⟩=some (.slice fp f.s.length fc)∧w6.frozen? ⟨M,2,none⟩=false)∧Hid (RRes lo M Ib B w {st1 with steps:=st1.steps+1,now:={f with s:=f.s++[v]},dump:=ds'.map (·.1)} (.int .i64 (-1)) (.returned (.int .i64 (-1))) (w6.setCell ⟨M,2,none⟩ (.slice (some ⟨G,0,none⟩) (f.s.length+1) c)))):=λZ w6 G c hbz hg hat hown=>by
      have h:=HY.out;have hA:AG (vB (.slice fp f.s.length fc)) Y w6:=AG.append hbz hg;have hz:=hbz.size;have hnM:M∉vB (.slice fp f.s.length fc):=λhm=>(List.nodup_cons.1 h.nd).1 (List.mem_append_right _ (List.mem_append_left _ hm));have hbM:=hA.block M h.m.lt hnM;obtain⟨q1,q2,q3⟩:=h.turnS hA (sv':=.slice (some ⟨G,0,none⟩) (f.s.length+1) c) (s':=f.s++[v]) (by rw[List.length_append,iC_app];exact hown) (λb hb'=>by
       rw[vB_slice]at hb';obtain rfl:=List.mem_singleton.1 hb';rcases hat with e|e
       ·exact Or.inl (mem_vB.2 e)
       ·right;omega)
      have hdd:st1.dump.dropLast=ds'.map (·.1):=h.hds.symm;have hBB:∀b∈rB M (.slice (some ⟨cg,0,none⟩) st1.cells.length cc) (.slice fp f.s.length fc) (.slice (some ⟨dg,0,none⟩) L dc) ds',b∈B∨w.heap.size<=b:=λb hb=>by
       have h1:=HRB.out b hb;refine HB2.out b ?_;rw[HBE.out];exact h1
      rw[hdd]at q1;refine⟨⟨cell_same hbM (h.m.at 2 rfl),by rw[World.frozen?_of_block (a:=⟨M,2,none⟩) hbM];exact h.m.fz 2⟩,rfl,HAY.out.trans q2 hBB,_,⟨cs,ds',_,_,_,q1,rfl⟩,λb hb=>(q3 b hb).elim (hBB b) λh1=>Or.inr (Nat.le_trans HAY.out.size h1)⟩
     have hFL:=HFL.out;go_wp2_with (first
      |(at_builtin;refine wpList_append_lies _ rfl (.tmp 143) (.tmp 145) 81 rfl lo 3 ii _ 1 8 Tryz.underlying81 hii hi0 hi1 hi2 rfl (by omega) (.slice fp f.s.length fc) f.s.length (iC f.s) (by first|(simp[Act.eval];done)|(simp[Act.eval,Act.put];done)) (HOW.out.alloc _) ⟨Y.heap.size,0,none⟩ 1 1 [.int .i64 v] (by first|(simp[Act.eval];done)|(simp[Act.eval,Act.put];done)) rfl (by have h:=World.news_of_block (heap_alloc_new Y (Obj.cells #[.int .i64 v] 3));simpa using h) (by intro u hu;simp at hu;rcases hu with rfl;rfl) (by omega) (by unfold maxLen;omega) (by omega) (by have:=HLO.out;simp;omega) _ rfl ?_;intro G1 c1 w7 hown hgrow hat hlt1;obtain⟨⟨k7,f7⟩,HRR⟩:=HNX.out _ _ _ _ ((Below.refl _ _).alloc (Nat.le_refl _) _) hgrow hat hown;clear hown hgrow hat hlt1))
     go_ret;rw[HR0.out];exact HRR.out
theorem kB3(k:Int)(h:0<=k∧k<=5):kByte k=114↔k=3:=by
 unfold kByte;rcases(show k=0∨k=1∨k=2∨k=3∨k=4∨k=5 by omega) with rfl|rfl|rfl|rfl|rfl|rfl<;>simp
theorem RM.setAt{lo:Nat}{w X:World}{M Ib:Nat}{st:ASt}{B:List Nat}(h:RM lo w M Ib st B)(hX:Below w.heap.size w X)(t:Int):((∃u,X.cell? ⟨M,4,none⟩=some u)∧X.frozen? ⟨M,4,none⟩=false)∧RRes lo M Ib B w {st with now:={st.now with at_:=t}} (.tuple #[]) (.returned (.tuple #[])) (X.setCell ⟨M,4,none⟩ (.int .i64 t)):=by
 have hself:M∈B:=by obtain⟨cs,ds,cv,sv,dv,h,rfl⟩:=h;exact List.mem_cons_self ..
 have h1:=h.keep hX;obtain⟨cs,ds,cv,sv,dv,h2,hBe⟩:=h1;have h3:=h2.setM (i:=4) (u:=.int .i64 t) (st':={st with now:={st.now with at_:=t}}) rfl (by omega) rfl rfl rfl;exact⟨⟨⟨_,h2.m.at 4 rfl⟩,h2.m.fz 4⟩,rfl,(AG.of_below hX).set (Or.inl hself) _,_,⟨cs,ds,cv,sv,dv,h3,rfl⟩,λb hb=>Or.inl (by rw[hBe];exact hb)⟩
theorem RM.topCell{lo:Nat}{w:World}{M Ib:Nat}{st:ASt}{B:List Nat}(h:RM lo w M Ib st B){s:List Int}{r:Nat}(hs:st.now.s=s++[(r:Int)])(hr:r<st.cells.length):∃(sg sc cg cc:Nat) (pp:Option Addr) (pn pc:Nat),w.cell? ⟨M,2,none⟩=some (.slice (some ⟨sg,0,none⟩) (s.length+1) sc)∧w.cell? ⟨sg,s.length,none⟩=some (.int .i64 (r:Int))∧w.cell? ⟨M,1,none⟩=some (.slice (some ⟨cg,0,none⟩) st.cells.length cc)∧w.cell? ⟨cg,r*3,none⟩=some (.int .u8 (kByte st.cells[r].kind))∧w.cell? ⟨cg,r*3+1,none⟩=some (.int .i64 (cN st.cells[r]))∧w.cell? ⟨cg,r*3+2,none⟩=some (.slice pp pn pc)∧PtX (λb=>lo<=b∧b∉B) w (.slice pp pn pc) (cP st.cells[r]):=by
 obtain⟨cs,ds,cv,sv,dv,h,rfl⟩:=h;have hl:st.now.s.length=s.length+1:=by rw[hs];simp
 obtain⟨sg,sc,rfl,hcap,hsc⟩:=stack_slice h.sk (by omega);obtain⟨cg,cc,pp,pn,pc,rfl,c0,c1,c2,hp⟩:=h.cellAt (r:=r) hr;have m2:=h.m.at 2 rfl;rw[hl]at m2;refine⟨sg,sc,cg,cc,pp,pn,pc,m2,?_,h.m.at 1 rfl,c0,c1,c2,hp⟩;rw[hsc _ (by omega),hs];simp[iC]
theorem rFork_any{lo:Nat}{w:World}{M Ib:Nat}{st:ASt}{B:List Nat}(a:Int)(alts:List LAlt)(ap:Option Addr)(ac:Nat)(hal:AltsAt w (.slice ap alts.length ac) alts)(hll:alts.length<=1000000)(h:RM lo w M Ib st B){s:List Int}{r:Nat}(hs:st.now.s=s++[(r:Int)])(hr:r<st.cells.length)(hk:0<=st.cells[r].kind∧st.cells[r].kind<=5)(hl:s.length<=1000000000):
 Calls Tryz.prog 85 #[.pointer (some ⟨M,0,none⟩),.agg #[.int .i64 17,.int .i64 a,.slice ap alts.length ac]] w λe w'=>RRes lo M Ib B w (rFork alts st) (.tuple #[]) e w':=by
 have HEN:Hid (∀k X,Below w.heap.size w X->Calls Tryz.prog 39 #[.pointer (some ⟨M,0,none⟩),.int .i64 k] X λe w'=>e=.returned (.tuple #[])∧Hid (RRes lo M Ib B w (rEnd k st) (.tuple #[]) (.returned (.tuple #[])) w')):=λk X hX=>(rEnd_any k (h.keep hX)).mono λe w' hr=>⟨hr.1,hr.of (AG.of_below hX) (λb hb=>Or.inl hb) rfl⟩;have HSA:Hid (∀X t,Below w.heap.size w X->((∃u,X.cell? ⟨M,4,none⟩=some u)∧X.frozen? ⟨M,4,none⟩=false)∧RRes lo M Ib B w {st with now:={st.now with at_:=t}} (.tuple #[]) (.returned (.tuple #[])) (X.setCell ⟨M,4,none⟩ (.int .i64 t))):=λX t hX=>h.setAt hX t;obtain⟨sg,sc,cg,cc,pp,pn,pc,m2,sl,m1,c0,c1,c2,-⟩:=h.topCell hs hr;have ec:cAt st ((st.now.s.getLast?).getD 0)=st.cells[r]:=by
  rw[hs];unfold cAt;simp[hr]
 have HXX:Hid (rFork alts st=if st.cells[r].kind≠3 then rEnd 3 st else match alts.find? (λa=>decide (a.tag=st.cells[r].n)) with|some a=>{st with now:={st.now with at_:=a.to}}|none=>rEnd 4 st):=by show _=_;unfold rFork;rw[ec];rfl
 have hcn:st.cells[r].kind=3->cN st.cells[r]=st.cells[r].n:=λe=>by simp[cN,e]
 have kb:=kB3 st.cells[r].kind hk;have HAL:Hid (∀X,Below w.heap.size w X->∀j (hj:j<alts.length),∃b o,ap=some ⟨b,o,none⟩∧X.cell? ⟨b,o+j*2,none⟩=some (.int .i64 alts[j].tag)∧X.cell? ⟨b,o+j*2+1,none⟩=some (.int .i64 alts[j].to)):=λX hX j hj=>by
  obtain⟨p,cap,e,-,hc⟩:=hal.keep hX;cases e;exact hc j hj
 have t1:(((s.length+1:Nat):Int)-1).toNat=s.length:=by omega
 have t2:(0:Int)<=((s.length+1:Nat):Int)-1:=by omega
 have t3:((s.length+1:Nat):Int)-1<((s.length+1:Nat):Int):=by omega
 have t4:(r:Int)<(st.cells.length:Int):=by omega
 clear h hs hal ec;generalize s.length=S at*;generalize st.cells[r].kind=rk at*;generalize st.cells[r].n=rn at*;generalize cN st.cells[r]=rc at*;generalize hkk:kByte rk=kk at*;clear hkk;have hb0:Below w.heap.size w (w.alloc (Obj.cells #[.int .i64 17,.int .i64 a,.slice ap alts.length ac] 43)):=(Below.refl _ _).alloc (Nat.le_refl _) _;obtain⟨W0,hW0⟩:∃W0,w.alloc (Obj.cells #[.int .i64 17,.int .i64 a,.slice ap alts.length ac] 43)=W0:=⟨_,rfl⟩;have hC0:C3 W0 w.heap.size (.int .i64 17) (.int .i64 a) (.slice ap alts.length ac):=by rw[<-hW0];exact C3.new w _ _ _ _
 rw[hW0]at hb0;have n1:=cell_keep hb0 m1;have n2:=cell_keep hb0 m2;have n3:=cell_keep hb0 sl;have d0:=cell_keep hb0 c0;have d1:=cell_keep hb0 c1;have d2:=cell_keep hb0 c2;have HC0:=hid hC0;have HB0:=hid hb0;clear m1 m2 sl c0 c1 c2 hb0;obtain⟨i0,i1,i2,-⟩:=hC0;have n1a:=λo=>alloc_old W0 o _ _ _ n1;have n2a:=λo=>alloc_old W0 o _ _ _ n2;have n3a:=λo=>alloc_old W0 o _ _ _ n3;have d0a:=λo=>alloc_old W0 o _ _ _ d0;have d1a:=λo=>alloc_old W0 o _ _ _ d1;have d2a:=λo=>alloc_old W0 o _ _ _ d2;go_enter Tryz.func85,Tryz.ntmps85;go_upto_region 1 with fail
 go_upto_region 11 with fail
 go_region
 obtain⟨W1,hW1⟩:∃W1,(W0.alloc (Obj.cells #[.int .u8 kk,.int .i64 rc,.slice pp pn pc] 88)).drew=W1:=⟨_,rfl⟩;have hb1:Below W0.heap.size W0 W1:=by rw[<-hW1];exact((Below.refl _ _).alloc (Nat.le_refl _) _).drew
 have HB1:=hid (HB0.out.trans (hb1.mono HB0.out.size));have HC1:Hid (C3 W1 W0.heap.size (.int .u8 kk) (.int .i64 rc) (.slice pp pn pc)):=by rw[<-hW1];exact(C3.new W0 _ _ _ _).keep (Below.refl _ _).drew
 have HC2:=hid (HC0.out.keep hb1);rw[hW1];clear hW0 hW1 hb1 n1 n2 n3 d0 d1 d2 n1a n2a n3a d0a d1a d2a i0 i1 i2;obtain⟨i0,i1,i2,-⟩:=HC2.out;obtain⟨x0,x1,x2,-⟩:=HC1.out;by_cases hb:kk=114
 ·have hk3:=kb.1 hb;subst hb;obtain rfl:=hcn hk3;have HX3:Hid (rFork alts st=match alts.find? (λa=>decide (a.tag=rc)) with|some a=>{st with now:={st.now with at_:=a.to}}|none=>rEnd 4 st):=by show _=_;rw[HXX.out,if_neg (by omega)]
  clear HXX kb hcn;have HFN:Hid (∀j (hj:j<alts.length),(∀i (hi:i<j),(alts[i]'(by omega)).tag≠rc)->alts[j].tag=rc->alts.find? (λa=>decide (a.tag=rc))=some alts[j]):=λj hj h1 h2=>by
   rw[List.find?_eq_some_iff_getElem];refine⟨by simpa using h2,j,hj,rfl,λi hi=>?_⟩;simpa using h1 i hi
  have HFO:Hid ((∀i (hi:i<alts.length),alts[i].tag≠rc)->alts.find? (λa=>decide (a.tag=rc))=none):=λh1=>by
   rw[List.find?_eq_none];intro x hx;obtain⟨i,hi,rfl⟩:=List.getElem_of_mem hx;simpa using h1 i hi
  go_wp2_with fail
  go_loopw [10] (λv10 wr=>∃j,j<=alts.length∧v10=.int .i64 (j:Int)∧Hid (∀i (hi:i<alts.length),i<j->alts[i].tag≠rc)∧Hid (Below W1.heap.size W1 wr)) (λv10 _=>alts.length-(intOf v10).toNat)
  case atStart=>exact⟨0,Nat.zero_le _,rfl,λi hi h0=>by omega,Below.refl _ _⟩
  case round=>
   rename World=>wr
   obtain⟨j,hja,rfl,HNO,HBR⟩:=hrel;have HBW:=hid (HB1.out.trans (HBR.out.mono HB1.out.size));clear i0 i1 i2 x0 x1 x2;obtain⟨i0,i1,i2,-⟩:=HC2.out.keep HBR.out;obtain⟨x0,x1,x2,-⟩:=HC1.out.keep HBR.out;by_cases hj:j<alts.length
   ·obtain⟨ab,ao,rfl,a0,a1⟩:=HAL.out wr HBW.out j hj;have hji:(j:Int)<(alts.length:Int):=by omega
    by_cases ht:alts[j].tag=rc
    ·have HX4:Hid (rFork alts st={st with now:={st.now with at_:=alts[j].to}}):=by show _=_;rw[HX3.out,HFN.out j hj (λi hi=>HNO.out i (by omega) hi) ht]
     obtain⟨⟨⟨u4,y4⟩,f4⟩,hrr⟩:=HSA.out (wr.drewN 1) alts[j].to (below_drewN HBW.out _);have HRS:=hid (λX hX=>(HSA.out X alts[j].to hX).2);have g4:wr.cell? ⟨M,4,none⟩=some u4:=y4;have g5:wr.frozen? ⟨M,4,none⟩=false:=f4;rw[ht]at a0;generalize alts[j].to=tt at*;clear hrr y4 f4 ht;go_upto_region 23 with fail
     go_quiet (fail);go_wp2;refine bE ?_;rw[HX4.out];exact HRS.out _ (below_drewN HBW.out _)
    ·have hb:(alts[j].tag==rc)=false:=by rw[beq_eq_false_iff_ne];exact ht
     have HT:=hid ht;clear ht;go_upto_region 23 with fail
     go_quiet (fail);go_wp2;refine⟨⟨j+1,by omega,by go_num,λi hi h1=>?_,below_drewN HBR.out _⟩,by simp[intOf];omega⟩;by_cases e:i=j
     ·subst e;exact HT.out
     ·exact HNO.out i hi (by omega)
   ·have hji:¬(j:Int)<(alts.length:Int):=by omega
    have HX4:Hid (rFork alts st=rEnd 4 st):=by show _=_;rw[HX3.out,HFO.out λi hi=>HNO.out i hi (by omega)]
    have HE4:=hid (HEN.out 4 wr HBW.out);go_wp2_with (first
     |(go_at_call 39;refine HE4.out.mono ?_;rintro e w5 ⟨rfl,HRR⟩))
    refine bE ?_;rw[HX4.out];exact HRR.out
 ·have HX3:Hid (rFork alts st=rEnd 3 st):=by show _=_;rw[HXX.out,if_pos (λe=>hb (kb.2 e))]
  have hbb:(kk==114)=false:=by rw[beq_eq_false_iff_ne];exact hb
  have HE3:=hid (HEN.out 3 W1 HB1.out);clear kb hcn HXX HEN;go_wp2_with (first
   |(go_at_call 39;refine HE3.out.mono ?_;rintro e w5 ⟨rfl,HRR⟩))
  refine bE ?_;rw[HX3.out];exact HRR.out
theorem RM.lts{lo:Nat}{w:World}{M Ib:Nat}{st:ASt}{B:List Nat}(h:RM lo w M Ib st B):∀b∈B,b<w.heap.size:=by
 obtain⟨cs,ds,cv,sv,dv,h,rfl⟩:=h;exact λb hb=>(h.rg b hb).2
theorem C3.ag{w w':World}{b:Nat}{x y z:Value}{B:List Nat}(h:C3 w b x y z)(hA:AG B w w')(hb:b∉B):C3 w' b x y z:=by
 have e:=hA.block b (block_lt_of_cell h.c0) hb;exact⟨cell_same e h.c0,cell_same e h.c1,cell_same e h.c2,Nat.lt_of_lt_of_le (block_lt_of_cell h.c0) hA.size⟩
theorem PtX.ag{lo:Nat}{w w':World}{v:Value}{l:List Int}{B B':List Nat}(h:PtX (λb=>lo<=b∧b∉B) w v l)(hA:AG B w w')(hB:∀b∈B',b∈B∨w.heap.size<=b):PtX (λb=>lo<=b∧b∉B') w' v l:=
 h.fr λb ⟨h1,h2⟩ hl=>⟨⟨h1,λhm=>by rcases hB b hm with h3|h3;exact h2 h3;omega⟩,hA.block b hl h2⟩
def SpR(lo M Ib:Nat)(B:List Nat)(w:World)(st:ASt)(s fl:List Int)(cb:Nat)(k n pv:Value)(j:Nat)(wr:World):Prop:=∃Bj,RM lo wr M Ib (rStk (s++fl.take j) st) Bj∧AG B w wr∧(∀b∈Bj,b∈B∨w.heap.size<=b)∧cb∉Bj∧C3 wr cb k n pv∧PtX (λb=>lo<=b∧b∉Bj) wr pv fl.reverse
theorem SpR.next{lo M Ib:Nat}{B:List Nat}{w:World}{st:ASt}{s fl:List Int}{cb:Nat}{k n pv:Value}{j:Nat}{wr:World}(h:SpR lo M Ib B w st s fl cb k n pv j wr)(hj:j<fl.length)(hl:s.length+fl.length<=1000000000):
 Calls Tryz.prog 84 #[.pointer (some ⟨M,0,none⟩),.int .i64 fl[j]] wr λe w'=>e=.returned (.tuple #[])∧Hid (SpR lo M Ib B w st s fl cb k n pv (j+1) w'):=by
 obtain⟨Bj,h1,h2,h3,h4,h5,h6⟩:=h;refine(rPut_any fl[j] h1 (by show(s++fl.take j).length<=_;simp;omega)).mono λe w' hr=>?_;obtain⟨he,hA,B',hM,hB⟩:=hr;refine⟨he,B',?_,h2.trans hA h3,λb hb=>(hB b hb).elim (h3 b) λh=>Or.inr (Nat.le_trans h2.size h),λhm=>?_,h5.ag hA h4,h6.ag hA hB⟩
 ·have e:(rStk (s++fl.take j) st).now.s++[fl[j]]=s++fl.take (j+1):=by
   show(s++fl.take j)++[fl[j]]=_;rw[List.append_assoc,List.take_succ_eq_append_getElem hj]
  rw[e]at hM;exact hM
 ·rcases hB cb hm with h7|h7
  ·exact h4 h7
  ·have:=h5.lt;omega
theorem rSplit_any{lo:Nat}{w:World}{M Ib:Nat}{st:ASt}{B:List Nat}(a:Int)(ap:Option Addr)(an ac:Nat)(h:RM lo w M Ib st B){s:List Int}{r:Nat}(hs:st.now.s=s++[(r:Int)])(hr:r<st.cells.length)(hk:0<=st.cells[r].kind∧st.cells[r].kind<=5)(hfl:st.cells[r].fields.length<=255)(hl:s.length<=900000000):
 Calls Tryz.prog 85 #[.pointer (some ⟨M,0,none⟩),.agg #[.int .i64 16,.int .i64 a,.slice ap an ac]] w λe w'=>RRes lo M Ib B w (rSplit a st) (.tuple #[]) e w':=by
 have HEN:Hid (∀k X,Below w.heap.size w X->Calls Tryz.prog 39 #[.pointer (some ⟨M,0,none⟩),.int .i64 k] X λe w'=>e=.returned (.tuple #[])∧Hid (RRes lo M Ib B w (rEnd k st) (.tuple #[]) (.returned (.tuple #[])) w')):=λk X hX=>(rEnd_any k (h.keep hX)).mono λe w' hr=>⟨hr.1,hr.of (AG.of_below hX) (λb hb=>Or.inl hb) rfl⟩;obtain⟨sg,sc,cg,cc,pp,pn,pc,m2,sl,m1,c0,c1,c2,hpt⟩:=h.topCell hs hr;have ec:cAt st ((st.now.s.getLast?).getD 0)=st.cells[r]:=by
  rw[hs];unfold cAt;simp[hr]
 have ed:st.now.s.dropLast=s:=by rw[hs];simp
 have HXX:Hid (rSplit a st=if st.cells[r].kind≠3∨(st.cells[r].fields.length:Int)≠a then rEnd 3 st else rStk (s++st.cells[r].fields) st):=by show _=_;unfold rSplit;rw[ec,ed]
 have hcp:st.cells[r].kind=3->cP st.cells[r]=st.cells[r].fields.reverse:=λe=>by simp[cP,e]
 have kb:=kB3 st.cells[r].kind hk;have HTK:Hid (∀X cb k n pv,Below w.heap.size w X->w.heap.size<=cb->C3 X cb k n pv->PtX (λb=>lo<=b∧b∉B) w pv st.cells[r].fields.reverse->Calls Tryz.prog 59 #[.pointer (some ⟨M,0,none⟩)] X λe w'=>e=.returned (.int .i64 (r:Int))∧Hid (SpR lo M Ib B w st s st.cells[r].fields cb k n pv 0 w')):=λX cb k n pv hX hcb hC hP=>by
  have hl2:st.now.s.length<=1000000000:=by rw[hs];simp;omega
  refine(rTake_any (h.keep hX) hs hl2).mono λe w' hr=>?_;obtain⟨he,hA,B',hM,hB⟩:=hr;have hz:=hX.size;have hnb:cb∉B:=λhm=>by have:=h.lts cb hm;omega
  refine⟨he,B',?_,(AG.of_below hX).trans hA λb hb=>Or.inl hb,λb hb=>(hB b hb).imp id λh=>Nat.le_trans hz h,λhm=>?_,hC.ag hA hnb,(hP.fr λb hb hl=>⟨hb,hX.block b hl⟩:PtX (λb=>lo<=b∧b∉B) X pv _).ag hA hB⟩
  ·rw[List.take_zero,List.append_nil];exact hM
  ·rcases hB cb hm with h7|h7
   ·exact hnb h7
   ·have:=hC.lt;omega
 have t1:(((s.length+1:Nat):Int)-1).toNat=s.length:=by omega
 have t2:(0:Int)<=((s.length+1:Nat):Int)-1:=by omega
 have t3:((s.length+1:Nat):Int)-1<((s.length+1:Nat):Int):=by omega
 have t4:(r:Int)<(st.cells.length:Int):=by omega
 have HPT:=hid hpt;have HCP:=hid hcp;clear h hs ec ed hpt hcp;generalize hS:s.length=S at*;have HS:=hid hS;clear hS;generalize st.cells[r].kind=rk at*;generalize cN st.cells[r]=rc at*;generalize hfs:st.cells[r].fields=fl at*;clear hfs;generalize hkk:kByte rk=kk at*;clear hkk;have hb0:Below w.heap.size w (w.alloc (Obj.cells #[.int .i64 16,.int .i64 a,.slice ap an ac] 43)):=(Below.refl _ _).alloc (Nat.le_refl _) _;obtain⟨W0,hW0⟩:∃W0,w.alloc (Obj.cells #[.int .i64 16,.int .i64 a,.slice ap an ac] 43)=W0:=⟨_,rfl⟩;have hC0:C3 W0 w.heap.size (.int .i64 16) (.int .i64 a) (.slice ap an ac):=by rw[<-hW0];exact C3.new w _ _ _ _
 rw[hW0]at hb0;have n1:=cell_keep hb0 m1;have n2:=cell_keep hb0 m2;have n3:=cell_keep hb0 sl;have d0:=cell_keep hb0 c0;have d1:=cell_keep hb0 c1;have d2:=cell_keep hb0 c2;have HC0:=hid hC0;have HB0:=hid hb0;clear m1 m2 sl c0 c1 c2 hb0;obtain⟨i0,i1,i2,-⟩:=hC0;have n1a:=λo=>alloc_old W0 o _ _ _ n1;have n2a:=λo=>alloc_old W0 o _ _ _ n2;have n3a:=λo=>alloc_old W0 o _ _ _ n3;have d0a:=λo=>alloc_old W0 o _ _ _ d0;have d1a:=λo=>alloc_old W0 o _ _ _ d1;have d2a:=λo=>alloc_old W0 o _ _ _ d2;go_enter Tryz.func85,Tryz.ntmps85;go_upto_region 11 with fail
 go_region
 obtain⟨W1,hW1⟩:∃W1,(W0.alloc (Obj.cells #[.int .u8 kk,.int .i64 rc,.slice pp pn pc] 88)).drew=W1:=⟨_,rfl⟩;have hb1:Below W0.heap.size W0 W1:=by rw[<-hW1];exact((Below.refl _ _).alloc (Nat.le_refl _) _).drew
 have HB1:=hid (HB0.out.trans (hb1.mono HB0.out.size));have HC1:Hid (C3 W1 W0.heap.size (.int .u8 kk) (.int .i64 rc) (.slice pp pn pc)):=by rw[<-hW1];exact(C3.new W0 _ _ _ _).keep (Below.refl _ _).drew
 have HC2:=hid (HC0.out.keep hb1);rw[hW1];clear hW0 hW1 hb1 n1 n2 n3 d0 d1 d2 n1a n2a n3a d0a d1a d2a i0 i1 i2;obtain⟨i0,i1,i2,-⟩:=HC2.out;obtain⟨x0,x1,x2,-⟩:=HC1.out;have HE3:=hid (HEN.out 3 W1 HB1.out);clear HEN;by_cases hb:kk=114
 ·have hk3:=kb.1 hb;subst hb;have hpt:=HPT.out;rw[HCP.out hk3]at hpt;have hpn:pn=fl.length:=by
   obtain⟨p,cap,e,-⟩:=hpt;cases e;simp
  subst hpn;by_cases ha:(fl.length:Int)=a
  ·have HX3:Hid (rSplit a st=rStk (s++fl) st):=by show _=_;rw[HXX.out,if_neg (by omega)]
   have HT0:=hid (HTK.out W1 W0.heap.size _ _ _ HB1.out HB0.out.size HC1.out hpt);have hab:((fl.length:Int)==a)=true:=by rw[beq_iff_eq];exact ha
   clear HTK hpt kb HXX HE3 HPT HCP hk3 ha;go_wp2_with (first
    |(go_at_call 59;refine HT0.out.mono ?_;rintro e w3 ⟨rfl,HSP⟩;obtain⟨-,-,-,-,-,hC3,-⟩:=HSP.out;have y2:=hC3.c2;clear hC3))
   clear x0 x1 x2 y2 HT0;go_loopw [9] (λv9 wr=>∃j,j<=fl.length∧v9=.int .i64 ((fl.length:Int)-1-(j:Int))∧Hid (SpR lo M Ib B w st s fl W0.heap.size (.int .u8 114) (.int .i64 rc) (.slice pp fl.length pc) j wr)) (λv9 _=>(intOf v9+1).toNat)
   case atStart=>exact⟨0,Nat.zero_le _,by congr 1;omega,HSP.out⟩
   case round=>
    rename World=>wr
    clear HSP;obtain⟨j,hja,rfl,HSP⟩:=hrel;obtain⟨Bj,-,-,-,-,hC3,hP3⟩:=HSP.out;have y2:=hC3.c2;by_cases hj:j<fl.length
    ·have hge:(0:Int)<=(fl.length:Int)-1-(j:Int):=by omega
     have hgl:(fl.length:Int)-1-(j:Int)<(fl.length:Int):=by omega
     have HPU:=hid (HSP.out.next hj (by have:=HS.out;omega));obtain⟨p,cap,e,hp⟩:=hP3;rw[List.length_reverse]at e;cases e;obtain⟨pb,po,-,hpe,hpc⟩:=hp (fl.length-1-j) (by simp;omega);subst hpe;have hpj:wr.cell? ⟨pb,po+(fl.length-1-j),none⟩=some (.int .i64 fl[j]):=by
      rw[hpc,List.getElem_reverse];congr 3
      omega
     have t5:((fl.length:Int)-1-(j:Int)).toNat=fl.length-1-j:=by omega
     clear hC3 hp hpc;generalize fl[j]=fj at*;go_wp2_with (first
      |(go_at_call 84;refine HPU.out.mono ?_;rintro e w4 ⟨rfl,HSP2⟩))
     exact⟨⟨j+1,by omega,by go_num,HSP2.out⟩,by simp[intOf];omega⟩
    ·obtain rfl:j=fl.length:=by omega
     have hge:¬(0:Int)<=(fl.length:Int)-1-(fl.length:Int):=by omega
     have HRR:Hid (RRes lo M Ib B w (rStk (s++fl) st) (.tuple #[]) (.returned (.tuple #[])) wr):=by
      obtain⟨Bj,h1,h2,h3,-⟩:=HSP.out;rw[List.take_length]at h1;exact⟨rfl,h2,Bj,h1,h3⟩
     clear hC3 hP3;go_wp2;refine bE ?_;rw[HX3.out];exact HRR.out
  ·have HX3:Hid (rSplit a st=rEnd 3 st):=by show _=_;rw[HXX.out,if_pos (Or.inr ha)]
   have hab:((fl.length:Int)==a)=false:=by rw[beq_eq_false_iff_ne];exact ha
   clear kb HXX HTK hpt HPT HCP hk3;go_wp2_with (first
    |(go_at_call 39;refine HE3.out.mono ?_;rintro e w5 ⟨rfl,HRR⟩))
   refine bE ?_;rw[HX3.out];exact HRR.out
 ·have HX3:Hid (rSplit a st=rEnd 3 st):=by show _=_;rw[HXX.out,if_pos (Or.inl λe=>hb (kb.2 e))]
  have hbb:(kk==114)=false:=by rw[beq_eq_false_iff_ne];exact hb
  clear kb HXX HTK HPT HCP;go_wp2_with (first
   |(go_at_call 39;refine HE3.out.mono ?_;rintro e w5 ⟨rfl,HRR⟩))
  refine bE ?_;rw[HX3.out];exact HRR.out
theorem IntB.of_row{w:World}{lo g n c:Nat}{xs:List Value}(h:w.ownsRow lo 3 1 (.slice (some ⟨g,0,none⟩) n c) n xs):IntB w g:=by
 rcases h.2 with⟨h',_⟩|⟨g',cap',cur,h',_,hg,_⟩
 ·simp at h'
 ·simp only[Value.slice.injEq,Option.some.injEq,Addr.mk.injEq,and_true,true_and]at h';obtain⟨rfl,rfl⟩:=h';exact⟨cur,_,hg⟩
theorem Bw.grown{w X X':World}{M:Nat}{L:List Value}{r:Option Nat}(h:Bw w X M L)(hg:X.grownBy X' r)(hr:∀b,r=some b->w.heap.size<=b):Bw w X' M L:=
 have hl:=h.lt
 ⟨hg.os.trans h.os,hg.tape.trans h.tape,hg.output.trans h.output,Nat.le_trans h.size hg.size,λb h1 h2=>(hg.block b (Nat.lt_of_lt_of_le h1 h.size) (λe=>by have:=hr b e.symm;omega)).trans (h.block b h1 h2),h.lt,h.m.of_block (hg.block M (Nat.lt_of_lt_of_le h.lt h.size) (λe=>by have:=hr M e.symm;omega)) hg.size⟩
theorem RMem.start{lo:Nat}{w:World}{M Ib:Nat}{st:ASt}{cs:List (MCl×Value)}{ds:List (AFr×Value)}{cv sv dv:Value}(h:RMem lo w M Ib st cs ds cv sv dv):Bw w w M (rL Ib cv sv dv st):=⟨rfl,rfl,rfl,Nat.le_refl _,λ_ _ _=>rfl,h.m.lt,h.m⟩
theorem RMem.lessB{lo:Nat}{w X:World}{M Ib m c:Nat}{p:Option Addr}{st:ASt}{cs:List (MCl×Value)}{ds:List (AFr×Value)}{cv dv:Value}(h:RMem lo w M Ib st cs ds cv (.slice p st.now.s.length c) dv)(hm:m<=st.now.s.length)(hX:Bw w X M (rL Ib cv (.slice p m c) dv (rStk (st.now.s.take m) st))):
 RMem lo X M Ib (rStk (st.now.s.take m) st) cs ds cv (.slice p m c) dv∧AG (rB M cv (.slice p st.now.s.length c) dv ds) w X∧rB M cv (.slice p m c) dv ds=rB M cv (.slice p st.now.s.length c) dv ds:=by
 have hv:vB (.slice p m c)=vB (.slice p st.now.s.length c):=by unfold vB;cases p<;>rfl
 have hrb:rB M cv (.slice p m c) dv ds=rB M cv (.slice p st.now.s.length c) dv ds:=by unfold rB;rw[hv]
 have hnd:=List.nodup_cons.1 h.nd;have hrg:=h.rg;have hne:∀b,b∈vB cv++(vB (.slice p st.now.s.length c)++(vB dv++dB ds))->X.heap[b]?=w.heap[b]?:=λb hb=>hX.block b (hrg b (List.mem_cons_of_mem _ hb)).2 λe=>hnd.1 (e▸hb);have hl:(st.now.s.take m).length=m:=by rw[List.length_take];omega
 have hd:=owns_tk h.sk hm;rw[iC_take]at hd;refine⟨⟨hX.m,row_fr h.cl λb hb=>hne b (List.mem_append_left _ hb),λx hx=>(h.fl x hx).fr λb h1 h2=>⟨by rw[hrb];exact h1,hX.block b h2 λe=>h1.2 (e▸List.mem_cons_self ..)⟩,?_,row_fr h.dp λb hb=>hne b (List.mem_append_right _ (List.mem_append_right _ (List.mem_append_left _ hb))),λx hx=>row_fr (h.dk x hx) λb hb=>hne b (List.mem_append_right _ (List.mem_append_right _ (List.mem_append_right _ (List.mem_flatMap.2 ⟨x,hx,hb⟩)))),h.hcs,h.hds,by rw[hrb];exact h.nd,h.ml⟩,⟨hX.os,hX.tape,hX.output,hX.size,λb h1 h2=>hX.block b h1 λe=>h2 (e▸List.mem_cons_self ..)⟩,hrb⟩;show X.ownsRow lo _ 1 _ (st.now.s.take m).length _;rw[hl];exact row_fr hd λb hb=>hne b (List.mem_append_right _ (List.mem_append_left _ (hv▸hb)))
theorem takeX{w:World}{M sg n sc:Nat}{x:Int}(h:w.cell? ⟨M,2,none⟩=some (.slice (some ⟨sg,0,none⟩) (n+1) sc))(hf:w.frozen? ⟨M,2,none⟩=false)(hx:w.cell? ⟨sg,n,none⟩=some (.int .i64 x))(hn:n+1<=1000000000)(hc:n+1<=sc):
 Calls Tryz.prog 59 #[.pointer (some ⟨M,0,none⟩)] w λe w'=>e=.returned (.int .i64 x)∧w'=w.setCell ⟨M,2,none⟩ (.slice (some ⟨sg,0,none⟩) n sc):=by
 have i0:(0:Int)<=(n:Int):=by omega
 have i1:(n:Int)<((n+1:Nat):Int):=by omega
 have i2:(n:Int)<=(sc:Int):=by omega
 have i3:IntKind.i64.wrap (((n+1:Nat):Int)-1)=(n:Int):=by rw[IntKind.wrap_i64];omega
 go_enter Tryz.func59,Tryz.ntmps59;go_wp2;go_ret;exact⟨rfl,rfl⟩
def pkS(a:Int)(st:ASt):ASt:=if rRoomB 1 st then rMake ⟨3,a / 256,0,0,st.now.s.drop (st.now.s.length-(a % 256).toNat)⟩ (rStk (st.now.s.take (st.now.s.length-(a % 256).toNat)) (rRoomS 1 st)) else rEnd 2 st
structure PkR (w1:World) (M:Nat) (L0:List Value) (p:Option Addr) (sc:Nat) (s:List Int) (cb:Nat) (q:Int) (j:Nat) (wr:World):Prop where
 b:Bw w1 wr M (L0.set 2 (.slice p (s.length-j) sc))
 hb:w1.heap.size<=cb
 c:∃pp pc,FBL wr cb [.int .u8 114,.int .i64 q,.slice pp j pc]∧wr.ownsRow w1.heap.size 3 1 (.slice pp j pc) j (iC (s.drop (s.length-j)).reverse)∧cb∉vB (.slice pp j pc)
theorem PkR.next{w1:World}{M:Nat}{L0:List Value}{p:Option Addr}{sc:Nat}{s:List Int}{cb:Nat}{q:Int}{j:Nat}{wr:World}(h:PkR w1 M L0 p sc s cb q j wr)(hj:j<s.length)(hL:2<L0.length){pp:Option Addr}{pc:Nat}(hF:FBL wr cb [.int .u8 114,.int .i64 q,.slice pp j pc])(ho:wr.ownsRow w1.heap.size 3 1 (.slice pp j pc) j (iC (s.drop (s.length-j)).reverse))(hv:cb∉vB (.slice pp j pc)){o:Obj}{w3:World}{G c:Nat}(hg:((wr.setCell ⟨M,2,none⟩ (.slice p (s.length-(j+1)) sc)).alloc o).grownBy w3 (Value.slice pp j pc).ownBlock)(hat:(Value.slice pp j pc).ownBlock=some G∨G=((wr.setCell ⟨M,2,none⟩ (.slice p (s.length-(j+1)) sc)).alloc o).heap.size)(hown:w3.ownsRow w1.heap.size 3 1 (.slice (some ⟨G,0,none⟩) (j+1) c) (j+1) (iC (s.drop (s.length-j)).reverse++[.int .i64 ((s[s.length-(j+1)]?).getD 0)])):
 (w3.cell? ⟨cb,2,none⟩=some (.slice pp j pc)∧w3.frozen? ⟨cb,2,none⟩=false)∧PkR w1 M L0 p sc s cb q (j+1) (w3.setCell ⟨cb,2,none⟩ (.slice (some ⟨G,0,none⟩) (j+1) c)):=by
 have hM:=h.b.lt;have hcb:=h.hb;have b1:Bw w1 (wr.setCell ⟨M,2,none⟩ (.slice p (s.length-(j+1)) sc)) M (L0.set 2 (.slice p (s.length-(j+1)) sc)):=by
  have:=h.b.set2 (v:=.slice p (s.length-(j+1)) sc) (by rw[List.length_set];exact hL);rw[List.set_set]at this;exact this
 have b2:=(b1.alloc (o:=o)).grown hg λb hb=>row_low ho hb;have hcl:=hF.lt;have e1:w3.heap[cb]?=wr.heap[cb]?:=by
  rw[hg.block cb (by simp;omega) (λe=>hv (mem_vB.2 e.symm)),heap_alloc_old _ _ (by simpa using hcl)];exact Below.heap_setCell _ _ _ _ (by show cb≠M;omega)
 have hF3:FBL w3 cb [.int .u8 114,.int .i64 q,.slice pp j pc]:=hF.of_block e1 (Nat.le_trans (by simp) hg.size);have hGc:G≠cb:=by
  rcases hat with h1|h1
  ·exact λe=>hv (e▸mem_vB.2 h1)
  ·simp at h1;omega
 refine⟨⟨hF3.at 2 rfl,hF3.fz 2⟩,b2.fresh h.hb,h.hb,some ⟨G,0,none⟩,c,hF3.set (i:=2) (by simp) _,?_,?_⟩
 ·have e2:iC (s.drop (s.length-(j+1))).reverse=iC (s.drop (s.length-j)).reverse++[.int .i64 ((s[s.length-(j+1)]?).getD 0)]:=by
   rw[List.drop_eq_getElem_cons (show s.length-(j+1)<s.length by omega),show s.length-(j+1)+1=s.length-j by omega,List.getElem?_eq_getElem (show s.length-(j+1)<s.length by omega)];simp[iC]
  rw[e2];exact row_fr hown λb hb=>Below.heap_setCell _ _ _ _ (by
   rw[vB_slice]at hb;rw[List.mem_singleton.1 hb];exact hGc)
 ·rw[vB_slice];exact λhm=>hGc (List.mem_singleton.1 hm).symm
theorem rPack_any{lo:Nat}{w:World}{M Ib:Nat}{st:ASt}{B:List Nat}(a:Int)(ha:0<=a∧a<=65535)(ap:Option Addr)(an ac:Nat)(h:RM lo w M Ib st B)(hn:(a % 256).toNat<=st.now.s.length)(hl:st.now.s.length<=900000000)(hcl:st.cells.length<=1000000000)(hu:0<=st.used∧st.used<=1000000000000)(hp:0<st.now.s.length∨(a % 256).toNat=0):
 Calls Tryz.prog 85 #[.pointer (some ⟨M,0,none⟩),.agg #[.int .i64 15,.int .i64 a,.slice ap an ac]] w λe w'=>RRes lo M Ib B w (pkS a st) (.tuple #[]) e w':=by
 obtain⟨ii,hii,hij⟩:=Option.map_eq_some_iff.1 Tryz.intK;simp only[Prod.mk.injEq]at hij;obtain⟨hi0,hi1,hi2⟩:=hij;have hb0:Below w.heap.size w (w.alloc (Obj.cells #[.int .i64 15,.int .i64 a,.slice ap an ac] 43)):=(Below.refl _ _).alloc (Nat.le_refl _) _;obtain⟨W0,hW0⟩:∃W0,w.alloc (Obj.cells #[.int .i64 15,.int .i64 a,.slice ap an ac] 43)=W0:=⟨_,rfl⟩;have hC0:C3 W0 w.heap.size (.int .i64 15) (.int .i64 a) (.slice ap an ac):=by rw[<-hW0];exact C3.new w _ _ _ _
 rw[hW0]at hb0;have HRO:=hid (rRoom_any 1 (by omega) (h.keep hb0) hu);have HB0:=hid hb0;have HC0:=hid hC0;obtain⟨i0,i1,i2,-⟩:=hC0;have hd1:IntKind.i64.wrap (a.tdiv 256)=a / 256:=by rw[Int.tdiv_eq_ediv_of_nonneg ha.1];exact i64w (by omega)
 have hd2:IntKind.i64.wrap (a.tmod 256)=a % 256:=by rw[Int.tmod_eq_emod_of_nonneg ha.1];exact i64w (by omega)
 have HLT:=hid h.lts;clear h hb0;cases hrb:rRoomB 1 st with
 |false=>
  have HX:Hid (pkS a st=rEnd 2 st):=by show _=_;unfold pkS;rw[hrb];rfl
  have e2:rRoomS 1 st=rEnd 2 st:=by unfold rRoomS;rw[hrb];rfl
  rw[hrb,e2]at HRO;go_enter Tryz.func85,Tryz.ntmps85;go_wp2_with (first
   |(go_at_call 82;refine HRO.out.mono ?_;intro e w1 hr;obtain⟨rfl,-⟩:=id hr;have HRR:=hid (hr.of (AG.of_below HB0.out) (λb hb=>Or.inl hb) (r':=.tuple #[]) (e':=.returned (.tuple #[])) rfl);clear hr))
  refine bE ?_;rw[HX.out];exact HRR.out
 |true=>
  have e2:rRoomS 1 st={st with used:=st.used+1}:=by unfold rRoomS;rw[hrb];rfl
  have HX:Hid (pkS a st=rMake ⟨3,a / 256,0,0,st.now.s.drop (st.now.s.length-(a % 256).toNat)⟩ (rStk (st.now.s.take (st.now.s.length-(a % 256).toNat)) {st with used:=st.used+1})):=by show _=_;unfold pkS;rw[hrb,e2];rfl
  rw[hrb,e2]at HRO;clear hrb e2;obtain⟨k,hk⟩:∃k:Nat,a % 256=(k:Int):=⟨(a % 256).toNat,by omega⟩;rw[hk]at hn hp HX hd2;rw[Int.toNat_natCast]at hn hp HX;have hk255:k<=255:=by omega
  have hd3:a.tmod 256=(k:Int):=by rw[Int.tmod_eq_emod_of_nonneg ha.1];exact hk
  have hd4:a % 256=(k:Int):=hk;clear hk;go_enter Tryz.func85,Tryz.ntmps85;go_upto_region 4 with(first
   |(go_at_call 82;refine HRO.out.mono ?_;intro e w1 hr;obtain⟨rfl,-⟩:=id hr;have HR1:=hid hr;clear hr))
  obtain⟨-,hA1,B1,hM1,hB1⟩:=HR1.out;have HA1:=hid hA1;have HB1:=hid hB1;have HM1:=hid hM1;have hC1:=HC0.out.ag hA1 (λhm=>by have:=HLT.out _ hm;omega);have HC1:=hid hC1;obtain⟨cs,ds,cv,sv,dv,h,hBe⟩:=hM1;have HBE:=hid hBe;obtain⟨p,sc,rfl⟩:∃p sc,sv=.slice p st.now.s.length sc:=row_slice h.sk;have HH:=hid h;obtain⟨L0,hL0⟩:∃L0,rL Ib cv (.slice p st.now.s.length sc) dv {st with used:=st.used+1}=L0:=⟨_,rfl⟩;have hlen:L0.length=13:=by rw[<-hL0];rfl
  have HL0:=hid hL0;have HST:Hid (PkR w1 M L0 p sc st.now.s w1.heap.size (a / 256) 0 (w1.alloc (Obj.cells #[.int .u8 114,.int .i64 (a / 256),.slice none 0 0] 88))):=by
   have hb:=h.start;rw[hL0]at hb;have hset:L0.set 2 (.slice p (st.now.s.length-0) sc)=L0:=by rw[<-hL0];rfl
   refine⟨by rw[hset];exact hb.alloc,Nat.le_refl _,none,0,?_,⟨by simp[iC],Or.inl ⟨rfl,rfl⟩⟩,by simp[vB,Value.ownBlock]⟩;refine⟨λj hj=>?_,λj=>frozen_new _ _ _ _,by simp⟩;have:j=0∨j=1∨j=2:=by simp at hj;omega
   rcases this with rfl|rfl|rfl<;>exact alloc_cell w1 #[.int .u8 114,.int .i64 (a / 256),.slice none 0 0] _ _ _ rfl
  have HBX:Hid (∀X L,Bw w1 X M L->X.cell? ⟨w.heap.size,1,none⟩=some (.int .i64 a)):=λX L hX=>hX.cell (λe=>by
   have h1:=HB0.out.size;have h2:M∈B1:=by rw[hBe];exact List.mem_cons_self ..
   subst e;rcases hB1 _ h2 with h3|h3
   ·have:=HLT.out _ h3;omega
   ·have:=hC1.lt;have:=HC0.out.lt;omega) hC1.c1
  have y1:=hC1.c1;clear h hBe hL0 hA1 hB1 hC1 i0 i1 i2;go_wp2_with fail
  go_loopw [6] (λv6 wr=>∃j,j<=k∧v6=.int .i64 (j:Int)∧Hid (PkR w1 M L0 p sc st.now.s w1.heap.size (a / 256) j wr)) (λv6 _=>k-(intOf v6).toNat)
  case atStart=>exact⟨0,Nat.zero_le _,rfl,HST.out⟩
  case round=>
   rename World=>wr
   clear HST y1;obtain⟨j,hja,rfl,HPK⟩:=hrel;have y1:=HBX.out wr _ HPK.out.b;obtain⟨pp,pc,hF,ho,hv⟩:=HPK.out.c;by_cases hj:j<k
   ·have hji:(j:Int)<(k:Int):=by omega
    obtain⟨N,hN⟩:∃N,st.now.s.length=N:=⟨_,rfl⟩;obtain⟨sg,rfl,hcap,hsg,hsgM⟩:∃sg,p=some ⟨sg,0,none⟩∧N<=sc∧w1.cell? ⟨sg,N-(j+1),none⟩=some (.int .i64 ((st.now.s[st.now.s.length-(j+1)]?).getD 0))∧sg≠M:=by
     obtain⟨sg,sc',e,hcap,hsc⟩:=stack_slice HH.out.sk (by show 0<st.now.s.length;omega);cases e;refine⟨sg,rfl,by rw[<-hN];exact hcap,?_,λe=>?_⟩
     ·rw[hsc _ (by show _<st.now.s.length;omega),hN];show(iC st.now.s)[N-(j+1)]?=_;simp only[iC,List.getElem?_map];rw[List.getElem?_eq_getElem (by omega)];rfl
     ·exact(List.nodup_cons.1 HH.out.nd).1 (List.mem_append_right _ (List.mem_append_left _ (by rw[vB_slice];exact List.mem_singleton.2 e.symm)))
    have hcx:=HPK.out.b.cell hsgM hsg;have hm2:wr.cell? ⟨M,2,none⟩=some (.slice (some ⟨sg,0,none⟩) (N-(j+1)+1) sc):=by
     rw[HPK.out.b.m.at 2 (by rw[List.getElem?_set_self (by omega)]),hN];congr 3
     omega
    have hf2:=HPK.out.b.m.fz 2;have HTK:=hid (takeX hm2 hf2 hcx (by omega) (by omega));have hcbM:w1.heap.size≠M:=by have:=HPK.out.b.lt;omega
    have HNX:Hid (∀w3 G c,((wr.setCell ⟨M,2,none⟩ (.slice (some ⟨sg,0,none⟩) (N-(j+1)) sc)).alloc (.cells #[.int .i64 ((st.now.s[st.now.s.length-(j+1)]?).getD 0)] 3)).grownBy w3 (Value.slice pp j pc).ownBlock->((Value.slice pp j pc).ownBlock=some G∨G=((wr.setCell ⟨M,2,none⟩ (.slice (some ⟨sg,0,none⟩) (N-(j+1)) sc)).alloc (.cells #[.int .i64 ((st.now.s[st.now.s.length-(j+1)]?).getD 0)] 3)).heap.size)->w3.ownsRow w1.heap.size 3 1 (.slice (some ⟨G,0,none⟩) (j+1) c) (j+1) (iC (st.now.s.drop (st.now.s.length-j)).reverse++[.int .i64 ((st.now.s[st.now.s.length-(j+1)]?).getD 0)])->(w3.cell? ⟨w1.heap.size,2,none⟩=some (.slice pp j pc)∧w3.frozen? ⟨w1.heap.size,2,none⟩=false)∧Hid (PkR w1 M L0 (some ⟨sg,0,none⟩) sc st.now.s w1.heap.size (a / 256) (j+1) (w3.setCell ⟨w1.heap.size,2,none⟩ (.slice (some ⟨G,0,none⟩) (j+1) c)))):=λw3 G c hg hat hown=>by
     rw[<-hN]at hg hat;exact HPK.out.next (by omega) (by omega) hF ho hv hg hat hown
    have HOW:Hid ((wr.setCell ⟨M,2,none⟩ (.slice (some ⟨sg,0,none⟩) (N-(j+1)) sc)).ownsRow w1.heap.size 3 1 (.slice pp j pc) j (iC (st.now.s.drop (st.now.s.length-j)).reverse)):=row_fr ho λb hb=>Below.heap_setCell _ _ _ _ (by show b≠M;have:=row_low ho (mem_vB.1 hb);have:=HPK.out.b.lt;omega);have g2:(wr.setCell ⟨M,2,none⟩ (.slice (some ⟨sg,0,none⟩) (N-(j+1)) sc)).cell? ⟨w1.heap.size,2,none⟩=some (.slice pp j pc):=cell_same (Below.heap_setCell _ _ _ _ hcbM) (hF.at 2 rfl);have hz1:w1.heap.size<=wr.heap.size:=HPK.out.b.size;generalize ((st.now.s[st.now.s.length-(j+1)]?).getD 0)=x at*;clear hm2 hf2 hcx hF ho hv hsg hN hcap;generalize hWc:wr.setCell ⟨M,2,none⟩ (.slice (some ⟨sg,0,none⟩) (N-(j+1)) sc)=Wc at*;have hz2:w1.heap.size<=Wc.heap.size:=by rw[<-hWc];simpa using hz1
    have g2a:=λo=>alloc_old Wc o _ _ _ g2;clear hWc;go_wp2_with (first
     |(go_at_call 59;refine HTK.out.mono ?_;rintro e w2 ⟨rfl,rfl⟩)
     |(at_builtin;refine wpList_append_lies _ rfl (.tmp 32) (.tmp 34) 81 rfl w1.heap.size 3 ii _ 1 8 Tryz.underlying81 hii hi0 hi1 hi2 rfl (by omega) (.slice pp j pc) j (iC (st.now.s.drop (st.now.s.length-j)).reverse) (by first|(simp[Act.eval];done)|(simp[Act.eval,Act.put];done)) (HOW.out.alloc _) ⟨w2.heap.size,0,none⟩ 1 1 [.int .i64 x] (by first|(simp[Act.eval];done)|(simp[Act.eval,Act.put];done)) rfl (by have h:=World.news_of_block (heap_alloc_new w2 (Obj.cells #[.int .i64 x] 3));simpa using h) (by intro u hu;simp at hu;rcases hu with rfl;rfl) (by omega) (by unfold maxLen;omega) (by omega) (by simp;omega) _ rfl ?_;intro G1 c1 w7 hown hgrow hat hlt1;obtain⟨⟨k7,f7⟩,HP2⟩:=HNX.out _ _ _ hgrow hat hown;clear hown hgrow hat hlt1))
    exact⟨⟨j+1,by omega,by go_num,HP2.out⟩,by simp[intOf];omega⟩
   ·obtain rfl:j=k:=by omega
    have hji:¬(j:Int)<(j:Int):=by omega
    have g0:=hF.at 0 rfl;have g1:=hF.at 1 rfl;have g2:=hF.at 2 rfl;have HMK:Hid (Calls Tryz.prog 83 #[.pointer (some ⟨M,0,none⟩),.agg #[.int .u8 114,.int .i64 (a / 256),.slice pp j pc]] wr λe w'=>e=.returned (.tuple #[])∧Hid (RRes lo M Ib B w (rMake ⟨3,a / 256,0,0,st.now.s.drop (st.now.s.length-j)⟩ (rStk (st.now.s.take (st.now.s.length-j)) {st with used:=st.used+1})) (.tuple #[]) (.returned (.tuple #[])) w')):=by
     have hX:Bw w1 wr M (rL Ib cv (.slice p (st.now.s.length-j) sc) dv (rStk (st.now.s.take (st.now.s.length-j)) {st with used:=st.used+1})):=by
      have:=HPK.out.b;rw[<-HL0.out]at this;exact this
     obtain⟨q1,q2,q3⟩:=HH.out.lessB (m:=st.now.s.length-j) (by show _<=st.now.s.length;omega) hX;have hmm:RM lo wr M Ib (rStk (st.now.s.take (st.now.s.length-j)) {st with used:=st.used+1}) B1:=⟨cs,ds,cv,_,dv,q1,by rw[HBE.out,q3]⟩;have hpx:PtX (λb=>lo<=b∧b∉B1) wr (.slice pp j pc) (cP ⟨3,a / 256,0,0,st.now.s.drop (st.now.s.length-j)⟩):=by
      have ecp:cP ⟨3,a / 256,0,0,st.now.s.drop (st.now.s.length-j)⟩=(st.now.s.drop (st.now.s.length-j)).reverse:=by simp[cP]
      have hln:(st.now.s.drop (st.now.s.length-j)).reverse.length=j:=by simp;omega
      rw[ecp];refine⟨pp,pc,by rw[hln],λi hi=>?_⟩;rw[hln]at hi;obtain⟨g,c,e,-,hc⟩:=stack_slice ho (by omega);cases e;refine⟨g,0,⟨⟨?_,λhm=>?_⟩,IntB.of_row ho⟩,rfl,?_⟩
      ·have h1:w1.heap.size<=g:=row_low ho rfl;have:=HM1.out.lows.1;omega
      ·have h1:w1.heap.size<=g:=row_low ho rfl;have h2:=HM1.out.lts g hm;omega
      ·rw[Nat.zero_add,hc i hi];unfold iC;rw[List.getElem?_map,List.getElem?_eq_getElem (by omega)];rfl
     refine(rMake_any ⟨3,a / 256,0,0,st.now.s.drop (st.now.s.length-j)⟩ (.slice pp j pc) hpx hmm (by show(st.now.s.take _).length<=_;simp;omega) hcl).mono λe w' hr=>?_;have he:=hr.1;refine⟨he,(hr.of (AG.trans (AG.of_below HB0.out) (HA1.out.trans (by rw[HBE.out];exact q2) λb hb=>HB1.out b hb) λb hb=>Or.inl hb) (λb hb=>(HB1.out b hb).imp id λh=>Nat.le_trans HB0.out.size h) rfl)⟩
    clear hF ho hv;go_wp2_with (first
     |(go_at_call 83;refine HMK.out.mono ?_;rintro e w3 ⟨rfl,HRR⟩))
    refine bE ?_;rw[HX.out];exact HRR.out
structure AtS (gs:List LGlob) (st:ASt) (i:LIns):Prop where
 len:st.now.s.length<=600000000
 cl:st.cells.length<=3000000
 used:0<=st.used∧st.used<=2000000
 need:needR i.op.toNat i.a<=(st.now.s.length:Int)
 op:0<=i.op∧i.op<21
 a:i.op≠0∧i.op≠1->0<=i.a∧i.a<=65535
 ref:∀k,k<st.now.s.length->∃r:Nat,∃h:r<st.cells.length,st.now.s[k]?=some (r:Int)∧CellOk gs.length st.cells.length st.cells[r]
theorem at_s{gs:List LGlob}{D:Nat->Nat->Int}{st:ASt}{i:LIns}{d:Int}(hG:ImgOk gs D)(hW:WfA gs D st)(hA:AtI gs D st i d):AtS gs st i:=by
 have h1:=hW.size;have h2:=hW.b.used;have h3:=hW.b.spare;have h4:=hW.b.steps;have h5:=hW.b.fuel;have h6:=hW.b.nc;have h7:=hG.few;obtain⟨⟨p0,p1⟩,-⟩:=hA.f;have hop:i.op=((i.op.toNat:Nat):Int):=by omega
 obtain⟨a1,-⟩:=insL_a hA.f hop (by omega);have hw:=wr_need hA.w;have hd:=hA.dl;refine⟨by omega,by omega,by omega,by omega,⟨p0,p1⟩,λe=>a1 (by omega),λk hk=>?_⟩;have hr:=hW.s _ (List.getElem_mem hk);obtain⟨hi,-,-⟩:=cAt_ok hW.b hr;refine⟨_,hi,?_,hW.b.cells _ (List.getElem_mem hi)⟩;rw[List.getElem?_eq_getElem hk];congr 1
 omega
theorem AtS.two{gs:List LGlob}{st:ASt}{i:LIns}(h:AtS gs st i)(h2:2<=st.now.s.length):∃l r:Nat,∃hl:l<st.cells.length,∃hr:r<st.cells.length,st.now.s=st.now.s.take (st.now.s.length-2)++[(l:Int),(r:Int)]∧CellOk gs.length st.cells.length st.cells[l]∧CellOk gs.length st.cells.length st.cells[r]∧cAt st ((st.now.s[st.now.s.length-2]?).getD 0)=st.cells[l]∧cAt st ((st.now.s[st.now.s.length-1]?).getD 0)=st.cells[r]:=by
 obtain⟨l,hl,el,cl⟩:=h.ref (st.now.s.length-2) (by omega);obtain⟨r,hr,er,cr⟩:=h.ref (st.now.s.length-1) (by omega);refine⟨l,r,hl,hr,?_,cl,cr,by rw[el];simp[cAt,hl],by rw[er];simp[cAt,hr]⟩;have e1:st.now.s.drop (st.now.s.length-2)=[(l:Int),(r:Int)]:=by
  rw[List.drop_eq_getElem_cons (by omega),List.drop_eq_getElem_cons (by omega)];rw[List.getElem?_eq_getElem (by omega)]at el er;have e3:st.now.s[st.now.s.length-2+1]'(by omega)=(r:Int):=by
   rw[<-Option.some.inj er];congr 1
   omega
  rw[Option.some.inj el,e3,List.drop_eq_nil_of_le (by omega)]
 rw[<-e1,List.take_append_drop]
theorem AtS.one{gs:List LGlob}{st:ASt}{i:LIns}(h:AtS gs st i)(h2:1<=st.now.s.length):∃r:Nat,∃hr:r<st.cells.length,st.now.s=st.now.s.take (st.now.s.length-1)++[(r:Int)]∧CellOk gs.length st.cells.length st.cells[r]:=by
 obtain⟨r,hr,er,cr⟩:=h.ref (st.now.s.length-1) (by omega);refine⟨r,hr,?_,cr⟩;have e1:st.now.s.drop (st.now.s.length-1)=[(r:Int)]:=by
  rw[List.drop_eq_getElem_cons (by omega)];rw[List.getElem?_eq_getElem (by omega)]at er;rw[Option.some.inj er,List.drop_eq_nil_of_le (by omega)]
 rw[<-e1,List.take_append_drop]
end Go.Proofs.YtahmgjjgikgpoaaGreatDoor

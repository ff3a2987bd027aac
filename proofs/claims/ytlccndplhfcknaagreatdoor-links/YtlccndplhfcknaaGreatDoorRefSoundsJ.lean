import Derived.Test.YtlccndplhfcknaaGreatDoorRefSoundJ
set_option maxRecDepth 100000
set_option maxHeartbeats 8000000
namespace Go.Proofs.YtlccndplhfcknaaGreatDoor
open Go.RowKit Go.Sort
theorem depths_try(nm:ByteArray)(ar:Int)(ex:Bool)(v:Value)(code:List LIns)(w:World)(hC:CodeAt w v code)(hF:Fine2 code)(ha:0<=ar∧ar<=20):
 Calls Tryz.prog 67 #[.agg #[.string nm,.int .i64 ar,.bool ex,v]] w λe w'=>DepRes code (ar+1) e w'∧Below w.heap.size w w':=by
 obtain⟨p,cap,rfl,hs1,hcell⟩:=hC.open;have hp:=hF.fine.pos;have hmost:=hF.fine.most;have hmk:=makeDeps_run code.length hmost;obtain⟨ha1,ha2⟩:=ha;have HC:Hid (∀w',Below w.heap.size w w'->CodeIn w' p code):=hcell;have HF:Hid (Fine2 code):=hF;have m0:=madeDeps_at code.length 0 hp;obtain⟨m1,m2,m3⟩:=m0;simp only[Nat.zero_mul,Nat.zero_add]at m1 m2 m3;clear hcell hC hF;go_enter Tryz.func67,Tryz.ntmps67;go_wp2;have HD:Hid _:=DepsAt.first (w.alloc (.cells #[.string nm,.int .i64 ar,.bool ex,.slice p code.length cap] 40)) code.length (ar+1) hp (by omega);have HR:Hid (RInv code (ar+1) ((List.replicate code.length (-1)).set 0 (ar+1))):=RInv.first (by omega) (by omega) (by simp) hp (λi hi=>by simp[List.getD]at hi ⊢;simp[hi]);generalize hdep0:(List.replicate code.length (-1:Int)).set 0 (ar+1)=dep0 at*;clear hdep0 m1 m2 m3;go_loopg [4] (2*(2*code.length-ranks dep0)+1) (λg s4 wr=>∃(dep:List Int) (mo:Bool),s4=.bool mo∧Hid (RInv code (ar+1) dep∧DepsAt wr (w.heap.size+1) dep∧(mo=false->∀k (hk:k<code.length),∀s∈succs code[k] k,leI (outI code[k] (dep.getD k 0)) (dep.getD s 0))∧g=2*(2*code.length-ranks dep)+(if mo then 1 else 0))∧Hid (Below w.heap.size w wr)∧wr.cell? ⟨w.heap.size,3,none⟩=some (.slice p code.length cap)∧w.heap.size+1<wr.heap.size)
 case atStart=>
  refine⟨dep0,true,rfl,⟨HR.out,?_,λh=>absurd h (by simp),rfl⟩,((Below.refl _ _).alloc (Nat.le_refl _) _).alloc (by simp) _,by simp,by simp⟩;have:=HD.out;simpa using this
 case round=>
  obtain⟨dep,mo,rfl,hI,hb,q3,hz⟩:=hrel;clear HD HR;cases mo
  ·have HL:Hid (Least code (ar+1) dep):=⟨⟨hI.out.1.len,hI.out.1.start,hI.out.2.2.1 rfl⟩,λg hg i _=>hI.out.1.below g hg i⟩;go_wp2;go_ret;refine⟨?_,hb.out⟩;exact⟨w.heap.size+1,dep,rfl,HL.out,hI.out.2.1,λi hi=>hI.out.1.ok i (by rw[hI.out.1.len];exact hi)⟩
  ·have HG:Hid (gk=2*(2*code.length-ranks dep)+1):=hI.out.2.2.2;have HI1:Hid (RInv code (ar+1) dep∧DepsAt wr (w.heap.size+1) dep):=⟨hI.out.1,hI.out.2.1⟩;clear hI;rename World=>W1
   go_wp2;go_loopw [4,5] (λs4 s5 wr=>∃(at_:Nat) (dp:List Int) (mo:Bool),at_<=code.length∧s4=.bool mo∧s5=.int .i64 at_∧Hid (RInv code (ar+1) dp∧DepsAt wr (w.heap.size+1) dp∧ranks dep<=ranks dp∧(mo=true->ranks dep<ranks dp)∧(mo=false->dp=dep∧∀k (hk:k<code.length),k<at_->∀s∈succs code[k] k,leI (outI code[k] (dep.getD k 0)) (dep.getD s 0)))∧Hid (Below w.heap.size w wr)∧wr.cell? ⟨w.heap.size,3,none⟩=some (.slice p code.length cap)∧w.heap.size+1<wr.heap.size) (λ_ s5 _=>code.length-(intOf s5).toNat)
   case atStart=>exact⟨0,dep,false,Nat.zero_le _,rfl,rfl,⟨HI1.out.1,HI1.out.2,Nat.le_refl _,λh=>absurd h (by simp),λ_=>⟨rfl,λ_ _ h=>absurd h (by omega)⟩⟩,hb,q3,hz⟩
   case round=>
    obtain⟨at_,dp,mo,hat,rfl,rfl,hI,hb,q3,hz⟩:=hrel;by_cases hlt:at_<code.length
    ·obtain⟨b,o,ap,an,ac,rfl,x0,x1,x2,hA⟩:=HC.out _ hb.out at_ hlt;have hopk:=HF.out.fine.op at_ hlt;obtain⟨m,hm⟩:=Int.eq_ofNat_of_zero_le hopk.1;have hm21:m<21:=by omega
     have hgd:=HF.out.good at_ hlt;have hgd0:=hgd;have hal:=HF.out.fine.alts at_ hlt;have hdl:=hI.out.1.len;have e0:=hI.out.2.1.c0 at_ (by omega);have e1:=hI.out.2.1.c1 at_ (by omega);have e2:=hI.out.2.1.c2 at_ (by omega);have edk:dp[at_]'(by omega)=dp.getD at_ 0:=by simp[List.getD,show at_<dp.length by omega]
     have hok:=hI.out.1.ok at_ (by omega);rw[edk]at e0 e1 e2;rw[hm]at x0 hgd;have HA:Hid (AltsAt wr (.slice ap an ac) code[at_].alts):=hA;have hia:=insG_a m hm21 _ _ hgd;have hat2:(at_:Int)<(code.length:Int):=by omega
     have hat1:(0:Int)<=(at_:Int):=by omega
     have hbs:=hb.out.size;have lb:b<wr.heap.size:=block_lt_of_cell x0;have HOUT:Hid (∀d,d≠-1->d≠-2->outI code[at_] d=if fitsV m code[at_].a d then behV m code[at_].a d else -1):=by
      intro d h1 h2;have em:code[at_].op.toNat=m:=by rw[hm];simp
      simp only[outI,outD,em];rw[if_neg h1,if_neg h2];split<;>rfl
     have HEM:Hid (∀d,0<=d->d<=100000->fitsV m code[at_].a d=!wrongR m code[at_].a d∧(wrongR m code[at_].a d=false->behV m code[at_].a d=d+moreR m code[at_].a∧0<=d+moreR m code[at_].a∧d+moreR m code[at_].a<=1000)):=λd h1 h2=>eff_math m hm21 _ d _ hgd h1 h2;have HSU:Hid (succI m code[at_].a code[at_].alts at_=(succs code[at_] at_).map λs:Nat=>(s:Int)):=by
      rw[hm]at hgd0;exact succI_map m code[at_] at_ hm21 hm hgd0
     have HIA:Hid (m≠0->0<=code[at_].a∧code[at_].a<=65535):=hia.1;clear hA hopk hgd hgd0 edk hia;generalize hdd:dp.getD at_ 0=d at*;have HDD:Hid (dp.getD at_ 0=d):=hdd;have hdv:0<=dvI d∧dvI d<=100000:=by unfold dvI;unfold okd at hok;split<;>omega
     have HW:Hid (∀w,Calls Tryz.prog 68 #[.agg #[.int .i64 m,.int .i64 code[at_].a,.slice ap an ac],.int .i64 (dvI d)] w λe w'=>e=.returned (.bool (wrongR m code[at_].a (dvI d)))∧Below w.heap.size w w'):=λw=>wrong_any m hm21 _ _ ap an ac w HIA.out hdv;have HEF:Hid (∀w,Calls Tryz.prog 85 #[.agg #[.int .i64 m,.int .i64 code[at_].a,.slice ap an ac]] w λe w'=>e=.returned (.tuple #[.int .i64 (needR m code[at_].a),.int .i64 (moreR m code[at_].a)])∧Below w.heap.size w w'):=λw=>effect_any m hm21 _ ap an ac w HIA.out;have HNX:Hid (∀w',Below wr.heap.size wr w'->Calls Tryz.prog 66 #[.agg #[.int .i64 m,.int .i64 code[at_].a,.slice ap an ac],.int .i64 at_] w' λe w''=>(∃v,e=.returned v∧OwnInts w'' w'.heap.size v (succI m code[at_].a code[at_].alts at_))∧Below w'.heap.size w' w''):=λw' hbw=>next_any m _ code[at_].alts _ at_ w' (HA.out.keep hbw) hal (by omega);have hml:=moreR_le m code[at_].a hm21 HIA.out;rename World=>W2
     have HDP:Hid (DepsAt W2 (w.heap.size+1) dp):=hI.out.2.1;have g0:=cell_regrown (alloc_cell W2 #[.int .i64 m,.int .i64 code[at_].a,.slice ap an ac] 37 0 _ rfl);have g1:=cell_regrown (alloc_cell W2 #[.int .i64 m,.int .i64 code[at_].a,.slice ap an ac] 37 1 _ rfl);have g2:=cell_regrown (alloc_cell W2 #[.int .i64 m,.int .i64 code[at_].a,.slice ap an ac] 37 2 _ rfl);have g3:=cell_regrown (alloc_old W2 (.cells #[.int .i64 m,.int .i64 code[at_].a,.slice ap an ac] 37) _ _ _ e2);have hk3:(at_:Int)<(dp.length:Int):=by omega
     clear hdd HA hal hok hdv hm;generalize hca:code[at_].a=a at*;clear hca;go_wp2;refine wp_region_quiet_below (by kernel_rfl) (by kernel_rfl) ?_;repeat (first|go_big_quiet_step (first|(go_at_call 68;exact Calls.regrown_of (HW.out _)))|quiet_step (first|(go_at_call 68;exact Calls.regrown_of (HW.out _))))
     refine wpQuiet_nil ?_;intro _ hw';obtain⟨⟨dq,osq⟩,hw''⟩:=hw';subst hw'';have hb3:Below W2.heap.size W2 (grow (redrawn (W2.alloc (.cells #[.int .i64 m,.int .i64 a,.slice ap an ac] 37)) dq) osq):=((Below.refl _ _).alloc (Nat.le_refl _) _).trans ((below_regrown _ dq osq).mono (by simp));have r0:=g0 dq osq;have r1:=g1 dq osq;have r2:=g2 dq osq;have hz3:W2.heap.size<(grow (redrawn (W2.alloc (.cells #[.int .i64 m,.int .i64 a,.slice ap an ac] 37)) dq) osq).heap.size:=by
      have:=(below_regrown (W2.alloc (.cells #[.int .i64 m,.int .i64 a,.slice ap an ac] 37)) dq osq).size;simp at this ⊢;omega
     generalize grow (redrawn (W2.alloc (.cells #[.int .i64 m,.int .i64 a,.slice ap an ac] 37)) dq) osq=W3 at*;clear g0 g1 g2 g3;have e0':=cell_keep hb3 e0;have e1':=cell_keep hb3 e1;have e2':=cell_keep hb3 e2;have q3':=cell_keep hb3 q3;clear e0 e1 e2 q3 x0 x1 x2;simp at r0 r1 r2;have HCONT:Hid (outI code[at_] d=-1->(mo=false->dp=dep∧∀k (hk:k<code.length),k<at_+1->∀s∈succs code[k] k,leI (outI code[k] (dep.getD k 0)) (dep.getD s 0))):=by
      intro h0 h;obtain⟨f1,f2⟩:=hI.out.2.2.2.2 h;refine⟨f1,λk hk hka s hs=>?_⟩;by_cases e:k=at_
      ·subst e;rw[<-f1,HDD.out,h0];exact leI.bot _
      ·exact f2 k hk (by omega) s hs
     have HB3:Hid (Below w.heap.size w W3):=hb.out.trans (hb3.mono hbs);have hz4:w.heap.size+1<W3.heap.size:=by have:=hb3.size;omega
     by_cases d1:d=-1
     ·subst d1;go_wp2;exact⟨⟨at_+1,dp,mo,by omega,rfl,by go_num,⟨hI.out.1,HDP.out.keep hb3,hI.out.2.2.1,hI.out.2.2.2.1,HCONT.out (by simp[outI])⟩,HB3,q3',hz4⟩,by simp[intOf];omega⟩
     ·have t1:(d !=-1)=true:=by simp[d1]
      by_cases hgo:d=-2∨wrongR m a d=false
      ·have hokd:=hI.out.1.ok at_ (by omega);rw[HDD.out]at hokd;have hval:∃v,outI code[at_] d=v∧v≠-1∧okd v∧(d=-2∧v=-2∨(d≠-2∧0<=d∧d<=1000∧wrongR m a d=false∧v=d+moreR m a∧0<=v∧v<=1000)):=by
        by_cases h2:d=-2
        ·exact⟨-2,by rw[h2];simp[outI,outD],by omega,Or.inr (Or.inl rfl),Or.inl ⟨h2,rfl⟩⟩
        ·have hw:wrongR m a d=false:=by rcases hgo with h|h;(exact absurd h h2);exact h
         have h3:0<=d∧d<=1000:=by unfold okd at hokd;omega
         obtain⟨f1,f2⟩:=HEM.out d h3.1 (by omega);obtain⟨f3,f4,f5⟩:=f2 hw;refine⟨d+moreR m a,?_,by omega,Or.inr (Or.inr ⟨f4,f5⟩),Or.inr ⟨h2,h3.1,h3.2,hw,rfl,f4,f5⟩⟩;rw[HOUT.out d d1 h2,f1,hw];simpa using f3
       obtain⟨v,hv0,hv1,hv2,hv3⟩:=hval;have HV:Hid (outI code[at_] d=v∧v≠-1∧okd v∧(d=-2∧v=-2∨(d≠-2∧0<=d∧d<=1000∧wrongR m a d=false∧v=d+moreR m a∧0<=v∧v<=1000))):=⟨hv0,hv1,hv2,hv3⟩;have ttest:(d==-2)=true∨(d==-2)=false∧wrongR m a (dvI d)=false:=by
        rcases hv3 with⟨h,-⟩|⟨h,h0,-,hw,-⟩
        ·left;simp[h]
        ·right;refine⟨by simp[h],?_⟩
         have:dvI d=d:=by unfold dvI;rw[if_neg (by omega)]
         rw[this];exact hw
       clear hv0 hv1 hv2 hv3 hokd hgo;have htail:∀(Q:Prop),((d==-2)=true->Q)->((d==-2)=false->wrongR m a (dvI d)=false->Q)->Q:=λQ h1 h2=>by
        rcases ttest with h|⟨h,h'⟩
        ·exact h1 h
        ·exact h2 h h'
       have HTT:Hid ((d==-2)=true∨(d==-2)=false∧wrongR m a (dvI d)=false):=ttest;clear htail ttest;generalize hmr:moreR m a=mr at*;have HMR:Hid (moreR m a=mr):=hmr;clear hmr;generalize needR m a=nd at*;have hbt:=HTT.out;generalize (d==-2)=bt at*;clear HTT;rcases hbt with rfl|⟨rfl,t3⟩;all_goals
        go_wp2_with (first|(go_at_call 85;refine(HEF.out _).mono ?_;rintro e w4 ⟨rfl,hb4⟩;have hz5:W3.heap.size<=w4.heap.size:=hb4.size;have r0':=cell_keep hb4 r0;have r1':=cell_keep hb4 r1;have r2':=cell_keep hb4 r2)|(go_at_call 66;refine(HNX.out _ (hb3.trans (hb4.mono hb3.size))).mono ?_;rintro e w5 ⟨⟨v10,rfl,ho⟩,hb5⟩))
        have hb35:Below W3.heap.size W3 w5:=hb4.trans (hb5.mono hb4.size);have HB5:Hid (Below w.heap.size w w5):=HB3.out.trans (hb35.mono (by have:=HB3.out.size;omega));have HD5:Hid (DepsAt w5 (w.heap.size+1) dp):=(HDP.out.keep hb3).keep hb35;have q35:=cell_keep hb35 q3';have hz6:w.heap.size+1<w5.heap.size:=by have:=hb35.size;omega
        have hlo:w.heap.size+1<w4.heap.size:=by omega
        rw[HSU.out]at ho;obtain⟨q,qc,ev,hin⟩:=ho.open;subst ev;have HIN:Hid (IntsIn w5 w4.heap.size q ((succs code[at_] at_).map λs:Nat=>(s:Int))):=hin;have HSN:Hid (∀s∈succs code[at_] at_,s<code.length):=HF.out.fine.next at_ hlt;have HST:Hid (RInv code (ar+1) dp∧ranks dep<=ranks dp∧(mo=true->ranks dep<ranks dp)∧(mo=false->dp=dep∧∀k (hk:k<code.length),k<at_->∀s∈succs code[k] k,leI (outI code[k] (dep.getD k 0)) (dep.getD s 0))):=⟨hI.out.1,hI.out.2.2.1,hI.out.2.2.2.1,hI.out.2.2.2.2⟩;clear hI hin ho HNX HEF HW HDP HB3 HSU HOUT HEM HIA r0 r1 r2 r0' r1' r2' e0' e1' e2' q3' hb3 hb4 hb5 hb35 hz3 hz4 hz5 hbs hb hz;have hsll:(succs code[at_] at_).length<=256:=succs_len (HF.out.fine.alts at_ hlt);generalize hsl:succs code[at_] at_=sl at*;rw[List.length_map];have HSL:Hid (succs code[at_] at_=sl):=hsl;clear hsl;have HM5:Hid (Mem6 w w5 w4.heap.size q sl dp (.slice (some ⟨b,o,none⟩) code.length cap)):=⟨HD5.out,HIN.out,HB5.out,q35,hz6⟩;clear HD5 HIN HB5 q35 hz6;go_loopw [4,11] (λs4 s11 wr=>∃(k:Nat) (dq:List Int) (m2:Bool),k<=sl.length∧s4=.bool m2∧s11=.int .i64 k∧Hid (Row3 code (ar+1) dep dp at_ d v sl k dq m2)∧Hid (Mem6 w wr w4.heap.size q sl dq (.slice (some ⟨b,o,none⟩) code.length cap))) (λ_ s11 _=>sl.length-(intOf s11).toNat)
        case atStart=>exact⟨0,dp,mo,Nat.zero_le _,rfl,rfl,⟨HST.out.1,HST.out.2.1,HST.out.2.2.1,λh=>⟨(HST.out.2.2.2 h).1,(HST.out.2.2.2 h).1,(HST.out.2.2.2 h).2,λ_ _ h=>absurd h (by omega)⟩,Or.inr HDD.out⟩,HM5⟩
        case round=>
         obtain⟨k,dq,m2,hk,rfl,rfl,hR,hM⟩:=hrel;clear HM5 HST;by_cases hkl:k<sl.length
         ·obtain⟨tb,eq2,hlo2,htb,hcell⟩:=hM.out.I k (by simpa using hkl);subst eq2;simp only[List.getElem_map]at hcell;have hs:=HSN.out _ (List.getElem_mem hkl);have hql:=hR.out.inv.len;have eds:dq[sl[k]]'(by omega)=dq.getD sl[k] 0:=by simp[List.getD,show sl[k]<dq.length by omega]
          have eda:dq[at_]'(by omega)=dq.getD at_ 0:=by simp[List.getD,show at_<dq.length by omega]
          have y0:=hM.out.D.c0 sl[k] (by omega);have y1:=hM.out.D.c1 sl[k] (by omega);have y2:=hM.out.D.c2 sl[k] (by omega);have z1:=hM.out.D.c1 at_ (by omega);have z2:=hM.out.D.c2 at_ (by omega);have hfr:=hM.out.D.fr;have hz:=hM.out.z;have u0:=hfr (sl[k]*3) (by omega);have u1:=hfr (sl[k]*3+1) (by omega);have u2:=hfr (sl[k]*3+2) (by omega);rw[eds]at y0 y1 y2;rw[eda]at z1 z2;obtain⟨v',hN⟩:=hR.out.now hlt mr (by
           obtain⟨f1,f2,f3,f4⟩:=HV.out;refine⟨f1,f2,f3,?_⟩;rcases f4 with f4|⟨g1,g2,g3,-,g4,g5,g6⟩
           ·exact Or.inl f4
           ·exact Or.inr ⟨g1,g2,g3,g4,g5,g6⟩)
          have hvv:d=-2->v=-2:=by
           intro h;rcases HV.out.2.2.2 with⟨-,h2⟩|⟨h2,-⟩
           ·exact h2
           ·exact absurd h h2
          have HSAME:Hid (joinI (dq.getD sl[k] 0) v'=dq.getD sl[k] 0->Row3 code (ar+1) dep dp at_ d v sl (k+1) dq m2):=λh=>hR.out.same hN HDD.out hvv hkl h;have HNEW:Hid (joinI (dq.getD sl[k] 0) v'≠dq.getD sl[k] 0->Row3 code (ar+1) dep dp at_ d v sl (k+1) (dq.set sl[k] (joinI (dq.getD sl[k] 0) v')) true):=λh=>hR.out.new hlt HSL.out HSN.out hN hkl d1 h;have HM2:Hid _:=hM.out.two hlo sl[k] (by omega);have HM1:Hid _:=hM.out.one hlo sl[k] (by omega);have hokx:=hR.out.inv.ok sl[k] (by omega);have halt:=hN.alt;have hs1':(0:Int)<=((sl[k]:Nat):Int):=by omega
          have hs2':((sl[k]:Nat):Int)<(code.length:Int):=by omega
          have nE:w.heap.size+1≠tb:=by omega
          have hk256:k+1<=256:=by omega
          have HK:Hid (k+1<=sl.length∧sl.length-(k+1)<sl.length-k):=⟨by omega,by omega⟩;rename World=>W6
          have nE1:w.heap.size+1≠W6.heap.size:=by omega
          have nE2:w.heap.size≠W6.heap.size:=by omega
          have l1:w.heap.size<W6.heap.size:=by omega
          have l2:w.heap.size+1<W6.heap.size+1:=by omega
          have zz2:=λo1 o2=>cell_keep (((Below.refl W6.heap.size W6).alloc (Nat.le_refl _) o1).alloc (by simp) o2) z2;have nT1:tb≠W6.heap.size:=by omega
          have nT2:tb≠W6.heap.size+1:=by omega
          have dm1:dvI (-1)=0:=rfl;have dm2:dvI (-2)=0:=rfl;clear hN hfr eds eda hql hvv;generalize sl[k]=s at*;generalize dq.getD s 0=dx at*;generalize dq.getD at_ 0=da at*;have hdx:0<=dx->(dx !=-1)=true∧(dx==-2)=false∧dvI dx=dx:=λh=>⟨by rw[bne_iff_ne];omega,by rw[beq_eq_false_iff_ne];omega,by unfold dvI;rw[if_neg (by omega)]⟩;rcases halt with⟨rfl,rfl⟩|⟨-,h2,h3,h4,rfl,h5,h6,-⟩
          ·rcases hokx with rfl|rfl|⟨k1,k2⟩
           ·have HN2:Hid (Row3 code (ar+1) dep dp at_ d v sl (k+1) (dq.set s (-2)) true):=HNEW.out (by decide);clear HNEW HSAME HM1 hdx;as_aux_lemma=>
             go_wp2;go_region
             go_wp2;go_region
             go_wp2;exact⟨⟨k+1,_,true,HK.out.1,rfl,by first|go_num|(rw[wrap_next hk256];rfl),HN2,HM2.out.keep (by repeat' (first|(with_reducible exact Below.refl _ _)|(with_reducible refine Below.drew ?_)|(with_reducible refine Below.alloc ?_ ?_ _)|(with_reducible exact Nat.le_refl _)|(simp;done)|(simp;omega)))⟩,by have:=HK.out.2;simp[intOf];omega⟩
           ·have HN2:Hid (Row3 code (ar+1) dep dp at_ d v sl (k+1) dq m2):=HSAME.out (by decide);clear HNEW HSAME HM1 HM2 hdx;as_aux_lemma=>
             go_wp2;go_region
             go_wp2;exact⟨⟨k+1,_,m2,HK.out.1,rfl,by first|go_num|(rw[wrap_next hk256];rfl),HN2,hM.out.keep (by repeat' (first|(with_reducible exact Below.refl _ _)|(with_reducible refine Below.drew ?_)|(with_reducible refine Below.alloc ?_ ?_ _)|(with_reducible exact Nat.le_refl _)|(simp;done)|(simp;omega)))⟩,by have:=HK.out.2;simp[intOf];omega⟩
           ·have HN2:Hid (Row3 code (ar+1) dep dp at_ d v sl (k+1) (dq.set s (-2)) true):=by
             have e:joinI dx (-2)=-2:=by unfold joinI;rw[if_neg (by omega),if_pos (by omega)]
             have:=HNEW.out (by rw[e];omega);rw[e]at this;exact this
            obtain⟨t5,t6,t7⟩:=hdx k1;rw[t5]at y0;rw[t6]at y1;rw[t7]at y2;clear HNEW HSAME HM1;as_aux_lemma=>
             go_wp2;go_region
             go_wp2;go_region
             go_wp2;exact⟨⟨k+1,_,true,HK.out.1,rfl,by first|go_num|(rw[wrap_next hk256];rfl),HN2,HM2.out.keep (by repeat' (first|(with_reducible exact Below.refl _ _)|(with_reducible refine Below.drew ?_)|(with_reducible refine Below.alloc ?_ ?_ _)|(with_reducible exact Nat.le_refl _)|(simp;done)|(simp;omega)))⟩,by have:=HK.out.2;simp[intOf];omega⟩
          ·have t5:(da==-2)=false:=by rw[beq_eq_false_iff_ne];omega
           have t6:dvI da=da:=by unfold dvI;rw[if_neg (by omega)]
           rw[t5]at z1;rw[t6]at z2;simp only[t6]at zz2;rcases hokx with rfl|rfl|⟨k1,k2⟩
           ·have HN2:Hid (Row3 code (ar+1) dep dp at_ d v sl (k+1) (dq.set s (da+mr)) true):=by
             have e:joinI (-1) (da+mr)=da+mr:=by unfold joinI;rw[if_pos rfl]
             have:=HNEW.out (by rw[e];omega);rw[e]at this;exact this
            have HMM:=hid (HM1.out (da+mr) h5);clear HNEW HSAME HM1 HM2 hdx;as_aux_lemma=>
             go_wp2;go_region
             go_wp2;go_region
             go_wp2;exact⟨⟨k+1,_,true,HK.out.1,rfl,by first|go_num|(rw[wrap_next hk256];rfl),HN2,HMM.out.keep (by repeat' (first|(with_reducible exact Below.refl _ _)|(with_reducible refine Below.drew ?_)|(with_reducible refine Below.alloc ?_ ?_ _)|(with_reducible exact Nat.le_refl _)|(simp;done)|(simp;omega)))⟩,by have:=HK.out.2;simp[intOf];omega⟩
           ·have HN2:Hid (Row3 code (ar+1) dep dp at_ d v sl (k+1) dq m2):=HSAME.out (by unfold joinI;rw[if_neg (by omega),if_pos (by omega)]);clear HNEW HSAME HM1 HM2 hdx;as_aux_lemma=>
             go_wp2;go_region
             go_wp2;exact⟨⟨k+1,_,m2,HK.out.1,rfl,by first|go_num|(rw[wrap_next hk256];rfl),HN2,hM.out.keep (by repeat' (first|(with_reducible exact Below.refl _ _)|(with_reducible refine Below.drew ?_)|(with_reducible refine Below.alloc ?_ ?_ _)|(with_reducible exact Nat.le_refl _)|(simp;done)|(simp;omega)))⟩,by have:=HK.out.2;simp[intOf];omega⟩
           ·obtain⟨t7,t8,t9⟩:=hdx k1;rw[t7]at y0;rw[t8]at y1;rw[t9]at y2;by_cases hv:dx=da+mr
            ·have HN2:Hid (Row3 code (ar+1) dep dp at_ d v sl (k+1) dq m2):=HSAME.out (by unfold joinI;rw[if_neg (by omega),if_neg (by omega)];exact hv.symm);clear HNEW HSAME HM1 HM2 hdx;subst hv;as_aux_lemma=>
              go_wp2;go_region
              go_wp2;exact⟨⟨k+1,_,m2,HK.out.1,rfl,by first|go_num|(rw[wrap_next hk256];rfl),HN2,hM.out.keep (by repeat' (first|(with_reducible exact Below.refl _ _)|(with_reducible refine Below.drew ?_)|(with_reducible refine Below.alloc ?_ ?_ _)|(with_reducible exact Nat.le_refl _)|(simp;done)|(simp;omega)))⟩,by have:=HK.out.2;simp[intOf];omega⟩
            ·have HN2:Hid (Row3 code (ar+1) dep dp at_ d v sl (k+1) (dq.set s (-2)) true):=by
              have e:joinI dx (da+mr)=-2:=by unfold joinI;rw[if_neg (by omega),if_pos (Or.inr (Or.inr hv))]
              have:=HNEW.out (by rw[e];omega);rw[e]at this;exact this
             have hv1:(dx==da+mr)=false:=by rw[beq_eq_false_iff_ne];exact hv
             have hv2:(dx !=da+mr)=true:=by rw[bne_iff_ne];exact hv
             clear HNEW HSAME HM1 hdx;as_aux_lemma=>
              go_wp2;go_region
              go_wp2;go_region
              go_wp2;exact⟨⟨k+1,_,true,HK.out.1,rfl,by first|go_num|(rw[wrap_next hk256];rfl),HN2,HM2.out.keep (by repeat' (first|(with_reducible exact Below.refl _ _)|(with_reducible refine Below.drew ?_)|(with_reducible refine Below.alloc ?_ ?_ _)|(with_reducible exact Nat.le_refl _)|(simp;done)|(simp;omega)))⟩,by have:=HK.out.2;simp[intOf];omega⟩
         ·have HLOW:Hid (m2=false->dq=dep∧∀k' (hk':k'<code.length),k'<at_+1->∀s∈succs code[k'] k',leI (outI code[k'] (dep.getD k' 0)) (dep.getD s 0)):=by
           intro h;obtain⟨a1,a2,a3,a4⟩:=hR.out.low h;refine⟨a1,λk' hk' hka s hs=>?_⟩;by_cases e:k'=at_
           ·subst e;rw[HSL.out]at hs;obtain⟨j,hj,rfl⟩:=List.getElem_of_mem hs;have e2:dep.getD k' 0=d:=by rw[<-a2];exact HDD.out
            rw[e2,HV.out.1];exact a4 j hj (by omega)
           ·exact a3 k' hk' (by omega) s hs
          have HK:Hid (at_+1<=code.length∧code.length-(at_+1)<code.length-at_):=⟨by omega,by omega⟩;as_aux_lemma=>
           go_wp2;exact⟨⟨at_+1,dq,m2,HK.out.1,rfl,by go_num,⟨hR.out.inv,hM.out.D,hR.out.rank,hR.out.up,HLOW.out⟩,hM.out.B,hM.out.c,hM.out.z⟩,by have:=HK.out.2;simp[intOf];omega⟩
      ·have hgo2:d≠-2∧wrongR m a d=true:=by
        refine⟨λh=>hgo (Or.inl h),?_⟩;cases h:wrongR m a d with
        |true=>rfl
        |false=>exact absurd (Or.inr h) hgo
       have t2:(d==-2)=false:=by simp[hgo2.1]
       have edv:dvI d=d:=by unfold dvI;rw[if_neg (by omega)]
       have HNO:Hid (outI code[at_] d=-1):=by
        show _=_;have hokd:0<=d∧d<=100000:=by have:=hI.out.1.ok at_ (by omega);rw[HDD.out]at this;unfold okd at this;omega
        rw[HOUT.out d d1 hgo2.1,(HEM.out d hokd.1 hokd.2).1,hgo2.2];rfl
       have t3:wrongR m a (dvI d)=true:=by rw[edv];exact hgo2.2
       clear hgo2 hgo edv d1;go_wp2;exact⟨⟨at_+1,dp,mo,by omega,rfl,by go_num,⟨hI.out.1,HDP.out.keep hb3,hI.out.2.2.1,hI.out.2.2.2.1,HCONT.out HNO.out⟩,HB3,q3',hz4⟩,by simp[intOf];omega⟩
    ·go_wp2;go_roundg(2*(2*code.length-ranks dp)+(if mo then 1 else 0))
     case measure=>
      rw[HG.out];have h1:=hI.out.2.2.1;have h2:=ranks_le dp;have h3:=hI.out.1.len;cases mo
      ·rw[(hI.out.2.2.2.2 rfl).1];simp
      ·have h4:=hI.out.2.2.2.1 rfl;simp;omega
     case rel=>
      refine⟨dp,mo,rfl,⟨hI.out.1,hI.out.2.1,λh=>?_,rfl⟩,hb,q3,hz⟩;obtain⟨h1,h2⟩:=hI.out.2.2.2.2 h;rw[h1];exact λk hk=>h2 k hk (by omega)
theorem global_any:GlobalOk:=λnm ar ex v code most w hC hG ha=>global_try (λnm ar ex v code w h1 h2 h3=>depths_try nm ar ex v code w h1 h2 h3) nm ar ex v code most w hC hG ha
theorem goodGs_of(imps:List LImp):∀(l:List LGlob) (last:ByteArray),globsFrom imps last l=true->GoodGs l
 |[],_,_=>λk hk=>absurd hk (by simp)
 |g::r,last,h=>by
  simp only[globsFrom,Bool.and_eq_true]at h;obtain⟨⟨⟨⟨⟨_,_⟩,_⟩,h4⟩,h5⟩,h6⟩:=h;intro k hk;cases k with
  |zero=>
   refine⟨h5,?_⟩;simp[arB]at h4;exact h4
  |succ j=>exact goodGs_of imps r _ h6 j (by simpa using hk)
noncomputable def docS(O:LObj):Value:=if valsG O then resS (sBad (O.imps.length+O.globs.length) O.globs 0) else .tuple #[.int .i64 15,.agg #[.int .i64 0,.int .i64 0]]
theorem refSounds_any(O:LObj)(v:Value)(w:World)(hO:ObjAt w v O):
 Calls Tryz.prog 16 #[v] w λe w'=>e=.returned (docS O)∧Below w.heap.size w w':=by
 obtain⟨iv,gv,rfl,hsz,hI,hG⟩:=id hO;obtain⟨ip,ic,rfl,hi1,-⟩:=hI.open;obtain⟨p,cap,rfl,hs1,-⟩:=hG.open;have HSH:Hid (∀w',Below w.heap.size w w'->Calls Tryz.prog 29 #[.agg #[.string O.name,.slice ip O.imps.length ic,.slice p O.globs.length cap]] w' λe w''=>e=.returned (.bool (valsG O))∧Below w'.heap.size w' w''):=λw' hb=>Shaped_any O _ w' (hO.keep hb);have HSO:Hid (valsG O=true->∀w',Below w.heap.size w w'->Calls Tryz.prog 30 #[.agg #[.string O.name,.slice ip O.imps.length ic,.slice p O.globs.length cap]] w' λe w''=>e=.returned (docS O)∧Below w'.heap.size w' w''):=by
  intro hv w' hb;have hg:GoodGs O.globs:=by
   simp only[valsG,Bool.and_eq_true]at hv;exact goodGs_of _ _ _ hv.2
  have:=refSound_try global_any O.name _ _ O.imps O.globs w' (hI.keep hb) (hG.keep hb) hg;unfold docS;rw[if_pos hv];exact this
 have HBAD:Hid (valsG O=false->docS O=.tuple #[.int .i64 15,.agg #[.int .i64 0,.int .i64 0]]):=by intro h;unfold docS;rw[h];rfl
 obtain⟨x,y,z,hD⟩:∃x y z:Int,docS O=.tuple #[.int .i64 x,.agg #[.int .i64 y,.int .i64 z]]:=by
  unfold docS resS;split
  ·split
   ·exact⟨_,_,_,rfl⟩
   ·exact⟨_,_,_,rfl⟩
  ·exact⟨_,_,_,rfl⟩
 have hb0:∀o1 o2,Below w.heap.size w ((w.alloc o1).alloc o2):=λo1 o2=>((Below.refl _ _).alloc (Nat.le_refl _) _).alloc (by simp) _;have HB0:Hid (∀o1 o2,Below w.heap.size w ((w.alloc o1).alloc o2)):=hb0;have HP0:Hid (∀o1,P2 ((w.alloc o1).alloc (.cells #[.int .i64 0,.int .i64 0] 46)) (w.heap.size+1)):=λo1=>⟨by simp,by simp,by simp,by simp⟩;clear hO hI hG hb0;have HSO1:Hid (valsG O=true->∀w',Below w.heap.size w w'->Calls Tryz.prog 30 #[.agg #[.string O.name,.slice ip O.imps.length ic,.slice p O.globs.length cap]] w' λe w''=>e=.returned (.tuple #[.int .i64 x,.agg #[.int .i64 y,.int .i64 z]])∧Below w'.heap.size w' w''):=by
  intro hv;have:=HSO.out hv;rw[hD]at this;exact this
 have HBAD1:Hid (valsG O=false->Value.tuple #[.int .i64 x,.agg #[.int .i64 y,.int .i64 z]]=.tuple #[.int .i64 15,.agg #[.int .i64 0,.int .i64 0]]):=by
  intro hv;rw[<-hD];exact HBAD.out hv
 rw[hD];clear hD HSO HBAD;generalize valsG O=V at*;generalize O.imps.length=n1 at*;generalize O.globs.length=n2 at*;cases V
 ·have HBAD2:=hid (HBAD1.out rfl);clear HBAD1 HSO1;go_enter Tryz.func16,Tryz.ntmps16;go_wp2_with (first|(go_at_call 29;refine(HSH.out _ (HB0.out _ _)).mono ?_;rintro e w1 ⟨rfl,hb1⟩;have hp:=(HP0.out _).keep hb1;obtain⟨p0,p1,p2,p3⟩:=id hp;have HP1:Hid (P2 w1 (w.heap.size+1)):=hp;have HB1:Hid (Below w.heap.size w w1):=(HB0.out _ _).trans (hb1.mono (by simp;omega));clear hp))
  obtain⟨s0,s1⟩:=HP1.out.put (.int .i64 0) (.int .i64 0);refine bodyPost_ret (v:=.tuple #[.int .i64 15,.agg #[.int .i64 0,.int .i64 0]]) (by simp[results,Tryz.results16,go_sem,s0,s1]) rfl ?_;exact⟨ret_val HBAD2.out.symm,(HB1.out.setCell (by simp) _).setCell (by simp) _⟩
 ·have HSO2:=hid (HSO1.out rfl);clear HBAD1 HSO1;go_enter Tryz.func16,Tryz.ntmps16;go_wp2_with (first|(go_at_call 29;refine(HSH.out _ (HB0.out _ _)).mono ?_;rintro e w1 ⟨rfl,hb1⟩;have hp:=(HP0.out _).keep hb1;have HP1:Hid (P2 w1 (w.heap.size+1)):=hp;have HB1:Hid (Below w.heap.size w w1):=(HB0.out _ _).trans (hb1.mono (by simp;omega));have y0:=cell_keep hb1 (alloc_old _ _ _ _ _ (alloc_cell w _ _ 0 _ rfl));have y1:=cell_keep hb1 (alloc_old _ _ _ _ _ (alloc_cell w _ _ 1 _ rfl));have y2:=cell_keep hb1 (alloc_old _ _ _ _ _ (alloc_cell w _ _ 2 _ rfl));clear hp)|(go_at_call 30;refine(HSO2.out _ HB1.out).mono ?_;rintro e w2 ⟨rfl,hb2⟩;have hp:=HP1.out.keep hb2;obtain⟨p0,p1,p2,p3⟩:=id hp;have HP2:Hid (P2 w2 (w.heap.size+1)):=hp;have HB2:Hid (Below w.heap.size w w2):=HB1.out.trans (hb2.mono HB1.out.size);clear hp))
  obtain⟨s0,s1⟩:=HP2.out.put (.int .i64 y) (.int .i64 z);refine bodyPost_ret (v:=.tuple #[.int .i64 x,.agg #[.int .i64 y,.int .i64 z]]) (by simp[results,Tryz.results16,go_sem,s0,s1]) rfl ?_;exact⟨rfl,(HB2.out.setCell (by simp) _).setCell (by simp) _⟩
end Go.Proofs.YtlccndplhfcknaaGreatDoor

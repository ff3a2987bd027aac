import Derived.Test.YtglihimiidiacaaGreatDoorKd
import Derived.Test.YtglihimiidiacaaGreatDoorFa
import Derived.Test.YtglihimiidiacaaGreatDoorFb
import Derived.Test.YtglihimiidiacaaGreatDoorEh
import Derived.Test.YtglihimiidiacaaGreatDoorCo
import Derived.Test.YtglihimiidiacaaGreatDoorCp
import Derived.WalkKit
import Derived.WalkSpells
import Derived.WalkLawsBesides
import Derived.Deep.QuietTactic
import Derived.BigQuiet
import Derived.Lib.AppendIntMem
namespace Go.Proofs.YtglihimiidiacaaGreatDoor.Ev8
open Go Go.RowKit Go.Proofs Go.Proofs.YtglihimiidiacaaGreatDoor
set_option maxRecDepth 100000 in
theorem pick_is(c:Int)(n:Nat)(w:World)(h1:-9223372036854775808≤c)(h2:c≤9223372036854775807)(hn:0<n)(hm:n≤1000):Calls Tryz.prog 6 #[.int .i64 c,.int .i64 n] w fun e w'=>e=.returned (.int .i64 (pickZ c n:Int))∧w'=w:=by
 have hn':(0:Int)<(n:Int):=by omega
 have hn0:(n:Int)≠0:=by omega
 by_cases hc:c<0
 ·have e1:IntKind.i64.wrap (c+1)=c+1:=by rw[IntKind.wrap_i64];omega
  have e2:IntKind.i64.wrap (-(c+1))=-(c+1):=by rw[IntKind.wrap_i64];omega
  have HI:Hid ((pickZ c n:Int)=-(c+1).tmod n):=by
   show _=_;unfold pickZ;rw[if_pos hc,←Int.neg_tmod,Int.tmod_eq_emod_of_nonneg (by omega)];have:((-(c+1)).toNat:Int)=-(c+1):=Int.toNat_of_nonneg (by omega);rw[Int.natCast_emod,this]
  go_enter Tryz.func6,Tryz.ntmps6;go_wp2;go_ret;exact⟨congrArg (fun z=>Ending.returned (.int .i64 z)) HI.out.symm,rfl⟩
 ·have HI:Hid ((pickZ c n:Int)=c % n):=by
   show _=_;unfold pickZ;rw[if_neg hc];have:(c.toNat:Int)=c:=Int.toNat_of_nonneg (by omega);rw[Int.natCast_emod,this]
  go_enter Tryz.func6,Tryz.ntmps6;go_wp2;go_ret;exact⟨congrArg (fun z=>Ending.returned (.int .i64 z)) HI.out.symm,rfl⟩
theorem pick_ok:HkOk Tryz.prog 6 hkPick:=by
 intro ih _ k t H v H' h ι w args hr hta hsz;refine hkPick_ok (fun args w=>enter_of Tryz.func6 rfl (by kernel_rfl) args w) (fun z m w hz h0 h1=>?_) h hr hta hsz;rw[IntKind.wrap_i64]at hz;refine callsIn_wide.2 ((pick_is z m w (by omega) (by omega) h0 h1).mono fun e w' ⟨q1,q2⟩=>⟨q1,?_⟩);rw[q2];exact Below.refl _ _
theorem number_ok:HkOk Tryz.prog 226 (hkNum fun _=>true):=by
 intro ih _ k t H v H' h ι w args hr hta hsz;refine hkNum_ok (Wp:=fun w=>∃adr,SY w adr) (fun ι H w hr _=>by obtain⟨adr,-,-,h⟩:=hr.sn.sent;exact⟨adr,h⟩) (fun args w=>enter_of Tryz.func226 rfl (by kernel_rfl) args w) (fun z w hw h0 h1=>?_) h hr hta hsz;obtain⟨adr,hS⟩:=hw;have hs:(decB z).size≤2000:=by
  have:=(decB_size 0 z).2;rw[show dbl 0 z=z by unfold dbl;rw[IntKind.wrap_i64];omega]at this;show(Lib.itoa z).toArray.size≤2000;rw[List.size_toArray];omega
 refine callsIn_wide.2 ((pnumber_any (decB z) hs hS).mono fun e w' ⟨q1,n,q2,q3⟩=>?_);have hw:=whole_itoa h0 h1;have hw':wholeP (decB z)=some z:=hw;rw[hw']at q2 q3;have:=q3 z rfl;subst this;exact⟨q2,q1⟩
set_option maxRecDepth 100000 in
theorem pow_num:numA .u64 Lib.pow10Tab=powL:=by kernel_rfl
theorem itoa_ok:HkOk Tryz.prog 5 (hkItoa 0 powL):=by
 intro ih _ k t H v H' h ι w args hr hta hsz;refine hkItoa_ok (by decide) (by kernel_rfl) (fun args w=>enter_of Tryz.func5 rfl (by kernel_rfl) args w) (fun ι z w vs ty fr h0 h1 h2 h3=>?_) h hr hta hsz;rw[←pow_num]at h3;have e:=numA_is h3;subst e;have htab:Lib.TabIs Tryz.prog w "internal/strconv.uint64pow10" .u64 Lib.pow10Tab:=by
  have hg:Tryz.prog.globalNamed "internal/strconv.uint64pow10"=some 0:=by kernel_rfl
  unfold Lib.TabIs World.var?;rw[hg];simp only[Option.bind_some,h2]
 refine callsIn_wide.2 ((itoa_any z h0 h1 w htab).mono fun e w' ⟨q1,k,os,q2⟩=>⟨q1,?_⟩);rw[q2];exact Lib.below_grow _ _ (Nat.le_refl _) k os
theorem fnd_ok{P:Program}:∀{l:List (Nat×Hk)},(∀q∈l,HkOk P q.1 q.2)→∀f g,fnd f l=some g→HkOk P f g
 |[],_,f,g,h=>by cases h
 |(k,x)::l,hl,f,g,h=>by
  simp only[fnd]at h;cases hb:Nat.beq k f with
  |true=>
   rw[hb,cond_true]at h;cases h;rw[←Nat.eq_of_beq_eq_true hb];exact hl (k,x) (List.mem_cons_self ..)
  |false=>rw[hb,cond_false]at h;exact fnd_ok (fun q hq=>hl q (List.mem_cons_of_mem _ hq)) f g h
theorem hks_ok:∀f g,fnd f hks=some g→HkOk Tryz.prog f g:=fnd_ok fun q hq=>by
 simp only[hks,List.mem_cons,List.not_mem_nil,or_false]at hq;rcases hq with rfl|rfl|rfl|rfl|rfl|rfl
 ·exact hkCut_ok
 ·exact number_ok
 ·exact pick_ok
 ·exact itoa_ok
 ·exact hkEnc_ok
 ·exact hkDec_ok
set_option maxRecDepth 1000000
theorem s1:okTy Tryz.prog.types.toList=true:=by kernel_rfl
theorem s2:okFs Tryz.prog.funcs.toList vss=true:=by kernel_rfl
theorem s3:Nat.ble Tryz.prog.funcs.toList.length 1024=true:=by kernel_rfl
theorem s4:Tryz.prog.follows .mixedOrders=true:=by kernel_rfl
theorem x1:extL 188 262 Tryz.prog.funcs.toList 0=true:=by kernel_rfl
theorem x2:Tryz.prog.funcs[188]?=some Tryz.f188:=by kernel_rfl
theorem x3:Tryz.prog.funcs[262]?=some Tryz.f262:=by kernel_rfl
theorem x4:Extern.findNext Tryz.f188=none:=by kernel_rfl
theorem x5:Extern.find Tryz.f188=some Extern.BytealgCompare.compare:=by kernel_rfl
theorem x6:Extern.findNext Tryz.f262=none:=by kernel_rfl
theorem x7:Extern.find Tryz.f262=some Extern.BytealgIndexByte.indexByte:=by kernel_rfl
theorem vok:∃V:Vw,V.P=Tryz.prog∧VOk V∧∀C,view Tryz.prog Tryz.t0 vss hks C=C V:=view_ok hks_ok s4 s1 s2 s3 (hx_of x1 x2 x3 x4 x5 x6 x7)
end Go.Proofs.YtglihimiidiacaaGreatDoor.Ev8
namespace Go.Proofs.YtglihimiidiacaaGreatDoor.Ev8
open Go Go.RowKit Go.Proofs Go.Proofs.YtglihimiidiacaaGreatDoor
theorem go_unk{ι ι':Io}{h h':Hp}{w w':World}{nx nx' b:Nat}{e:Ent}(hr:Rel ι h nx w)(hn:ι b=none)(g:Go1 (upd ι b (some e)) h w ι' h' nx' w'):Go1 ι h w ι' h' nx' w':=by
 have hne:∀b',dead (h b')=false→b'≠b:=fun b' hd q=>by
  subst q;obtain⟨E,h1,-⟩:=hr.blk b' hd;rw[hn]at h1;cases h1
 have hle:Le ι (upd ι b (some e)):=fun b' x hx=>by
  by_cases q:b'=b
  ·subst q;rw[hn]at hx;cases hx
  ·rwa[upd_ne _ q]
 have ho:∀B,Own (upd ι b (some e)) h B→Own ι h B:=fun B ⟨b',E,d,x,y⟩=>⟨b',E,d,by rwa[upd_ne _ (hne b' d)]at x,y⟩;exact⟨hle.trans g.le,g.rel,g.size,fun B hB hnO=>g.keep B hB fun q=>hnO (ho B q),fun B hB=>(g.own B hB).imp (ho B) id,g.env,g.shp⟩
structure Opn (ι:Io) (w:World):Prop where
 hr:∀h,HR io0 ⟨h,200⟩ w→HR ι ⟨h,200⟩ w
 go:∀h ι' h' nx' w',HR io0 ⟨h,200⟩ w→Go1 ι (hp h) w ι' h' nx' w'→Go1 io0 (hp h) w ι' h' nx' w'
theorem Opn.start(w:World):Opn io0 w:=⟨fun _ h=>h,fun _ _ _ _ _ _ g=>g⟩
theorem Opn.one{ι:Io}{w:World}(O:Opn ι w){b:Nat}(z:Int)(hb:b<200)(hn:ι b=none)(hw:0<w.heap.size):Opn (upd ι b (some (encX z))) w:=
 ⟨fun h hr=>((O.hr h hr).unk z hb hn hw).1,fun h _ _ _ _ hr g=>O.go h _ _ _ _ hr (go_unk (O.hr h hr).rel hn g)⟩
theorem law_run{V:Vw}(hV:VOk V){f:FuncId}{l:AV}{vs:List Value}(h:okE (start fun h=>tmL l fun t=>(evF V 100000).c f vs.length t ⟨h,200⟩)=true){w:World}(hw:Hold w){ι:Io}(O:Opn ι w)(hrl:RL ι l vs)(hen:∀args w,(callFunc f args).run V.P w=.ok (.enter f args) w):
 CallsIn Fence.wide 0 V.P f vs.toArray w fun e w'=>e=.returned (.bool true)∧Below w.heap.size w w':=by
 obtain⟨H',e,q2,q1⟩:=okE_ok h;obtain⟨B1,B2,k1,k2,e⟩:=start_ok e (by simp);obtain⟨t,n,e,hl,hT⟩:=tmL_ok e (by simp);have hr0:=start_hr hw k1 k2;have hr:=O.hr _ hr0;have hta:=TL.ta hT hl hrl;rcases(evF_ok hV 100000).1 f vs.length t _ _ H' e ι w vs.toArray hr hta (by simp) with⟨-,k⟩|⟨u,k,-⟩
 ·refine k.mono fun e1 w2 hq=>?_;obtain⟨u,ι',rfl,hu,hr',hg⟩:=hq;refine⟨?_,end_below hw hr' (O.go _ _ _ _ _ hr0 hg) q2 q1⟩;have:[u]=[Value.bool true]:=hu;simp at this;rw[this]
 ·rw[hen]at k;cases k
theorem pick_lt(z:Int){m:Nat}(h:0<m):pickZ z m<m:=Nat.mod_lt _ h
theorem io0_none{b:Nat}(h:27≤b):io0 b=none:=if_neg (by omega)
theorem lazy_of(hK:∀a,a<8→∀b,b<8→lazyK a b=true){n x y:Int}(hn:IntKind.i64.wrap n=n)(hx:IntKind.i64.wrap x=x)(hy:IntKind.i64.wrap y=y){w:World}(hw:Hold w):
 Calls Tryz.prog 3 #[.int .i64 n,.int .i64 x,.int .i64 y] w fun e w'=>e=.returned (.bool true)∧Below w.heap.size w w':=by
 obtain⟨V,hP,hV,hC⟩:=vok;have h:=hK _ (pick_lt x (m:=8) (by omega)) _ (pick_lt y (m:=8) (by omega));unfold lazyK at h;rw[hC]at h;have hw0:0<w.heap.size:=by have:=hw.sz;omega
 have O1:=(Opn.start w).one (b:=100) n (by omega) (io0_none (by omega)) hw0;have O2:=O1.one (b:=101) x (by omega) (by rw[upd_ne _ (by omega)];exact io0_none (by omega)) hw0;have O3:=O2.one (b:=102) y (by omega) (by rw[upd_ne _ (by omega),upd_ne _ (by omega)];exact io0_none (by omega)) hw0;refine(callsIn_wide (n:=0)).1 ?_;rw[←hP];refine law_run hV (vs:=[.int .i64 n,.int .i64 x,.int .i64 y]) h hw O3 ⟨_,_,rfl,unk_nu hn ?_,_,_,rfl,unk_pk hx ?_ ?_,_,_,rfl,unk_pk hy ?_ ?_,rfl⟩ (fun args w=>by rw[hP];exact enter_of Tryz.func3 rfl (by kernel_rfl) args w)
 ·rw[upd_ne _ (by omega),upd_ne _ (by omega),upd_same]
 ·rw[upd_ne _ (by omega),upd_same]
 ·have:=pick_lt x (m:=8) (by omega);omega
 ·rw[upd_same]
 ·have:=pick_lt y (m:=8) (by omega);omega
theorem once_of(hK:∀n,n<15→∀r,onceK n r=true){n x:Int}{r:Bool}(hn:IntKind.i64.wrap n=n)(hx:IntKind.i64.wrap x=x){w:World}(hw:Hold w):
 Calls Tryz.prog 4 #[.int .i64 n,.int .i64 x,.bool r] w fun e w'=>e=.returned (.bool true)∧Below w.heap.size w w':=by
 obtain⟨V,hP,hV,hC⟩:=vok;have h:=hK _ (pick_lt n (m:=15) (by omega)) r;unfold onceK at h;rw[hC]at h;have hw0:0<w.heap.size:=by have:=hw.sz;omega
 have O1:=(Opn.start w).one (b:=100) x (by omega) (io0_none (by omega)) hw0;have O2:=O1.one (b:=101) n (by omega) (by rw[upd_ne _ (by omega)];exact io0_none (by omega)) hw0;refine(callsIn_wide (n:=0)).1 ?_;rw[←hP];refine law_run hV (vs:=[.int .i64 n,.int .i64 x,.bool r]) h hw O2 ⟨_,_,rfl,unk_pk hn ?_ ?_,_,_,rfl,unk_nu hx ?_,_,_,rfl,rfl,rfl⟩ (fun args w=>by rw[hP];exact enter_of Tryz.func4 rfl (by kernel_rfl) args w)
 ·rw[upd_same]
 ·have:=pick_lt n (m:=15) (by omega);omega
 ·rw[upd_ne _ (by omega),upd_same]
end Go.Proofs.YtglihimiidiacaaGreatDoor.Ev8

import Derived.Test.YtahmgjjgikgpoaaGreatDoorSoJ
set_option maxRecDepth 100000
set_option maxHeartbeats 8000000
namespace Go.Proofs.YtahmgjjgikgpoaaGreatDoor
open Go.RowKit Go.Sort
theorem rDoesA{lo:Nat}{w:World}{M Ib:Nat}{B:List Nat}{gs:List LGlob}{st:ASt}(i:LIns)(hS:AtS gs st i)(h:RM lo w M Ib st B)(ap:Option Addr)(ac:Nat)(hal:AltsAt w (.slice ap i.alts.length ac) i.alts)(hall:i.alts.length<=1000000)
 (hop:i.op=0∨i.op=1∨i.op=2∨i.op=18∨i.op=20∨i.op=9∨i.op=10∨i.op=11∨i.op=12∨i.op=13∨i.op=14∨i.op=15∨i.op=16∨i.op=17):
 Calls Tryz.prog 60 #[.pointer (some ⟨M,0,none⟩),.agg #[.int .i64 i.op,.int .i64 i.a,.slice ap i.alts.length ac]] w λe w'=>RRes lo M Ib B w (rDoes i st) (.tuple #[]) e w':=by
 obtain⟨op,a,alts⟩:=i;simp only at hal hall hop ⊢;have hneed:=hS.need;have hlen:=hS.len;have hcl:=hS.cl;have hus:=hS.used;have ha:=hS.a;simp only at hneed ha;have hb0:Below w.heap.size w (w.alloc (Obj.cells #[.int .i64 op,.int .i64 a,.slice ap alts.length ac] 43)):=(Below.refl _ _).alloc (Nat.le_refl _) _;obtain⟨W0,hW0⟩:∃W0,w.alloc (Obj.cells #[.int .i64 op,.int .i64 a,.slice ap alts.length ac] 43)=W0:=⟨_,rfl⟩;have hC0:C3 W0 w.heap.size (.int .i64 op) (.int .i64 a) (.slice ap alts.length ac):=by rw[<-hW0];exact C3.new w _ _ _ _
 rw[hW0]at hb0;have HB0:=hid hb0;have HC0:=hid hC0;have hM0:=h.keep hb0;have HM0:=hid hM0;have HOF:Hid (∀s' v e w',RRes lo M Ib B W0 s' v e w'->RRes lo M Ib B w s' (.tuple #[]) (.returned (.tuple #[])) w'):=λs' v e w' hr=>hr.of (AG.of_below hb0) (λb hb=>Or.inl hb) rfl;have hnb:w.heap.size∉B:=λhm=>by have:=h.lts _ hm;omega
 obtain⟨i0,i1,i2,-⟩:=hC0;obtain⟨p,N,sc,hN,m2⟩:∃p N sc,st.now.s.length=N∧W0.cell? ⟨M,2,none⟩=some (.slice p N sc):=by
  obtain⟨cs,ds,cv,sv,dv,h1,-⟩:=hM0;obtain⟨p,sc,rfl⟩:=row_slice h1.sk;exact⟨p,_,sc,rfl,h1.m.at 2 rfl⟩
 have hal0:=hal.keep hb0;clear h hal hM0 hb0;rcases hop with rfl|rfl|rfl|rfl|rfl|rfl|rfl|rfl|rfl|rfl|rfl|rfl|rfl|rfl
 ·have HRO:=hid (rRoom_any 1 (by omega) HM0.out (by omega));have HX:Hid (rDoes ⟨0,a,alts⟩ st=if rRoomB 1 st then rMake ⟨1,a,0,0,[]⟩ (rRoomS 1 st) else rEnd 2 st):=rfl;cases hrb:rRoomB 1 st with
  |false=>
   have e2:rRoomS 1 st=rEnd 2 st:=by unfold rRoomS;rw[hrb];rfl
   rw[hrb,e2]at HRO;have HX2:Hid (rDoes ⟨0,a,alts⟩ st=rEnd 2 st):=by show _=_;rw[HX.out,hrb];rfl
   clear HX hrb e2;go_enter Tryz.func60,Tryz.ntmps60;go_wp2_with (first
    |(go_at_call 82;refine HRO.out.mono ?_;intro e w1 hr;obtain⟨rfl,-⟩:=id hr;have HRR:=hid (HOF.out _ _ _ _ hr);clear hr))
   refine bE ?_;rw[HX2.out];exact HRR.out
  |true=>
   have e2:rRoomS 1 st={st with used:=st.used+1}:=by unfold rRoomS;rw[hrb];rfl
   rw[hrb,e2]at HRO;have HX2:Hid (rDoes ⟨0,a,alts⟩ st=rMake ⟨1,a,0,0,[]⟩ {st with used:=st.used+1}):=by show _=_;rw[HX.out,hrb,e2];rfl
   have HNX:Hid (∀w1,RRes lo M Ib B W0 {st with used:=st.used+1} (.bool true) (.returned (.bool true)) w1->w1.cell? ⟨w.heap.size,1,none⟩=some (.int .i64 a)∧Hid (Calls Tryz.prog 83 #[.pointer (some ⟨M,0,none⟩),.agg #[.int .u8 105,.int .i64 a,.slice none 0 0]] w1 λe w2=>e=.returned (.tuple #[])∧Hid (RRes lo M Ib B w (rMake ⟨1,a,0,0,[]⟩ {st with used:=st.used+1}) (.tuple #[]) (.returned (.tuple #[])) w2))):=λw1 hr=>by
    obtain⟨-,hA,B1,hM1,hB1⟩:=hr;refine⟨(HC0.out.ag hA hnb).c1,?_⟩;refine(rMake_any ⟨1,a,0,0,[]⟩ (.slice none 0 0) ⟨none,0,rfl,λi hi=>absurd hi (by simp[cP])⟩ hM1 (by show st.now.s.length<=_;omega) (by show st.cells.length<=_;omega)).mono λe w2 hr2=>?_;have he:=hr2.1;exact⟨he,HOF.out _ _ _ _ (hr2.of hA hB1 (r':=.tuple #[]) (e':=.returned (.tuple #[])) rfl)⟩
   clear HX hrb e2;go_enter Tryz.func60,Tryz.ntmps60;go_wp2_with (first
    |(go_at_call 82;refine HRO.out.mono ?_;intro e w1 hr;obtain⟨rfl,-⟩:=id hr;obtain⟨y1,HMK⟩:=HNX.out w1 hr;clear hr)
    |(go_at_call 83;refine HMK.out.mono ?_;rintro e w2 ⟨rfl,HRR⟩))
   refine bE ?_;rw[HX2.out];exact HRR.out
 ·have HCA:=hid ((rPut_any a HM0.out (by omega)).mono λe w1 hr=>(⟨hr.1,HOF.out _ _ _ _ hr⟩:e=.returned (.tuple #[])∧Hid (RRes lo M Ib B w (rStk (st.now.s++[a]) st) (.tuple #[]) (.returned (.tuple #[])) w1)));rw[show rDoes ⟨1,a,alts⟩ st=rStk (st.now.s++[a]) st from rfl];go_enter Tryz.func60,Tryz.ntmps60;go_wp2_with (first
   |(go_at_call 84;refine HCA.out.mono ?_;rintro e w1 ⟨rfl,HRR⟩))
  refine bE ?_;exact HRR.out
 ·obtain⟨k,rfl⟩:∃k:Nat,a=(k:Int):=⟨a.toNat,by have:=ha (by omega);omega⟩;simp[needR]at hneed;obtain⟨sg,sc',hpe,hx⟩:∃sg sc',(Value.slice p N sc)=.slice (some ⟨sg,0,none⟩) N sc'∧W0.cell? ⟨sg,N-1-k,none⟩=some (.int .i64 ((st.now.s[N-1-k]?).getD 0)):=by
   obtain⟨cs,ds,cv,sv,dv,h1,-⟩:=HM0.out;obtain⟨sg,sc',rfl,-,hsc⟩:=stack_slice h1.sk (by omega);have e:=h1.m.at 2 rfl;rw[m2]at e;rw[hN]at e;refine⟨sg,sc',Option.some.inj e,?_⟩;rw[hsc _ (by omega)];simp only[iC,List.getElem?_map];rw[List.getElem?_eq_getElem (by omega)];rfl
  cases hpe;have HCA:=hid ((rPut_any ((st.now.s[N-1-k]?).getD 0) HM0.out (by omega)).mono λe w1 hr=>(⟨hr.1,HOF.out _ _ _ _ hr⟩:e=.returned (.tuple #[])∧Hid (RRes lo M Ib B w (rStk (st.now.s++[(st.now.s[N-1-k]?).getD 0]) st) (.tuple #[]) (.returned (.tuple #[])) w1)));rw[show rDoes ⟨2,(k:Int),alts⟩ st=rStk (st.now.s++[(st.now.s[N-1-k]?).getD 0]) st by rw[<-hN];rfl];have t1:((N:Int)-1-(k:Int)).toNat=N-1-k:=by omega
  have t2:(0:Int)<=(N:Int)-1-(k:Int):=by omega
  have t3:(N:Int)-1-(k:Int)<(N:Int):=by omega
  rw[hN]at hlen hneed;clear hN;generalize (st.now.s[N-1-k]?).getD 0=x at*;go_enter Tryz.func60,Tryz.ntmps60;go_wp2_with (first
   |(go_at_call 84;refine HCA.out.mono ?_;rintro e w1 ⟨rfl,HRR⟩))
  refine bE ?_;exact HRR.out
 ·obtain⟨⟨⟨u4,y4⟩,f4⟩,hrr⟩:=HM0.out.setAt (Below.refl _ _) a;have HRR:=hid (HOF.out _ _ _ _ hrr);rw[show rDoes ⟨18,a,alts⟩ st={st with now:={st.now with at_:=a}} from rfl];clear hrr;go_enter Tryz.func60,Tryz.ntmps60;go_wp2;refine bE ?_;exact HRR.out
 ·have HCA:=hid ((rEnd_any 4 HM0.out).mono λe w1 hr=>(⟨hr.1,HOF.out _ _ _ _ hr⟩:e=.returned (.tuple #[])∧Hid (RRes lo M Ib B w (rEnd 4 st) (.tuple #[]) (.returned (.tuple #[])) w1)));rw[show rDoes ⟨20,a,alts⟩ st=rEnd 4 st from rfl];go_enter Tryz.func60,Tryz.ntmps60;go_wp2_with (first
   |(go_at_call 39;refine HCA.out.mono ?_;rintro e w1 ⟨rfl,HRR⟩))
  refine bE ?_;exact HRR.out
 iterate 6
  rotate_left
 ·have HCA:=hid ((rPack_any a (ha (by omega)) ap alts.length ac HM0.out (by simp[needR]at hneed;omega) (by omega) (by omega) (by omega) (by simp[needR]at hneed;omega)).mono λe w1 hr=>(⟨hr.1,HOF.out _ _ _ _ hr⟩:e=.returned (.tuple #[])∧Hid (RRes lo M Ib B w (pkS a st) (.tuple #[]) (.returned (.tuple #[])) w1)));rw[show rDoes ⟨15,a,alts⟩ st=pkS a st from rfl];go_enter Tryz.func60,Tryz.ntmps60;go_wp2_with (first
   |(go_at_call 85;refine HCA.out.mono ?_;rintro e w1 ⟨rfl,HRR⟩))
  refine bE ?_;exact HRR.out
 ·simp[needR]at hneed;obtain⟨r,hr,hs,hck⟩:=hS.one (by omega);have HCA:=hid ((rSplit_any a ap alts.length ac HM0.out hs hr hck.k hck.fl (by simp;omega)).mono λe w1 hr=>(⟨hr.1,HOF.out _ _ _ _ hr⟩:e=.returned (.tuple #[])∧Hid (RRes lo M Ib B w (rSplit a st) (.tuple #[]) (.returned (.tuple #[])) w1)));rw[show rDoes ⟨16,a,alts⟩ st=rSplit a st from rfl];clear hs;go_enter Tryz.func60,Tryz.ntmps60;go_wp2_with (first
   |(go_at_call 85;refine HCA.out.mono ?_;rintro e w1 ⟨rfl,HRR⟩))
  refine bE ?_;exact HRR.out
 ·simp[needR]at hneed;obtain⟨r,hr,hs,hck⟩:=hS.one (by omega);have HCA:=hid ((rFork_any a alts ap ac hal0 hall HM0.out hs hr hck.k (by simp;omega)).mono λe w1 hr=>(⟨hr.1,HOF.out _ _ _ _ hr⟩:e=.returned (.tuple #[])∧Hid (RRes lo M Ib B w (rFork alts st) (.tuple #[]) (.returned (.tuple #[])) w1)));rw[show rDoes ⟨17,a,alts⟩ st=rFork alts st from rfl];clear hs;go_enter Tryz.func60,Tryz.ntmps60;go_wp2_with (first
   |(go_at_call 85;refine HCA.out.mono ?_;rintro e w1 ⟨rfl,HRR⟩))
  refine bE ?_;exact HRR.out
 all_goals
  simp[needR]at hneed;obtain⟨l,r,hl,hr,hs,hcl2,hcr,el,er⟩:=hS.two (by omega)
 ·have HCA:=hid ((rReckons_any 9 (by omega) HM0.out (by omega) (by omega) (by omega) hs hl hr hcl2.k hcr.k).mono λe w1 hr=>(⟨hr.1,HOF.out _ _ _ _ hr⟩:e=.returned (.tuple #[])∧Hid (RRes lo M Ib B w (rReck 9 (st.now.s.take (st.now.s.length-2)) st.cells[l] st.cells[r] st) (.tuple #[]) (.returned (.tuple #[])) w1)));rw[show rDoes ⟨9,a,alts⟩ st=rReck 9 (st.now.s.take (st.now.s.length-2)) st.cells[l] st.cells[r] st by rw[<-el,<-er];rfl];clear hs el er;go_enter Tryz.func60,Tryz.ntmps60;go_wp2_with (first
   |(go_at_call 86;refine HCA.out.mono ?_;rintro e w1 ⟨rfl,HRR⟩))
  refine bE ?_;exact HRR.out
 ·have HCA:=hid ((rReckons_any 10 (by omega) HM0.out (by omega) (by omega) (by omega) hs hl hr hcl2.k hcr.k).mono λe w1 hr=>(⟨hr.1,HOF.out _ _ _ _ hr⟩:e=.returned (.tuple #[])∧Hid (RRes lo M Ib B w (rReck 10 (st.now.s.take (st.now.s.length-2)) st.cells[l] st.cells[r] st) (.tuple #[]) (.returned (.tuple #[])) w1)));rw[show rDoes ⟨10,a,alts⟩ st=rReck 10 (st.now.s.take (st.now.s.length-2)) st.cells[l] st.cells[r] st by rw[<-el,<-er];rfl];clear hs el er;go_enter Tryz.func60,Tryz.ntmps60;go_wp2_with (first
   |(go_at_call 86;refine HCA.out.mono ?_;rintro e w1 ⟨rfl,HRR⟩))
  refine bE ?_;exact HRR.out
 ·have HCA:=hid ((rReckons_any 11 (by omega) HM0.out (by omega) (by omega) (by omega) hs hl hr hcl2.k hcr.k).mono λe w1 hr=>(⟨hr.1,HOF.out _ _ _ _ hr⟩:e=.returned (.tuple #[])∧Hid (RRes lo M Ib B w (rReck 11 (st.now.s.take (st.now.s.length-2)) st.cells[l] st.cells[r] st) (.tuple #[]) (.returned (.tuple #[])) w1)));rw[show rDoes ⟨11,a,alts⟩ st=rReck 11 (st.now.s.take (st.now.s.length-2)) st.cells[l] st.cells[r] st by rw[<-el,<-er];rfl];clear hs el er;go_enter Tryz.func60,Tryz.ntmps60;go_wp2_with (first
   |(go_at_call 86;refine HCA.out.mono ?_;rintro e w1 ⟨rfl,HRR⟩))
  refine bE ?_;exact HRR.out
 ·have HCA:=hid ((rReckons_any 12 (by omega) HM0.out (by omega) (by omega) (by omega) hs hl hr hcl2.k hcr.k).mono λe w1 hr=>(⟨hr.1,HOF.out _ _ _ _ hr⟩:e=.returned (.tuple #[])∧Hid (RRes lo M Ib B w (rReck 12 (st.now.s.take (st.now.s.length-2)) st.cells[l] st.cells[r] st) (.tuple #[]) (.returned (.tuple #[])) w1)));rw[show rDoes ⟨12,a,alts⟩ st=rReck 12 (st.now.s.take (st.now.s.length-2)) st.cells[l] st.cells[r] st by rw[<-el,<-er];rfl];clear hs el er;go_enter Tryz.func60,Tryz.ntmps60;go_wp2_with (first
   |(go_at_call 86;refine HCA.out.mono ?_;rintro e w1 ⟨rfl,HRR⟩))
  refine bE ?_;exact HRR.out
 ·have HCA:=hid ((rReckons_any 13 (by omega) HM0.out (by omega) (by omega) (by omega) hs hl hr hcl2.k hcr.k).mono λe w1 hr=>(⟨hr.1,HOF.out _ _ _ _ hr⟩:e=.returned (.tuple #[])∧Hid (RRes lo M Ib B w (rReck 13 (st.now.s.take (st.now.s.length-2)) st.cells[l] st.cells[r] st) (.tuple #[]) (.returned (.tuple #[])) w1)));rw[show rDoes ⟨13,a,alts⟩ st=rReck 13 (st.now.s.take (st.now.s.length-2)) st.cells[l] st.cells[r] st by rw[<-el,<-er];rfl];clear hs el er;go_enter Tryz.func60,Tryz.ntmps60;go_wp2_with (first
   |(go_at_call 86;refine HCA.out.mono ?_;rintro e w1 ⟨rfl,HRR⟩))
  refine bE ?_;exact HRR.out
 ·have HCA:=hid ((rReckons_any 14 (by omega) HM0.out (by omega) (by omega) (by omega) hs hl hr hcl2.k hcr.k).mono λe w1 hr=>(⟨hr.1,HOF.out _ _ _ _ hr⟩:e=.returned (.tuple #[])∧Hid (RRes lo M Ib B w (rReck 14 (st.now.s.take (st.now.s.length-2)) st.cells[l] st.cells[r] st) (.tuple #[]) (.returned (.tuple #[])) w1)));rw[show rDoes ⟨14,a,alts⟩ st=rReck 14 (st.now.s.take (st.now.s.length-2)) st.cells[l] st.cells[r] st by rw[<-el,<-er];rfl];clear hs el er;go_enter Tryz.func60,Tryz.ntmps60;go_wp2_with (first
   |(go_at_call 86;refine HCA.out.mono ?_;rintro e w1 ⟨rfl,HRR⟩))
  refine bE ?_;exact HRR.out
theorem rDoesB{lo:Nat}{w:World}{M Ib:Nat}{B:List Nat}{gs:List LGlob}{st:ASt}(i:LIns)(hS:AtS gs st i)(h:RM lo w M Ib st B)(ap:Option Addr)(an ac:Nat)(hop:i.op=3∨i.op=6∨i.op=7):
 Calls Tryz.prog 60 #[.pointer (some ⟨M,0,none⟩),.agg #[.int .i64 i.op,.int .i64 i.a,.slice ap an ac]] w λe w'=>RRes lo M Ib B w (rDoes i st) (.tuple #[]) e w':=by
 obtain⟨op,a,alts⟩:=i;simp only at hop ⊢;have hneed:=hS.need;have hlen:=hS.len;have hcl:=hS.cl;have hus:=hS.used;have ha:=hS.a;simp only at hneed ha;have hb0:Below w.heap.size w (w.alloc (Obj.cells #[.int .i64 op,.int .i64 a,.slice ap an ac] 43)):=(Below.refl _ _).alloc (Nat.le_refl _) _;obtain⟨W0,hW0⟩:∃W0,w.alloc (Obj.cells #[.int .i64 op,.int .i64 a,.slice ap an ac] 43)=W0:=⟨_,rfl⟩;have hC0:C3 W0 w.heap.size (.int .i64 op) (.int .i64 a) (.slice ap an ac):=by rw[<-hW0];exact C3.new w _ _ _ _
 rw[hW0]at hb0;have HB0:=hid hb0;have HC0:=hid hC0;have hM0:=h.keep hb0;have HM0:=hid hM0;have HOF:Hid (∀s' v e w',RRes lo M Ib B W0 s' v e w'->RRes lo M Ib B w s' (.tuple #[]) (.returned (.tuple #[])) w'):=λs' v e w' hr=>hr.of (AG.of_below hb0) (λb hb=>Or.inl hb) rfl;have hnb:w.heap.size∉B:=λhm=>by have:=h.lts _ hm;omega
 obtain⟨i0,i1,i2,-⟩:=hC0;obtain⟨cs,ds,cv,sv,dv,h1,hBe⟩:=hM0;obtain⟨p,sc,rfl⟩:∃p sc,sv=.slice p st.now.s.length sc:=row_slice h1.sk;have m2:=h1.m.at 2 rfl;clear h hb0;rcases hop with rfl|rfl|rfl
 ·simp[needR]at hneed;have HRO:=hid (rRoom_any 1 (by omega) HM0.out (by omega));have HX:Hid (rDoes ⟨3,a,alts⟩ st=if rRoomB 1 st then rMake ⟨2,0,(st.now.s[st.now.s.length-1]?).getD 0,(st.now.s[st.now.s.length-2]?).getD 0,[]⟩ (rStk (st.now.s.take (st.now.s.length-2)) (rRoomS 1 st)) else rEnd 2 st):=rfl;cases hrb:rRoomB 1 st with
  |false=>
   have e2:rRoomS 1 st=rEnd 2 st:=by unfold rRoomS;rw[hrb];rfl
   rw[hrb,e2]at HRO;have HX2:Hid (rDoes ⟨3,a,alts⟩ st=rEnd 2 st):=by show _=_;rw[HX.out,hrb];rfl
   clear HX hrb e2 h1;go_enter Tryz.func60,Tryz.ntmps60;go_wp2_with (first
    |(go_at_call 82;refine HRO.out.mono ?_;intro e w1 hr;obtain⟨rfl,-⟩:=id hr;have HRR:=hid (HOF.out _ _ _ _ hr);clear hr))
   refine bE ?_;rw[HX2.out];exact HRR.out
  |true=>
   have e2:rRoomS 1 st={st with used:=st.used+1}:=by unfold rRoomS;rw[hrb];rfl
   rw[hrb,e2]at HRO;obtain⟨x,f,hx,hf,hs,-,-,el,er⟩:=hS.two (by omega);have hsx:(st.now.s[st.now.s.length-2]?).getD 0=(x:Int):=by
    rw[hs];simp
   have hsf:(st.now.s[st.now.s.length-1]?).getD 0=(f:Int):=by
    rw[hs];simp
   have HX2:Hid (rDoes ⟨3,a,alts⟩ st=rMake ⟨2,0,(f:Int),(x:Int),[]⟩ (rStk (st.now.s.take (st.now.s.length-2)) {st with used:=st.used+1})):=by show _=_;rw[HX.out,hrb,e2,hsx,hsf];rfl
   have HNX:Hid (∀w1,RRes lo M Ib B W0 {st with used:=st.used+1} (.bool true) (.returned (.bool true)) w1->Calls Tryz.prog 59 #[.pointer (some ⟨M,0,none⟩)] w1 λe w2=>e=.returned (.int .i64 (f:Int))∧Hid (Calls Tryz.prog 59 #[.pointer (some ⟨M,0,none⟩)] w2 λe w3=>e=.returned (.int .i64 (x:Int))∧Hid (Calls Tryz.prog 83 #[.pointer (some ⟨M,0,none⟩),.agg #[.int .u8 97,.int .i64 0,.slice (some ⟨w3.heap.size,0,none⟩) 2 2]] (w3.alloc (.cells #[.int .i64 (f:Int),.int .i64 (x:Int)] 3)) λe w4=>e=.returned (.tuple #[])∧Hid (RRes lo M Ib B w (rMake ⟨2,0,(f:Int),(x:Int),[]⟩ (rStk (st.now.s.take (st.now.s.length-2)) {st with used:=st.used+1})) (.tuple #[]) (.returned (.tuple #[])) w4)))):=λw1 hr1=>by
    obtain⟨-,hA1,B1,hM1,hB1⟩:=hr1;have hs1:({st with used:=st.used+1}:ASt).now.s=(st.now.s.take (st.now.s.length-2)++[(x:Int)])++[(f:Int)]:=by show st.now.s=_;rw[List.append_assoc];exact hs
    refine(rTake_any hM1 hs1 (by show st.now.s.length<=_;omega)).mono λe w2 hr2=>?_;have he2:=hr2.1;obtain⟨-,hA2,B2,hM2,hB2⟩:=hr2.of hA1 hB1 (r':=.tuple #[]) (e':=.returned (.tuple #[])) rfl;refine⟨he2,(rTake_any (s:=st.now.s.take (st.now.s.length-2)) (x:=(x:Int)) hM2 rfl (by show(st.now.s.take (st.now.s.length-2)++[(x:Int)]).length<=_;simp;omega)).mono λe w3 hr3=>?_⟩;have he3:=hr3.1;obtain⟨-,hA3,B3,hM3,hB3⟩:=hr3.of hA2 hB2 (r':=.tuple #[]) (e':=.returned (.tuple #[])) rfl;have hb4:Below w3.heap.size w3 (w3.alloc (.cells #[.int .i64 (f:Int),.int .i64 (x:Int)] 3)):=(Below.refl _ _).alloc (Nat.le_refl _) _;refine⟨he3,(rMake_any ⟨2,0,(f:Int),(x:Int),[]⟩ (.slice (some ⟨w3.heap.size,0,none⟩) 2 2) ⟨some ⟨w3.heap.size,0,none⟩,2,rfl,λi hi=>?_⟩ (hM3.keep hb4) (by show(st.now.s.take _).length<=_;simp;omega) (by show st.cells.length<=_;omega)).mono λe w4 hr4=>?_⟩
    ·have hi2:i<2:=hi;refine⟨w3.heap.size,0,⟨⟨hM3.lows.1,λhm=>by have:=hM3.lts _ hm;omega⟩,_,_,heap_alloc_new w3 _⟩,rfl,?_⟩;rcases(show i=0∨i=1 by omega) with rfl|rfl
     ·exact alloc_cell w3 #[.int .i64 (f:Int),.int .i64 (x:Int)] _ _ _ rfl
     ·exact alloc_cell w3 #[.int .i64 (f:Int),.int .i64 (x:Int)] _ _ _ rfl
    ·have he4:=hr4.1;exact⟨he4,HOF.out _ _ _ _ (hr4.of (hA3.then hb4) hB3 (r':=.tuple #[]) (e':=.returned (.tuple #[])) rfl)⟩
   clear HX hrb e2 h1 hs hsx hsf el er;go_enter Tryz.func60,Tryz.ntmps60;go_wp2_with (first
    |(go_at_call 82;refine HRO.out.mono ?_;intro e w1 hr;obtain⟨rfl,-⟩:=id hr;have HT1:=hid (HNX.out w1 hr);clear hr HNX)
    |(go_at_call 59;refine HT1.out.mono ?_;rintro e w2 ⟨rfl,HT2⟩;clear HT1)
    |(go_at_call 59;refine HT2.out.mono ?_;rintro e w3 ⟨rfl,HMK⟩;clear HT2)
    |(go_at_call 83;refine HMK.out.mono ?_;rintro e w4 ⟨rfl,HRR⟩))
   refine bE ?_;rw[HX2.out];exact HRR.out
 ·obtain⟨k,rfl⟩:∃k:Nat,a=(k:Int):=⟨a.toNat,by have:=ha (by omega);omega⟩;simp[needR]at hneed;have f2:=h1.m.fz 2;obtain⟨q1,q2,q3⟩:=h1.less (m:=st.now.s.length-k) (by omega);have HRR:Hid (RRes lo M Ib B w (rStk (st.now.s.take (st.now.s.length-k)) st) (.tuple #[]) (.returned (.tuple #[])) (W0.setCell ⟨M,2,none⟩ (.slice p (st.now.s.length-k) sc))):=by
   rw[<-hBe]at q2 q3;exact HOF.out _ (.tuple #[]) (.returned (.tuple #[])) _ ⟨rfl,q2,_,⟨cs,ds,cv,_,dv,q1,rfl⟩,q3⟩
  rw[show rDoes ⟨6,(k:Int),alts⟩ st=rStk (st.now.s.take (st.now.s.length-k)) st from rfl];have hle:st.now.s.length-k<=sc:=by
   rcases h1.sk.2 with⟨-,e0⟩|⟨g',cap,cur,hv,-,-,h4,-⟩
   ·omega
   ·cases hv;omega
  generalize hN:st.now.s.length=N at*;have t1:((N:Int)-(k:Int)).toNat=N-k:=by omega
  have t2:(0:Int)<=(N:Int)-(k:Int):=by omega
  have t3:(N:Int)-(k:Int)<=(sc:Int):=by omega
  clear h1 q1 q2 q3 hN;go_enter Tryz.func60,Tryz.ntmps60;go_wp2;refine bE ?_;exact HRR.out
 ·obtain⟨k,rfl⟩:∃k:Nat,a=(k:Int):=⟨a.toNat,by have:=ha (by omega);omega⟩;have hk1:=ha (by omega);have HRO:=hid (rRoom_any (k:Int) (by omega) HM0.out (by omega));have HX:Hid (rDoes ⟨7,(k:Int),alts⟩ st=if rRoomB (k:Int) st then rMakeN k (rRoomS (k:Int) st) else rEnd 2 st):=rfl;clear h1 hBe;cases hrb:rRoomB (k:Int) st with
  |false=>
   have e2:rRoomS (k:Int) st=rEnd 2 st:=by unfold rRoomS;rw[hrb];rfl
   rw[hrb,e2]at HRO;have HX2:Hid (rDoes ⟨7,(k:Int),alts⟩ st=rEnd 2 st):=by show _=_;rw[HX.out,hrb];rfl
   have HBX:Hid (∀w1,RRes lo M Ib B W0 (rEnd 2 st) (.bool false) (.returned (.bool false)) w1->w1.cell? ⟨w.heap.size,1,none⟩=some (.int .i64 (k:Int))):=λw1 hr=>(HC0.out.ag hr.2.1 hnb).c1;clear HX hrb e2;go_enter Tryz.func60,Tryz.ntmps60;go_wp2_with (first
    |(go_at_call 82;refine HRO.out.mono ?_;intro e w1 hr;obtain⟨rfl,-⟩:=id hr;have y1:=HBX.out w1 hr;have HRR:=hid (HOF.out _ _ _ _ hr);clear hr))
   refine wp_loop_rounds 1 ?_;rw[rounds_succ];go_wp2;all_goals
    refine bE ?_;rw[HX2.out];exact HRR.out
  |true=>
   have e2:rRoomS (k:Int) st={st with used:=st.used+(k:Int)}:=by unfold rRoomS;rw[hrb];rfl
   rw[hrb,e2]at HRO;have HX2:Hid (rDoes ⟨7,(k:Int),alts⟩ st=rMakeN k {st with used:=st.used+(k:Int)}):=by show _=_;rw[HX.out,hrb,e2];rfl
   have HBX:Hid (∀w1 s' v e,RRes lo M Ib B W0 s' v e w1->w1.cell? ⟨w.heap.size,1,none⟩=some (.int .i64 (k:Int))):=λw1 s' v e hr=>(HC0.out.ag hr.2.1 hnb).c1;have HMK:Hid (∀j wr,j<k->RRes lo M Ib B W0 (rMakeN j {st with used:=st.used+(k:Int)}) (.tuple #[]) (.returned (.tuple #[])) wr->Calls Tryz.prog 83 #[.pointer (some ⟨M,0,none⟩),.agg #[.int .u8 104,.int .i64 0,.slice none 0 0]] wr λe w2=>e=.returned (.tuple #[])∧Hid (RRes lo M Ib B W0 (rMakeN (j+1) {st with used:=st.used+(k:Int)}) (.tuple #[]) (.returned (.tuple #[])) w2)):=λj wr hj hr=>by
    obtain⟨-,hA,B1,hM1,hB1⟩:=hr;have e3:=rMakeN_eq j {st with used:=st.used+(k:Int)};refine(rMake_any ⟨0,0,0,0,[]⟩ (.slice none 0 0) ⟨none,0,rfl,λi hi=>absurd hi (by simp[cP])⟩ hM1 (by rw[e3];simp;omega) (by rw[e3];simp;omega)).mono λe w2 hr2=>?_;have he:=hr2.1;exact⟨he,hr2.of hA hB1 rfl⟩
   clear HX hrb e2;go_enter Tryz.func60,Tryz.ntmps60;go_wp2_with (first
    |(go_at_call 82;refine HRO.out.mono ?_;intro e w1 hr;obtain⟨rfl,-⟩:=id hr;have HRR:=hid (hr.of (AG.refl _ _) (λb hb=>Or.inl hb) (r':=.tuple #[]) (e':=.returned (.tuple #[])) rfl);clear hr))
   go_loopw [13] (λv13 wr=>∃j,j<=k∧v13=.int .i64 (j:Int)∧Hid (RRes lo M Ib B W0 (rMakeN j {st with used:=st.used+(k:Int)}) (.tuple #[]) (.returned (.tuple #[])) wr)) (λv13 _=>k-(intOf v13).toNat)
   case atStart=>exact⟨0,Nat.zero_le _,rfl,HRR.out⟩
   case round=>
    rename World=>wr
    clear HRR;obtain⟨j,hja,rfl,HRJ⟩:=hrel;have y1:=HBX.out wr _ _ _ HRJ.out;by_cases hj:j<k
    ·have hji:(j:Int)<(k:Int):=by omega
     have HMJ:=hid (HMK.out j wr hj HRJ.out);go_wp2_with (first
      |(go_at_call 83;refine HMJ.out.mono ?_;rintro e w2 ⟨rfl,HR2⟩))
     exact⟨⟨j+1,by omega,by go_num,HR2.out⟩,by simp[intOf];omega⟩
    ·obtain rfl:j=k:=by omega
     have hji:¬(j:Int)<(j:Int):=by omega
     go_wp2;refine bE ?_;rw[HX2.out];exact HOF.out _ _ _ _ HRJ.out
theorem flat3r_set:∀(l:List (MCl×Value)) (r:Nat) (_:r<l.length) (y:MCl×Value),((((l.flatMap rcC).set (r*3) (.int .u8 (kByte y.1.kind))).set (r*3+1) (.int .i64 (cN y.1))).set (r*3+2) y.2)=(l.set r y).flatMap rcC
 |x::l,0,_,y=>by simp[rcC]
 |x::l,r+1,hr,y=>by
  rw[List.flatMap_cons,List.set_cons_succ,List.flatMap_cons,<-flat3r_set l r (by simpa using hr) y];have e:∀(t:List Value) (j:Nat) (v:Value),(rcC x++t).set ((r+1)*3+j) v=rcC x++t.set (r*3+j) v:=λt j v=>by
   rw[List.set_append_right _ _ (by simp[rcC];omega)];congr 2
   simp[rcC];omega
  have e0:∀(t:List Value) (v:Value),(rcC x++t).set ((r+1)*3) v=rcC x++t.set (r*3) v:=λt v=>e t 0 v;rw[e0,e,e]
theorem flat3r_len:∀l:List (MCl×Value),(l.flatMap rcC).length=l.length*3
 |[]=>rfl
 |x::l=>by rw[List.flatMap_cons,List.length_append,flat3r_len l];simp[rcC];omega
theorem RMem.updC{lo:Nat}{w:World}{M Ib:Nat}{st:ASt}{cs:List (MCl×Value)}{ds:List (AFr×Value)}{cv sv dv:Value}(h:RMem lo w M Ib st cs ds cv sv dv){r:Nat}(hr:r<st.cells.length)(x:MCl)(pv:Value)(hx:PtX (λb=>lo<=b∧b∉rB M cv sv dv ds) w pv (cP x)):∃g c,cv=.slice (some ⟨g,0,none⟩) st.cells.length c∧(∀j,j<3->(∃u,w.cell? ⟨g,r*3+j,none⟩=some u)∧w.frozen? ⟨g,r*3+j,none⟩=false)∧RMem lo (((w.setCell ⟨g,r*3,none⟩ (.int .u8 (kByte x.kind))).setCell ⟨g,r*3+1,none⟩ (.int .i64 (cN x))).setCell ⟨g,r*3+2,none⟩ pv) M Ib {st with cells:=st.cells.set r x} (cs.set r (x,pv)) ds cv sv dv∧AG (rB M cv sv dv ds) w (((w.setCell ⟨g,r*3,none⟩ (.int .u8 (kByte x.kind))).setCell ⟨g,r*3+1,none⟩ (.int .i64 (cN x))).setCell ⟨g,r*3+2,none⟩ pv):=by
 have hl:cs.length=st.cells.length:=by rw[<-h.hcs,List.length_map]
 rcases id h.cl.2 with⟨-,h2⟩|⟨g,c,cur,hv,h3⟩
 ·omega
 have hcl:=h.cl;subst hv;have hfl:=flat3r_len cs;have h5:=((((hcl.stored (r*3) (.int .u8 (kByte x.kind))).1.stored (r*3+1) (.int .i64 (cN x))).1.stored (r*3+2) pv).1);rw[flat3r_set cs r (by omega) (x,pv)]at h5;have hrg:=h.rg;have hnd:([M]++(vB (.slice (some ⟨g,0,none⟩) cs.length c)++(vB sv++(vB dv++dB ds)))).Nodup:=h.nd;have hd:=List.nodup_append.1 hnd;have hd2:=List.nodup_append.1 hd.2.1;have hgv:g∈vB (.slice (some ⟨g,0,none⟩) cs.length c):=by rw[vB_slice];exact List.mem_singleton.2 rfl
 have hnC:∀b,b=M∨b∈vB sv++(vB dv++dB ds)->b≠g:=λb hb e=>by
  subst e;rcases hb with hb|hb
  ·exact hd.2.2 b (List.mem_singleton.2 hb) b (List.mem_append_left _ hgv) rfl
  ·exact hd2.2.2 b hgv b hb rfl
 obtain⟨w4,hw4⟩:∃w4,(((w.setCell ⟨g,r*3,none⟩ (.int .u8 (kByte x.kind))).setCell ⟨g,r*3+1,none⟩ (.int .i64 (cN x))).setCell ⟨g,r*3+2,none⟩ pv)=w4:=⟨_,rfl⟩;have hblk:∀b,b≠g->w4.heap[b]?=w.heap[b]?:=λb hb=>by rw[<-hw4,Below.heap_setCell _ _ _ _ hb,Below.heap_setCell _ _ _ _ hb,Below.heap_setCell _ _ _ _ hb]
 have hgB:g∈rB M (.slice (some ⟨g,0,none⟩) cs.length c) sv dv ds:=List.mem_cons_of_mem _ (List.mem_append_left _ hgv);have hAG:AG (rB M (.slice (some ⟨g,0,none⟩) cs.length c) sv dv ds) w w4:=by
  rw[<-hw4];exact(((AG.refl _ _).set (Or.inl hgB) _).set (Or.inl hgB) _).set (Or.inl hgB) _
 have hsz:=hAG.size;have hptx:∀v l,PtX (λb=>lo<=b∧b∉rB M (.slice (some ⟨g,0,none⟩) cs.length c) sv dv ds) w v l->PtX (λb=>lo<=b∧b∉rB M (.slice (some ⟨g,0,none⟩) cs.length c) sv dv ds) w4 v l:=λv l hp=>hp.fr λb hb hbl=>⟨hb,hblk b λe=>hb.2 (e▸hgB)⟩;refine⟨g,c,by rw[hl],λj hj=>⟨?_,hcl.frozenAt _⟩,?_,?_⟩
 ·rw[hcl.cellAt (r*3+j) (by omega)];exact⟨_,List.getElem?_eq_getElem (by omega)⟩
 ·rw[hw4]at h5 ⊢;refine⟨h.m.of_block (hblk M (hnC M (Or.inl rfl))) hsz,by rw[List.length_set];exact h5,λy hy=>?_,row_fr h.sk λb hb=>hblk b (hnC b (Or.inr (List.mem_append_left _ hb))),row_fr h.dp λb hb=>hblk b (hnC b (Or.inr (List.mem_append_right _ (List.mem_append_left _ hb)))),λy hy=>row_fr (h.dk y hy) λb hb=>hblk b (hnC b (Or.inr (List.mem_append_right _ (List.mem_append_right _ (List.mem_flatMap.2 ⟨y,hy,hb⟩))))),by rw[List.map_set,h.hcs],h.hds,h.nd,h.ml⟩;rcases List.mem_or_eq_of_mem_set hy with hy|rfl
  ·exact hptx _ _ (h.fl y hy)
  ·exact hptx _ _ hx
 ·rw[hw4];exact hAG
theorem rDoesC{lo:Nat}{w:World}{M Ib:Nat}{B:List Nat}{gs:List LGlob}{st:ASt}(i:LIns)(hS:AtS gs st i)(h:RM lo w M Ib st B)(ap:Option Addr)(an ac:Nat)(hop:i.op=4∨i.op=5):
 Calls Tryz.prog 60 #[.pointer (some ⟨M,0,none⟩),.agg #[.int .i64 i.op,.int .i64 i.a,.slice ap an ac]] w λe w'=>RRes lo M Ib B w (rDoes i st) (.tuple #[]) e w':=by
 obtain⟨ii,hii,hij⟩:=Option.map_eq_some_iff.1 Tryz.intK;simp only[Prod.mk.injEq]at hij;obtain⟨hi0,hi1,hi2⟩:=hij;obtain⟨op,a,alts⟩:=i;simp only at hop ⊢;have hneed:=hS.need;have hlen:=hS.len;have hcl:=hS.cl;have ha:=hS.a;simp only at hneed ha;have hb0:Below w.heap.size w (w.alloc (Obj.cells #[.int .i64 op,.int .i64 a,.slice ap an ac] 43)):=(Below.refl _ _).alloc (Nat.le_refl _) _;obtain⟨W0,hW0⟩:∃W0,w.alloc (Obj.cells #[.int .i64 op,.int .i64 a,.slice ap an ac] 43)=W0:=⟨_,rfl⟩;have hC0:C3 W0 w.heap.size (.int .i64 op) (.int .i64 a) (.slice ap an ac):=by rw[<-hW0];exact C3.new w _ _ _ _
 rw[hW0]at hb0;have HOF:Hid (∀s' v e w',RRes lo M Ib B W0 s' v e w'->RRes lo M Ib B w s' (.tuple #[]) (.returned (.tuple #[])) w'):=λs' v e w' hr=>hr.of (AG.of_below hb0) (λb hb=>Or.inl hb) rfl;have hbM:w.heap.size≠M:=by
  obtain⟨cs,ds,cv,sv,dv,h1,-⟩:=id h;have:=h1.m.lt;omega
 obtain⟨i0,i1,i2,-⟩:=hC0;obtain⟨cs,ds,cv,sv,dv,h1,hBe⟩:=h.keep hb0;obtain⟨k,rfl⟩:∃k:Nat,a=(k:Int):=⟨a.toNat,by have:=ha (by omega);omega⟩;have hpos:0<st.now.s.length:=by rcases hop with rfl|rfl<;>simp[needR]at hneed<;>omega
 obtain⟨sg,sc,rfl,hcap,hsc⟩:=stack_slice h1.sk hpos;have hsM:sg≠M:=λe=>(List.nodup_cons.1 h1.nd).1 (List.mem_append_right _ (List.mem_append_left _ (by rw[vB_slice];exact List.mem_singleton.2 e.symm)));have hsx:∀j,j<st.now.s.length->W0.cell? ⟨sg,j,none⟩=some (.int .i64 ((st.now.s[j]?).getD 0)):=λj hj=>by
  rw[hsc j hj];simp only[iC,List.getElem?_map];rw[List.getElem?_eq_getElem hj];rfl
 have m2:=h1.m.at 2 rfl;have f2:=h1.m.fz 2;have HH:=hid h1;have HBE:=hid hBe;have HSK:=hid h1.sk;obtain⟨N,hN⟩:∃N,st.now.s.length=N:=⟨_,rfl⟩;have HN:=hid hN;rcases hop with rfl|rfl
 ·simp[needR]at hneed;have sl:=hsx (N-1) (by omega);have eX:rDoes ⟨4,(k:Int),alts⟩ st=rStk (st.now.s.take (N-1-k)++[(st.now.s[N-1]?).getD 0]) st:=by rw[<-hN];rfl
  rw[eX];have HOM:Hid (W0.ownsRow lo 3 1 (.slice (some ⟨sg,0,none⟩) (N-1-k) sc) (N-1-k) (iC (st.now.s.take (N-1-k)))):=by
   have:=owns_tk h1.sk (m:=N-1-k) (by omega);rw[iC_take]at this;exact this
  have HFI:Hid (∀Z w6 G c',Below W0.heap.size W0 Z->Z.grownBy w6 (Value.slice (some ⟨sg,0,none⟩) (N-1-k) sc).ownBlock->((Value.slice (some ⟨sg,0,none⟩) (N-1-k) sc).ownBlock=some G∨G=Z.heap.size)->w6.ownsRow lo 3 1 (.slice (some ⟨G,0,none⟩) (N-1-k+1) c') (N-1-k+1) (iC (st.now.s.take (N-1-k))++[.int .i64 ((st.now.s[N-1]?).getD 0)])->(w6.cell? ⟨M,2,none⟩=some (.slice (some ⟨sg,0,none⟩) N sc)∧w6.frozen? ⟨M,2,none⟩=false)∧Hid (RRes lo M Ib B w (rStk (st.now.s.take (N-1-k)++[(st.now.s[N-1]?).getD 0]) st) (.tuple #[]) (.returned (.tuple #[])) (w6.setCell ⟨M,2,none⟩ (.slice (some ⟨G,0,none⟩) (N-1-k+1) c')))):=λZ w6 G c' hbz hg hat hown=>by
   have h:=HH.out;have hA:AG (vB (.slice (some ⟨sg,0,none⟩) st.now.s.length sc)) W0 w6:=AG.append (v:=.slice (some ⟨sg,0,none⟩) st.now.s.length sc) hbz hg;have hz:=hbz.size;have hnM:M∉vB (.slice (some ⟨sg,0,none⟩) st.now.s.length sc):=λhm=>(List.nodup_cons.1 h.nd).1 (List.mem_append_right _ (List.mem_append_left _ hm));have hbM:=hA.block M h.m.lt hnM;have hln:(st.now.s.take (N-1-k)++[(st.now.s[N-1]?).getD 0]).length=N-1-k+1:=by simp;omega
   obtain⟨q1,q2,q3⟩:=h.turnS hA (sv':=.slice (some ⟨G,0,none⟩) (N-1-k+1) c') (s':=st.now.s.take (N-1-k)++[(st.now.s[N-1]?).getD 0]) (by rw[hln,iC_app];exact hown) (λb hb'=>by
    rw[vB_slice]at hb';obtain rfl:=List.mem_singleton.1 hb';rcases hat with e|e
    ·exact Or.inl (mem_vB.2 e)
    ·right;omega)
   rw[<-HBE.out]at q2 q3;have hc2:=cell_same hbM (h.m.at 2 rfl);rw[HN.out]at hc2;exact⟨⟨hc2,by rw[World.frozen?_of_block (a:=⟨M,2,none⟩) hbM];exact h.m.fz 2⟩,HOF.out _ (.tuple #[]) (.returned (.tuple #[])) _ ⟨rfl,q2,_,⟨cs,ds,_,_,dv,q1,rfl⟩,q3⟩⟩
  have HLO:=hid h1.lz;rw[hN]at m2 hneed hlen hcap;have t1:((N:Int)-1).toNat=N-1:=by omega
  have t2:(0:Int)<=(N:Int)-1:=by omega
  have t3:(N:Int)-1<(N:Int):=by omega
  have t4:((N:Int)-1-(k:Int)).toNat=N-1-k:=by omega
  have t5:(0:Int)<=(N:Int)-1-(k:Int):=by omega
  have t6:(N:Int)-1-(k:Int)<=(sc:Int):=by omega
  have t9:(k:Int)<=(N:Int)-1:=by omega
  have t7:IntKind.i64.wrap ((N:Int)-1)=(N:Int)-1:=i64w (by omega);have t8:IntKind.i64.wrap ((N:Int)-1-(k:Int))=(N:Int)-1-(k:Int):=i64w (by omega);clear h h1 hBe hsc hsx hN eX hb0;generalize (st.now.s[N-1]?).getD 0=x at*;have m2a:=λo=>alloc_old W0 o _ _ _ m2;have i1a:=λo=>alloc_old W0 o _ _ _ i1;go_enter Tryz.func60,Tryz.ntmps60;go_upto_region 21 with fail
  go_region_law
   (first
    |(refine step_append_lies _ rfl (.tmp 88) (.tmp 90) 81 rfl lo 3 ii _ 1 8 Tryz.underlying81 hii hi0 hi1 hi2 rfl (by omega) (.slice (some ⟨sg,0,none⟩) (N-1-k) sc) (N-1-k) (iC (st.now.s.take (N-1-k))) (by first|(simp[Act.eval];done)|(simp[Act.eval,Act.put];done)) (row_kp HOM.out ((Below.refl _ _).alloc (Nat.le_refl _) _).drew) ⟨W0.heap.size,0,none⟩ 1 1 [.int .i64 x] (by first|(simp[Act.eval];done)|(simp[Act.eval,Act.put];done)) rfl (by have h:=World.news_of_block (heap_alloc_new W0 (Obj.cells #[.int .i64 x] 3));simpa using h) (by intro u hu;simp at hu;rcases hu with rfl;rfl) (by omega) (by unfold maxLen;omega) (by omega) (by have:=HLO.out;simp;omega) _ rfl ?_;intro G1 c1 w7 hown hgrow hat hlt1;obtain⟨⟨k7,f7⟩,HRR⟩:=HFI.out _ _ _ _ ((Below.refl _ _).alloc (Nat.le_refl _) _).drew hgrow hat hown;clear hown hgrow hat hlt1))
  all_goals(try go_wp2)
  all_goals
   refine bE ?_;first|(with_reducible exact HRR.out)|(with_reducible exact HRR.out.drew)
 ·simp[needR]at hneed;obtain⟨n,rfl⟩:∃n,N=n+1:=⟨N-1,by omega⟩;obtain⟨r,hrc,er,-⟩:=hS.ref (st.now.s.length-2-k) (by omega);rw[hN]at er;have sl:W0.cell? ⟨sg,n,none⟩=some (.int .i64 ((st.now.s[n]?).getD 0)):=hsx n (by omega);have sr:W0.cell? ⟨sg,n-1-k,none⟩=some (.int .i64 (r:Int)):=by
   rw[hsx _ (by omega),show n-1-k=n+1-2-k by omega,er];rfl
  have eX:rDoes ⟨5,(k:Int),alts⟩ st=rStk (st.now.s.take n) {st with cells:=st.cells.set r ⟨5,0,(st.now.s[n]?).getD 0,0,[]⟩}:=by
   show rStk (st.now.s.take (st.now.s.length-1)) {st with cells:=st.cells.set ((st.now.s[st.now.s.length-2-k]?).getD 0).toNat ⟨5,0,(st.now.s[st.now.s.length-1]?).getD 0,0,[]⟩}=_;rw[hN,er];rfl
  rw[eX];rw[hN]at m2 hneed hlen hcap;have HTK:=hid (takeX m2 f2 sl (by omega) (by omega));obtain⟨q1,q2,q3⟩:=h1.less (m:=n) (by omega);obtain⟨w1,hw1⟩:∃w1,W0.setCell ⟨M,2,none⟩ (.slice (some ⟨sg,0,none⟩) n sc)=w1:=⟨_,rfl⟩;rw[hw1]at q1 q2 HTK;have sr1:w1.cell? ⟨sg,n-1-k,none⟩=some (.int .i64 (r:Int)):=by rw[<-hw1];exact cell_same (Below.heap_setCell _ _ _ _ hsM) sr
  have ib1:w1.cell? ⟨w.heap.size,1,none⟩=some (.int .i64 (k:Int)):=by rw[<-hw1];exact cell_same (Below.heap_setCell _ _ _ _ hbM) i1
  obtain⟨x,hx⟩:∃x,(st.now.s[n]?).getD 0=x:=⟨_,rfl⟩;rw[hx]at HTK sl ⊢;have hbz:Below w1.heap.size w1 (w1.alloc (.cells #[.int .i64 x] 3)):=(Below.refl _ _).alloc (Nat.le_refl _) _;have hz:=q1.keep hbz;obtain⟨g,c,hcv,hjj,u1,u2⟩:=hz.updC (r:=r) hrc ⟨5,0,x,0,[]⟩ (.slice (some ⟨w1.heap.size,0,none⟩) 1 1) ⟨some ⟨w1.heap.size,0,none⟩,1,rfl,λi hi=>⟨w1.heap.size,0,⟨⟨q1.lz,λhm=>by have:=(q1.rg _ hm).2;omega⟩,_,_,heap_alloc_new w1 _⟩,rfl,by
   have:i=0:=by have h2:i<1:=hi;omega
   subst this;exact alloc_cell w1 #[.int .i64 x] _ _ _ rfl⟩⟩
  subst hcv;have n1:=q1.m.at 1 rfl;obtain⟨⟨v0,g0⟩,y0⟩:=hjj 0 (by omega);obtain⟨⟨v1,g1⟩,y1⟩:=hjj 1 (by omega);obtain⟨⟨v2,g2⟩,y2⟩:=hjj 2 (by omega);rw[Nat.add_zero]at g0 y0;have HRR:Hid (RRes lo M Ib B w (rStk (st.now.s.take n) {st with cells:=st.cells.set r ⟨5,0,x,0,[]⟩}) (.tuple #[]) (.returned (.tuple #[])) ((((w1.alloc (.cells #[.int .i64 x] 3)).setCell ⟨g,r*3,none⟩ (.int .u8 110)).setCell ⟨g,r*3+1,none⟩ (.int .i64 0)).setCell ⟨g,r*3+2,none⟩ (.slice (some ⟨w1.heap.size,0,none⟩) 1 1))):=by
   refine HOF.out _ (.tuple #[]) (.returned (.tuple #[])) _ ⟨rfl,?_,_,⟨_,ds,_,_,dv,u1,rfl⟩,?_⟩
   ·rw[hBe];exact(q2.then hbz).trans u2 λb hb=>(q3 b hb)
   ·intro b hb;rw[hBe];exact q3 b hb
  clear h h1 hBe hsc hsx hN eX hb0 q1 q2 q3 hz u1 u2 hjj hw1 er hx sr i1;have t1:((n+1:Nat):Int)-2-(k:Int)=((n-1-k:Nat):Int):=by omega
  have t7:IntKind.i64.wrap (((n+1:Nat):Int)-2)=((n+1:Nat):Int)-2:=i64w (by omega);have t8:IntKind.i64.wrap (((n+1:Nat):Int)-2-(k:Int))=((n-1-k:Nat):Int):=by rw[t1];exact i64w (by omega)
  have t2:((n-1-k:Nat):Int)<((n+1:Nat):Int):=by omega
  have t4:(r:Int)<(st.cells.length:Int):=by omega
  have n1a:=λo=>alloc_old w1 o _ _ _ n1;have sra:=λo=>alloc_old w1 o _ _ _ sr1;have iba:=λo=>alloc_old w1 o _ _ _ ib1;go_enter Tryz.func60,Tryz.ntmps60;go_upto_region 24 with(first
   |(go_at_call 59;refine HTK.out.mono ?_;rintro e w2 ⟨rfl,rfl⟩))
  go_region
  all_goals(try go_wp2)
  all_goals
   refine bE ?_;first|(with_reducible exact HRR.out)|(with_reducible exact HRR.out.drew)
theorem rDoes_any{lo:Nat}{w:World}{M Ib:Nat}{B:List Nat}{gs:List LGlob}{st:ASt}(i:LIns)(hS:AtS gs st i)(h:RM lo w M Ib st B)(ap:Option Addr)(ac:Nat)(hal:AltsAt w (.slice ap i.alts.length ac) i.alts)(hall:i.alts.length<=1000000)(h8:i.op≠8)(h19:i.op≠19):
 Calls Tryz.prog 60 #[.pointer (some ⟨M,0,none⟩),.agg #[.int .i64 i.op,.int .i64 i.a,.slice ap i.alts.length ac]] w λe w'=>RRes lo M Ib B w (rDoes i st) (.tuple #[]) e w':=by
 have hop:=hS.op;by_cases h1:i.op=3∨i.op=6∨i.op=7
 ·exact rDoesB i hS h ap _ ac h1
 ·by_cases h2:i.op=4∨i.op=5
  ·exact rDoesC i hS h ap _ ac h2
  ·exact rDoesA i hS h ap ac hal hall (by omega)
section
variable {lo:Nat} {w w4:World} {M Ib:Nat} {st:ASt} {cs:List (MCl×Value)} {ds:List (AFr×Value)} {cv sv dv:Value}
theorem RMem.begun(h:RMem lo w M Ib st cs ds cv sv dv)(c:Int):RRes lo M Ib (rB M cv sv dv ds) w (aBegin c st) (.tuple #[]) (.returned (.tuple #[])) (((((w.alloc (.cells #[.int .i64 c] 3)).setCell ⟨M,2,none⟩ (.slice (some ⟨w.heap.size,0,none⟩) 1 1)).setCell ⟨M,3,none⟩ (.int .i64 0)).setCell ⟨M,4,none⟩ (.int .i64 0)).setCell ⟨M,5,none⟩ (.slice none 0 0)):=by
 have hrg:=h.rg;have hMl:=h.m.lt;have hnd:=List.nodup_cons.1 h.nd;have hb:Below w.heap.size w (w.alloc (.cells #[.int .i64 c] 3)):=(Below.refl _ _).alloc (Nat.le_refl _) _;obtain⟨W,hW⟩:∃W,(((((w.alloc (.cells #[.int .i64 c] 3)).setCell ⟨M,2,none⟩ (.slice (some ⟨w.heap.size,0,none⟩) 1 1)).setCell ⟨M,3,none⟩ (.int .i64 0)).setCell ⟨M,4,none⟩ (.int .i64 0)).setCell ⟨M,5,none⟩ (.slice none 0 0))=W:=⟨_,rfl⟩;have hne:∀b,b≠M->W.heap[b]?=(w.alloc (.cells #[.int .i64 c] 3)).heap[b]?:=λb hb=>by rw[<-hW,Below.heap_setCell _ _ _ _ hb,Below.heap_setCell _ _ _ _ hb,Below.heap_setCell _ _ _ _ hb,Below.heap_setCell _ _ _ _ hb]
 have hold:∀b,b<w.heap.size->b≠M->W.heap[b]?=w.heap[b]?:=λb h1 h2=>(hne b h2).trans (hb.block b h1);have hm0:FBL (w.alloc (.cells #[.int .i64 c] 3)) M (rL Ib cv sv dv st):=h.m.of_block (hb.block M hMl) hb.size;have hm:FBL W M (rL Ib cv (.slice (some ⟨w.heap.size,0,none⟩) 1 1) (.slice none 0 0) (aBegin c st)):=by
  rw[<-hW];exact(((hm0.set (i:=2) (by simp[rL]) _).set (i:=3) (by simp[rL]) _).set (i:=4) (by simp[rL]) _).set (i:=5) (by simp[rL]) _
 have hrow:(w.alloc (.cells #[.int .i64 c] 3)).ownsRow lo 3 1 (.slice (some ⟨w.heap.size,0,none⟩) 1 1) 1 (iC [c]):=⟨rfl,Or.inr ⟨w.heap.size,1,#[.int .i64 c],rfl,h.lz,heap_alloc_new w _,Nat.le_refl _,by decide,rfl,rfl⟩⟩;have hsz:w.heap.size+1=W.heap.size:=by rw[<-hW];simp
 have hBn:∀b∈rB M cv (.slice (some ⟨w.heap.size,0,none⟩) 1 1) (.slice none 0 0) [],b∈rB M cv sv dv ds∨w.heap.size<=b:=λb hb=>by
  rcases List.mem_cons.1 hb with rfl|hb
  ·exact Or.inl (List.mem_cons_self ..)
  rcases List.mem_append.1 hb with hb|hb
  ·exact Or.inl (List.mem_cons_of_mem _ (List.mem_append_left _ hb))
  rcases List.mem_append.1 hb with hb|hb
  ·rw[vB_slice]at hb;rw[List.mem_singleton.1 hb];exact Or.inr (Nat.le_refl _)
  ·simp[vB,Value.ownBlock,dB]at hb
 have hcvM:∀b∈vB cv,b≠M:=λb hb e=>hnd.1 (e▸List.mem_append_left _ hb);rw[hW];refine⟨rfl,?_,_,⟨cs,[],cv,_,_,⟨hm,row_fr h.cl λb hb=>hold b (hrg b (List.mem_cons_of_mem _ (List.mem_append_left _ hb))).2 (hcvM b hb),λx hx=>(h.fl x hx).fr λb ⟨g1,g2⟩ hbl=>⟨⟨g1,λhm=>?_⟩,hold b hbl λe=>g2 (e▸List.mem_cons_self ..)⟩,row_fr hrow λb hb=>hne b ?_,⟨rfl,Or.inl ⟨rfl,rfl⟩⟩,λx hx=>(by cases hx),h.hcs,rfl,?_,h.ml⟩,rfl⟩,hBn⟩
 ·rw[<-hW];have hs:M∈rB M cv sv dv ds∨w.heap.size<=M:=Or.inl (List.mem_cons_self ..);exact((((AG.of_below hb).set hs _).set hs _).set hs _).set hs _
 ·rcases hBn b hm with h1|h1
  ·exact g2 h1
  ·omega
 ·rw[vB_slice]at hb;rw[List.mem_singleton.1 hb];omega
 ·show(M::(vB cv++([w.heap.size]++([]++[])))).Nodup;rw[List.append_nil,List.append_nil];refine List.nodup_cons.2 ⟨λhm=>?_,List.nodup_append.2 ⟨vB_nd _,by simp,λa ha b hb e=>?_⟩⟩
  ·rcases List.mem_append.1 hm with h1|h1
   ·exact hcvM M h1 rfl
   ·have:=List.mem_singleton.1 h1;omega
  ·have:=(hrg a (List.mem_cons_of_mem _ (List.mem_append_left _ ha))).2;rw[e,List.mem_singleton.1 hb]at this;omega
theorem RMem.pushed(h:RMem lo w M Ib st cs ds cv sv dv)(hA:AG (vB dv) w w4){dv':Value}(hown:w4.ownsRow lo 83 3 dv' (ds.length+1) ((ds++[(st.now,sv)]).flatMap wtC))(hv:∀b∈vB dv',b∈vB dv∨w.heap.size<=b)(x:Int):
 RRes lo M Ib (rB M cv sv dv ds) w {st with now:=⟨[x],0,0⟩,dump:=st.dump++[st.now]} (.tuple #[]) (.returned (.tuple #[])) (((((w4.setCell ⟨M,5,none⟩ dv').alloc (.cells #[.int .i64 x] 3)).setCell ⟨M,2,none⟩ (.slice (some ⟨w4.heap.size,0,none⟩) 1 1)).setCell ⟨M,3,none⟩ (.int .i64 0)).setCell ⟨M,4,none⟩ (.int .i64 0)):=by
 have hrg:=h.rg;have hMl:=h.m.lt;have hz:=hA.size;have hnd:((M::(vB cv++vB sv))++(vB dv++dB ds)).Nodup:=by have:=h.nd;unfold rB at this;simpa using this
 have hrg':∀b∈(M::(vB cv++vB sv))++(vB dv++dB ds),b<w.heap.size:=λb hb=>(hrg b (by unfold rB;simpa using hb)).2;have hnd':((M::(vB cv++vB sv))++(vB dv'++dB ds)).Nodup:=nd_swap hnd (vB_nd _) hv hrg';have hd:=List.nodup_append.1 hnd;have hd2:=List.nodup_append.1 hd.2.1;have hnD:∀b,b∈(M::(vB cv++vB sv))∨b∈dB ds->b∉vB dv:=λb hb hm=>by
  rcases hb with hb|hb
  ·exact hd.2.2 b hb b (List.mem_append_left _ hm) rfl
  ·exact hd2.2.2 b hm b hb rfl
 have hdl:∀b∈vB dv',b<w4.heap.size:=λb hb=>own_lt hown (mem_vB.1 hb);have hMd:M∉vB dv':=λhm=>by
  have:=(List.nodup_append.1 hnd').2.2 M (List.mem_cons_self ..) M (List.mem_append_left _ hm);exact this rfl
 obtain⟨W,hW⟩:∃W,(((((w4.setCell ⟨M,5,none⟩ dv').alloc (.cells #[.int .i64 x] 3)).setCell ⟨M,2,none⟩ (.slice (some ⟨w4.heap.size,0,none⟩) 1 1)).setCell ⟨M,3,none⟩ (.int .i64 0)).setCell ⟨M,4,none⟩ (.int .i64 0))=W:=⟨_,rfl⟩;have hs5:(w4.setCell ⟨M,5,none⟩ dv').heap.size=w4.heap.size:=by simp
 have hne:∀b,b≠M->b≠w4.heap.size->W.heap[b]?=w4.heap[b]?:=λb h1 h2=>by
  rw[<-hW,Below.heap_setCell _ _ _ _ h1,Below.heap_setCell _ _ _ _ h1,Below.heap_setCell _ _ _ _ h1];by_cases hlt:b<w4.heap.size
  ·rw[heap_alloc_old _ _ (by rw[hs5];exact hlt),Below.heap_setCell _ _ _ _ h1]
  ·rw[Array.getElem?_eq_none (by simp;omega),Array.getElem?_eq_none (by omega)]
 have hold:∀b,b<w.heap.size->b≠M->b∉vB dv->W.heap[b]?=w.heap[b]?:=λb h1 h2 h3=>(hne b h2 (by omega)).trans (hA.block b h1 h3);have hm4:FBL w4 M (rL Ib cv sv dv st):=h.m.of_block (hA.block M hMl (hnD M (Or.inl (List.mem_cons_self ..)))) hz;have hm5:FBL (w4.setCell ⟨M,5,none⟩ dv') M ((rL Ib cv sv dv st).set 5 dv'):=hm4.set (i:=5) (by simp[rL]) _;have hm6:FBL ((w4.setCell ⟨M,5,none⟩ dv').alloc (.cells #[.int .i64 x] 3)) M ((rL Ib cv sv dv st).set 5 dv'):=hm5.of_block (heap_alloc_old _ _ hm5.lt) (by simp);have hm:FBL W M (rL Ib cv (.slice (some ⟨w4.heap.size,0,none⟩) 1 1) dv' {st with now:=⟨[x],0,0⟩,dump:=st.dump++[st.now]}):=by
  rw[<-hW];exact((hm6.set (i:=2) (by simp[rL]) _).set (i:=3) (by simp[rL]) _).set (i:=4) (by simp[rL]) _
 have hnew:W.heap[w4.heap.size]?=some (.cells #[.int .i64 x] 3):=by
  have hn:w4.heap.size≠M:=by omega
  rw[<-hW,Below.heap_setCell _ _ _ _ hn,Below.heap_setCell _ _ _ _ hn,Below.heap_setCell _ _ _ _ hn];have:=heap_alloc_new (w4.setCell ⟨M,5,none⟩ dv') (Obj.cells #[.int .i64 x] 3);rw[hs5]at this;exact this
 have hrow:W.ownsRow lo 3 1 (.slice (some ⟨w4.heap.size,0,none⟩) 1 1) 1 (iC [x]):=⟨rfl,Or.inr ⟨w4.heap.size,1,#[.int .i64 x],rfl,Nat.le_trans h.lz hz,hnew,Nat.le_refl _,by decide,rfl,rfl⟩⟩;have hsub:∀b∈rB M cv (.slice (some ⟨w4.heap.size,0,none⟩) 1 1) dv' (ds++[(st.now,sv)]),b∈rB M cv sv dv ds∨w.heap.size<=b:=λb hb=>by
  unfold rB at hb ⊢;rw[dB_snoc,vB_slice]at hb;simp only[List.mem_cons,List.mem_append,List.not_mem_nil,or_false]at hb ⊢;rcases hb with h1|h1|h1|h1|h1|h1
  ·exact Or.inl (Or.inl h1)
  ·exact Or.inl (Or.inr (Or.inl h1))
  ·right;omega
  ·rcases hv b h1 with h2|h2
   ·exact Or.inl (Or.inr (Or.inr (Or.inr (Or.inl h2))))
   ·exact Or.inr h2
  ·exact Or.inl (Or.inr (Or.inr (Or.inr (Or.inr h1))))
  ·exact Or.inl (Or.inr (Or.inr (Or.inl h1)))
 have hMc:∀b,b∈vB cv++vB sv->b≠M:=λb hb e=>(List.nodup_cons.1 hd.1).1 (e▸hb);have hMs:∀b∈dB ds,b≠M:=λb hb e=>hd.2.2 M (List.mem_cons_self ..) b (List.mem_append_right _ hb) e.symm;rw[hW];refine⟨rfl,?_,_,⟨cs,ds++[(st.now,sv)],cv,_,dv',⟨hm,row_fr h.cl λb hb=>hold b (hrg' b (by simp[hb])) (hMc b (List.mem_append_left _ hb)) (hnD b (Or.inl (by simp[hb]))),λy hy=>(h.fl y hy).fr λb ⟨g1,g2⟩ hbl=>⟨⟨g1,λhm=>?_⟩,hold b hbl (λe=>g2 (e▸List.mem_cons_self ..)) (λhm=>g2 (by unfold rB;simp[hm]))⟩,hrow,?_,λy hy=>?_,h.hcs,by rw[List.map_append,h.hds];rfl,?_,h.ml⟩,rfl⟩,hsub⟩
 ·rw[<-hW];have hs:M∈rB M cv sv dv ds∨w.heap.size<=M:=Or.inl (List.mem_cons_self ..);have hA2:AG (rB M cv sv dv ds) w w4:=⟨hA.os,hA.tape,hA.output,hA.size,λk hk hX=>hA.block k hk λhm=>hX (by unfold rB;simp[hm])⟩;have hb5:Below (w4.setCell ⟨M,5,none⟩ dv').heap.size (w4.setCell ⟨M,5,none⟩ dv') ((w4.setCell ⟨M,5,none⟩ dv').alloc (.cells #[.int .i64 x] 3)):=(Below.refl _ _).alloc (Nat.le_refl _) _;exact((((hA2.set hs _).then hb5).set hs _).set hs _).set hs _
 ·rcases hsub b hm with h1|h1
  ·exact g2 h1
  ·omega
 ·rw[List.length_append,List.length_singleton];exact row_fr hown λb hb=>hne b (λe=>hMd (e▸hb)) (by have:=hdl b hb;omega)
 ·rcases List.mem_append.1 hy with hy|hy
  ·exact row_fr (h.dk y hy) λb hb=>by
    have hbd:b∈dB ds:=List.mem_flatMap.2 ⟨y,hy,hb⟩;exact hold b (hrg' b (by simp[hbd])) (hMs b hbd) (hnD b (Or.inr hbd))
  ·rw[List.mem_singleton.1 hy];exact row_fr h.sk λb hb=>hold b (hrg' b (by simp[show b∈vB sv from hb])) (hMc b (List.mem_append_right _ hb)) (hnD b (Or.inl (by simp[show b∈vB sv from hb])))
 ·have hn:w4.heap.size∉(M::(vB cv++vB sv))++(vB dv'++dB ds):=λhm=>by
   rcases List.mem_append.1 hm with h1|h1
   ·have:=hrg' _ (List.mem_append_left _ h1);omega
   ·rcases List.mem_append.1 h1 with h1|h1
    ·have:=hdl _ h1;omega
    ·have:=hrg' _ (List.mem_append_right _ (List.mem_append_right _ h1));omega
  have h1:=List.nodup_cons.2 ⟨hn,hnd'⟩;refine(List.Perm.nodup_iff ?_).1 h1;unfold rB;rw[dB_snoc,vB_slice];show(w4.heap.size::(M::(vB cv++vB sv)++(vB dv'++dB ds))).Perm (M::(vB cv++([w4.heap.size]++(vB dv'++(dB ds++vB sv)))));simp only[List.cons_append,List.append_assoc,List.nil_append];refine(List.Perm.swap _ _ _).trans (List.Perm.cons _ ?_);refine List.Perm.trans (List.perm_middle (l₁:=vB cv)).symm ?_;refine List.Perm.append_left _ (List.Perm.cons _ ?_);rw[<-List.append_assoc,<-List.append_assoc];refine(List.Perm.append_right _ List.perm_append_comm).trans ?_;rw[List.append_assoc,List.append_assoc];exact List.Perm.append_left _ List.perm_append_comm
end
end Go.Proofs.YtahmgjjgikgpoaaGreatDoor

import Derived.Test.YtdpodpjdcfjfgaaGreatDoorSnJ
import Derived.Test.YtdpodpjdcfjfgaaGreatDoorSgJ
set_option maxRecDepth 100000
set_option maxHeartbeats 8000000
namespace Go.Proofs.YtdpodpjdcfjfgaaGreatDoor
open Go.RowKit Go.Sort
structure AtS (gs:List LGlob) (st:ASt) (i:LIns):Prop where
 len:st.now.s.length<=600000000
 cl:st.cells.length<=3000000
 used:0<=st.used∧st.used<=2000000
 need:needR i.op.toNat i.a<=(st.now.s.length:Int)
 op:0<=i.op∧i.op<21
 a:i.op≠0∧i.op≠1->0<=i.a∧i.a<=65535
 ref:∀k,k<st.now.s.length->∃r:Nat,∃h:r<st.cells.length,st.now.s[k]?=some (r:Int)∧CellOk gs.length st.cells.length st.cells[r]
theorem at_s{gs:List LGlob}{D:Nat->Nat->Int}{st:ASt}{i:LIns}{d:Int}(hG:ImgOk gs D)(hW:WfA gs D st)(hA:AtI gs D st i d):AtS gs st i:=by
 have h1:=hW.size;have h2:=hW.b.used;have h3:=hW.b.spare;have h4:=hW.b.steps;have h5:=hW.b.fuel;have h6:=hW.b.nc;have h7:=hG.few;obtain⟨⟨p0,p1⟩,-⟩:=hA.f;have hop:i.op=((i.op.toNat:Nat):Int):=by omega
 obtain⟨a1,-⟩:=insL_a hA.f hop (by omega);have hw:=wr_need hA.w;have hd:=hA.dl;refine⟨by omega,by omega,by omega,by omega,⟨p0,p1⟩,λe=>a1 (by omega),λk hk=>?_⟩;have hr:=hW.s _ (List.getElem_mem hk);obtain⟨hi,-,-⟩:=cAt_ok hW.b hr;refine⟨_,hi,?_,hW.b.cells _ (List.getElem_mem hi)⟩;rw[List.getElem?_eq_getElem hk];congr 1
 omega
theorem AtS.two{gs:List LGlob}{st:ASt}{i:LIns}(h:AtS gs st i)(h2:2<=st.now.s.length):∃l r:Nat,∃hl:l<st.cells.length,∃hr:r<st.cells.length,st.now.s=st.now.s.take (st.now.s.length-2)++[(l:Int),(r:Int)]∧CellOk gs.length st.cells.length st.cells[l]∧CellOk gs.length st.cells.length st.cells[r]∧cAt st ((st.now.s[st.now.s.length-2]?).getD 0)=st.cells[l]∧cAt st ((st.now.s[st.now.s.length-1]?).getD 0)=st.cells[r]:=by
 obtain⟨l,hl,el,cl⟩:=h.ref (st.now.s.length-2) (by omega);obtain⟨r,hr,er,cr⟩:=h.ref (st.now.s.length-1) (by omega);refine⟨l,r,hl,hr,?_,cl,cr,by rw[el];simp[cAt,hl],by rw[er];simp[cAt,hr]⟩;have e1:st.now.s.drop (st.now.s.length-2)=[(l:Int),(r:Int)]:=by
  rw[List.drop_eq_getElem_cons (by omega),List.drop_eq_getElem_cons (by omega)];rw[List.getElem?_eq_getElem (by omega)]at el er;have e3:st.now.s[st.now.s.length-2+1]'(by omega)=(r:Int):=by
   rw[<-Option.some.inj er];congr 1
   omega
  rw[Option.some.inj el,e3,List.drop_eq_nil_of_le (by omega)]
 rw[<-e1,List.take_append_drop]
theorem AtS.one{gs:List LGlob}{st:ASt}{i:LIns}(h:AtS gs st i)(h2:1<=st.now.s.length):∃r:Nat,∃hr:r<st.cells.length,st.now.s=st.now.s.take (st.now.s.length-1)++[(r:Int)]∧CellOk gs.length st.cells.length st.cells[r]:=by
 obtain⟨r,hr,er,cr⟩:=h.ref (st.now.s.length-1) (by omega);refine⟨r,hr,?_,cr⟩;have e1:st.now.s.drop (st.now.s.length-1)=[(r:Int)]:=by
  rw[List.drop_eq_getElem_cons (by omega)];rw[List.getElem?_eq_getElem (by omega)]at er;rw[Option.some.inj er,List.drop_eq_nil_of_le (by omega)]
 rw[<-e1,List.take_append_drop]
theorem rDoesA{lo:Nat}{w:World}{M Ib:Nat}{B:List Nat}{gs:List LGlob}{st:ASt}(i:LIns)(hS:AtS gs st i)(h:RM lo w M Ib st B)(ap:Option Addr)(ac:Nat)(hal:AltsAt w (.slice ap i.alts.length ac) i.alts)(hall:i.alts.length<=1000000)
 (hop:i.op=0∨i.op=1∨i.op=2∨i.op=18∨i.op=20∨i.op=9∨i.op=10∨i.op=11∨i.op=12∨i.op=13∨i.op=14∨i.op=15∨i.op=16∨i.op=17):
 Calls Tryz.prog 172 #[.pointer (some ⟨M,0,none⟩),.agg #[.int .i64 i.op,.int .i64 i.a,.slice ap i.alts.length ac]] w λe w'=>RRes lo M Ib B w (rDoes i st) (.tuple #[]) e w':=by
 obtain⟨op,a,alts⟩:=i;simp only at hal hall hop ⊢;have hneed:=hS.need;have hlen:=hS.len;have hcl:=hS.cl;have hus:=hS.used;have ha:=hS.a;simp only at hneed ha;have hb0:Below w.heap.size w (w.alloc (Obj.cells #[.int .i64 op,.int .i64 a,.slice ap alts.length ac] 127)):=(Below.refl _ _).alloc (Nat.le_refl _) _;obtain⟨W0,hW0⟩:∃W0,w.alloc (Obj.cells #[.int .i64 op,.int .i64 a,.slice ap alts.length ac] 127)=W0:=⟨_,rfl⟩;have hC0:C3 W0 w.heap.size (.int .i64 op) (.int .i64 a) (.slice ap alts.length ac):=by rw[<-hW0];exact C3.new w _ _ _ _
 rw[hW0]at hb0;have HB0:=hid hb0;have HC0:=hid hC0;have hM0:=h.keep hb0;have HM0:=hid hM0;have HOF:Hid (∀s' v e w',RRes lo M Ib B W0 s' v e w'->RRes lo M Ib B w s' (.tuple #[]) (.returned (.tuple #[])) w'):=λs' v e w' hr=>hr.of (AG.of_below hb0) (λb hb=>Or.inl hb) rfl;have hnb:w.heap.size∉B:=λhm=>by have:=h.lts _ hm;omega
 obtain⟨i0,i1,i2,-⟩:=hC0;obtain⟨p,N,sc,hN,m2⟩:∃p N sc,st.now.s.length=N∧W0.cell? ⟨M,2,none⟩=some (.slice p N sc):=by
  obtain⟨cs,ds,cv,sv,dv,h1,-⟩:=hM0;obtain⟨p,sc,rfl⟩:=row_slice h1.sk;exact⟨p,_,sc,rfl,h1.m.at 2 rfl⟩
 have hal0:=hal.keep hb0;clear h hal hM0 hb0;rcases hop with rfl|rfl|rfl|rfl|rfl|rfl|rfl|rfl|rfl|rfl|rfl|rfl|rfl|rfl
 ·have HRO:=hid (rRoom_any 1 (by omega) HM0.out (by omega));have HX:Hid (rDoes ⟨0,a,alts⟩ st=if rRoomB 1 st then rMake ⟨1,a,0,0,[]⟩ (rRoomS 1 st) else rEnd 2 st):=rfl;cases hrb:rRoomB 1 st with
  |false=>
   have e2:rRoomS 1 st=rEnd 2 st:=by unfold rRoomS;rw[hrb];rfl
   rw[hrb,e2]at HRO;have HX2:Hid (rDoes ⟨0,a,alts⟩ st=rEnd 2 st):=by show _=_;rw[HX.out,hrb];rfl
   clear HX hrb e2;go_enter Tryz.func172,Tryz.ntmps172;go_wp2_with (first
    |(go_at_call 230;refine HRO.out.mono ?_;intro e w1 hr;obtain⟨rfl,-⟩:=id hr;have HRR:=hid (HOF.out _ _ _ _ hr);clear hr))
   refine bE ?_;rw[HX2.out];exact HRR.out
  |true=>
   have e2:rRoomS 1 st={st with used:=st.used+1}:=by unfold rRoomS;rw[hrb];rfl
   rw[hrb,e2]at HRO;have HX2:Hid (rDoes ⟨0,a,alts⟩ st=rMake ⟨1,a,0,0,[]⟩ {st with used:=st.used+1}):=by show _=_;rw[HX.out,hrb,e2];rfl
   have HNX:Hid (∀w1,RRes lo M Ib B W0 {st with used:=st.used+1} (.bool true) (.returned (.bool true)) w1->w1.cell? ⟨w.heap.size,1,none⟩=some (.int .i64 a)∧Hid (Calls Tryz.prog 231 #[.pointer (some ⟨M,0,none⟩),.agg #[.int .u8 105,.int .i64 a,.slice none 0 0]] w1 λe w2=>e=.returned (.tuple #[])∧Hid (RRes lo M Ib B w (rMake ⟨1,a,0,0,[]⟩ {st with used:=st.used+1}) (.tuple #[]) (.returned (.tuple #[])) w2))):=λw1 hr=>by
    obtain⟨-,hA,B1,hM1,hB1⟩:=hr;refine⟨(HC0.out.ag hA hnb).c1,?_⟩;refine(rMake_any ⟨1,a,0,0,[]⟩ (.slice none 0 0) ⟨none,0,rfl,λi hi=>absurd hi (by simp[cP])⟩ hM1 (by show st.now.s.length<=_;omega) (by show st.cells.length<=_;omega)).mono λe w2 hr2=>?_;have he:=hr2.1;exact⟨he,HOF.out _ _ _ _ (hr2.of hA hB1 (r':=.tuple #[]) (e':=.returned (.tuple #[])) rfl)⟩
   clear HX hrb e2;go_enter Tryz.func172,Tryz.ntmps172;go_wp2_with (first
    |(go_at_call 230;refine HRO.out.mono ?_;intro e w1 hr;obtain⟨rfl,-⟩:=id hr;obtain⟨y1,HMK⟩:=HNX.out w1 hr;clear hr)
    |(go_at_call 231;refine HMK.out.mono ?_;rintro e w2 ⟨rfl,HRR⟩))
   refine bE ?_;rw[HX2.out];exact HRR.out
 ·have HCA:=hid ((rPut_any a HM0.out (by omega)).mono λe w1 hr=>(⟨hr.1,HOF.out _ _ _ _ hr⟩:e=.returned (.tuple #[])∧Hid (RRes lo M Ib B w (rStk (st.now.s++[a]) st) (.tuple #[]) (.returned (.tuple #[])) w1)));rw[show rDoes ⟨1,a,alts⟩ st=rStk (st.now.s++[a]) st from rfl];go_enter Tryz.func172,Tryz.ntmps172;go_wp2_with (first
   |(go_at_call 232;refine HCA.out.mono ?_;rintro e w1 ⟨rfl,HRR⟩))
  refine bE ?_;exact HRR.out
 ·obtain⟨k,rfl⟩:∃k:Nat,a=(k:Int):=⟨a.toNat,by have:=ha (by omega);omega⟩;simp[needR]at hneed;obtain⟨sg,sc',hpe,hx⟩:∃sg sc',(Value.slice p N sc)=.slice (some ⟨sg,0,none⟩) N sc'∧W0.cell? ⟨sg,N-1-k,none⟩=some (.int .i64 ((st.now.s[N-1-k]?).getD 0)):=by
   obtain⟨cs,ds,cv,sv,dv,h1,-⟩:=HM0.out;obtain⟨sg,sc',rfl,-,hsc⟩:=stack_slice h1.sk (by omega);have e:=h1.m.at 2 rfl;rw[m2]at e;rw[hN]at e;refine⟨sg,sc',Option.some.inj e,?_⟩;rw[hsc _ (by omega)];simp only[iC,List.getElem?_map];rw[List.getElem?_eq_getElem (by omega)];rfl
  cases hpe;have HCA:=hid ((rPut_any ((st.now.s[N-1-k]?).getD 0) HM0.out (by omega)).mono λe w1 hr=>(⟨hr.1,HOF.out _ _ _ _ hr⟩:e=.returned (.tuple #[])∧Hid (RRes lo M Ib B w (rStk (st.now.s++[(st.now.s[N-1-k]?).getD 0]) st) (.tuple #[]) (.returned (.tuple #[])) w1)));rw[show rDoes ⟨2,(k:Int),alts⟩ st=rStk (st.now.s++[(st.now.s[N-1-k]?).getD 0]) st by rw[<-hN];rfl];have t1:((N:Int)-1-(k:Int)).toNat=N-1-k:=by omega
  have t2:(0:Int)<=(N:Int)-1-(k:Int):=by omega
  have t3:(N:Int)-1-(k:Int)<(N:Int):=by omega
  rw[hN]at hlen hneed;clear hN;generalize (st.now.s[N-1-k]?).getD 0=x at*;go_enter Tryz.func172,Tryz.ntmps172;go_wp2_with (first
   |(go_at_call 232;refine HCA.out.mono ?_;rintro e w1 ⟨rfl,HRR⟩))
  refine bE ?_;exact HRR.out
 ·obtain⟨⟨⟨u4,y4⟩,f4⟩,hrr⟩:=HM0.out.setAt (Below.refl _ _) a;have HRR:=hid (HOF.out _ _ _ _ hrr);rw[show rDoes ⟨18,a,alts⟩ st={st with now:={st.now with at_:=a}} from rfl];clear hrr;go_enter Tryz.func172,Tryz.ntmps172;go_wp2;refine bE ?_;exact HRR.out
 ·have HCA:=hid ((rEnd_any 4 HM0.out).mono λe w1 hr=>(⟨hr.1,HOF.out _ _ _ _ hr⟩:e=.returned (.tuple #[])∧Hid (RRes lo M Ib B w (rEnd 4 st) (.tuple #[]) (.returned (.tuple #[])) w1)));rw[show rDoes ⟨20,a,alts⟩ st=rEnd 4 st from rfl];go_enter Tryz.func172,Tryz.ntmps172;go_wp2_with (first
   |(go_at_call 116;refine HCA.out.mono ?_;rintro e w1 ⟨rfl,HRR⟩))
  refine bE ?_;exact HRR.out
 iterate 6
  rotate_left
 ·have HCA:=hid ((rPack_any a (ha (by omega)) ap alts.length ac HM0.out (by simp[needR]at hneed;omega) (by omega) (by omega) (by omega) (by simp[needR]at hneed;omega)).mono λe w1 hr=>(⟨hr.1,HOF.out _ _ _ _ hr⟩:e=.returned (.tuple #[])∧Hid (RRes lo M Ib B w (pkS a st) (.tuple #[]) (.returned (.tuple #[])) w1)));rw[show rDoes ⟨15,a,alts⟩ st=pkS a st from rfl];go_enter Tryz.func172,Tryz.ntmps172;go_wp2_with (first
   |(go_at_call 233;refine HCA.out.mono ?_;rintro e w1 ⟨rfl,HRR⟩))
  refine bE ?_;exact HRR.out
 ·simp[needR]at hneed;obtain⟨r,hr,hs,hck⟩:=hS.one (by omega);have HCA:=hid ((rSplit_any a ap alts.length ac HM0.out hs hr hck.k hck.fl (by simp;omega)).mono λe w1 hr=>(⟨hr.1,HOF.out _ _ _ _ hr⟩:e=.returned (.tuple #[])∧Hid (RRes lo M Ib B w (rSplit a st) (.tuple #[]) (.returned (.tuple #[])) w1)));rw[show rDoes ⟨16,a,alts⟩ st=rSplit a st from rfl];clear hs;go_enter Tryz.func172,Tryz.ntmps172;go_wp2_with (first
   |(go_at_call 233;refine HCA.out.mono ?_;rintro e w1 ⟨rfl,HRR⟩))
  refine bE ?_;exact HRR.out
 ·simp[needR]at hneed;obtain⟨r,hr,hs,hck⟩:=hS.one (by omega);have HCA:=hid ((rFork_any a alts ap ac hal0 hall HM0.out hs hr hck.k (by simp;omega)).mono λe w1 hr=>(⟨hr.1,HOF.out _ _ _ _ hr⟩:e=.returned (.tuple #[])∧Hid (RRes lo M Ib B w (rFork alts st) (.tuple #[]) (.returned (.tuple #[])) w1)));rw[show rDoes ⟨17,a,alts⟩ st=rFork alts st from rfl];clear hs;go_enter Tryz.func172,Tryz.ntmps172;go_wp2_with (first
   |(go_at_call 233;refine HCA.out.mono ?_;rintro e w1 ⟨rfl,HRR⟩))
  refine bE ?_;exact HRR.out
 all_goals
  simp[needR]at hneed;obtain⟨l,r,hl,hr,hs,hcl2,hcr,el,er⟩:=hS.two (by omega)
 ·have HCA:=hid ((rReckons_any 9 (by omega) HM0.out (by omega) (by omega) (by omega) hs hl hr hcl2.k hcr.k).mono λe w1 hr=>(⟨hr.1,HOF.out _ _ _ _ hr⟩:e=.returned (.tuple #[])∧Hid (RRes lo M Ib B w (rReck 9 (st.now.s.take (st.now.s.length-2)) st.cells[l] st.cells[r] st) (.tuple #[]) (.returned (.tuple #[])) w1)));rw[show rDoes ⟨9,a,alts⟩ st=rReck 9 (st.now.s.take (st.now.s.length-2)) st.cells[l] st.cells[r] st by rw[<-el,<-er];rfl];clear hs el er;go_enter Tryz.func172,Tryz.ntmps172;go_wp2_with (first
   |(go_at_call 234;refine HCA.out.mono ?_;rintro e w1 ⟨rfl,HRR⟩))
  refine bE ?_;exact HRR.out
 ·have HCA:=hid ((rReckons_any 10 (by omega) HM0.out (by omega) (by omega) (by omega) hs hl hr hcl2.k hcr.k).mono λe w1 hr=>(⟨hr.1,HOF.out _ _ _ _ hr⟩:e=.returned (.tuple #[])∧Hid (RRes lo M Ib B w (rReck 10 (st.now.s.take (st.now.s.length-2)) st.cells[l] st.cells[r] st) (.tuple #[]) (.returned (.tuple #[])) w1)));rw[show rDoes ⟨10,a,alts⟩ st=rReck 10 (st.now.s.take (st.now.s.length-2)) st.cells[l] st.cells[r] st by rw[<-el,<-er];rfl];clear hs el er;go_enter Tryz.func172,Tryz.ntmps172;go_wp2_with (first
   |(go_at_call 234;refine HCA.out.mono ?_;rintro e w1 ⟨rfl,HRR⟩))
  refine bE ?_;exact HRR.out
 ·have HCA:=hid ((rReckons_any 11 (by omega) HM0.out (by omega) (by omega) (by omega) hs hl hr hcl2.k hcr.k).mono λe w1 hr=>(⟨hr.1,HOF.out _ _ _ _ hr⟩:e=.returned (.tuple #[])∧Hid (RRes lo M Ib B w (rReck 11 (st.now.s.take (st.now.s.length-2)) st.cells[l] st.cells[r] st) (.tuple #[]) (.returned (.tuple #[])) w1)));rw[show rDoes ⟨11,a,alts⟩ st=rReck 11 (st.now.s.take (st.now.s.length-2)) st.cells[l] st.cells[r] st by rw[<-el,<-er];rfl];clear hs el er;go_enter Tryz.func172,Tryz.ntmps172;go_wp2_with (first
   |(go_at_call 234;refine HCA.out.mono ?_;rintro e w1 ⟨rfl,HRR⟩))
  refine bE ?_;exact HRR.out
 ·have HCA:=hid ((rReckons_any 12 (by omega) HM0.out (by omega) (by omega) (by omega) hs hl hr hcl2.k hcr.k).mono λe w1 hr=>(⟨hr.1,HOF.out _ _ _ _ hr⟩:e=.returned (.tuple #[])∧Hid (RRes lo M Ib B w (rReck 12 (st.now.s.take (st.now.s.length-2)) st.cells[l] st.cells[r] st) (.tuple #[]) (.returned (.tuple #[])) w1)));rw[show rDoes ⟨12,a,alts⟩ st=rReck 12 (st.now.s.take (st.now.s.length-2)) st.cells[l] st.cells[r] st by rw[<-el,<-er];rfl];clear hs el er;go_enter Tryz.func172,Tryz.ntmps172;go_wp2_with (first
   |(go_at_call 234;refine HCA.out.mono ?_;rintro e w1 ⟨rfl,HRR⟩))
  refine bE ?_;exact HRR.out
 ·have HCA:=hid ((rReckons_any 13 (by omega) HM0.out (by omega) (by omega) (by omega) hs hl hr hcl2.k hcr.k).mono λe w1 hr=>(⟨hr.1,HOF.out _ _ _ _ hr⟩:e=.returned (.tuple #[])∧Hid (RRes lo M Ib B w (rReck 13 (st.now.s.take (st.now.s.length-2)) st.cells[l] st.cells[r] st) (.tuple #[]) (.returned (.tuple #[])) w1)));rw[show rDoes ⟨13,a,alts⟩ st=rReck 13 (st.now.s.take (st.now.s.length-2)) st.cells[l] st.cells[r] st by rw[<-el,<-er];rfl];clear hs el er;go_enter Tryz.func172,Tryz.ntmps172;go_wp2_with (first
   |(go_at_call 234;refine HCA.out.mono ?_;rintro e w1 ⟨rfl,HRR⟩))
  refine bE ?_;exact HRR.out
 ·have HCA:=hid ((rReckons_any 14 (by omega) HM0.out (by omega) (by omega) (by omega) hs hl hr hcl2.k hcr.k).mono λe w1 hr=>(⟨hr.1,HOF.out _ _ _ _ hr⟩:e=.returned (.tuple #[])∧Hid (RRes lo M Ib B w (rReck 14 (st.now.s.take (st.now.s.length-2)) st.cells[l] st.cells[r] st) (.tuple #[]) (.returned (.tuple #[])) w1)));rw[show rDoes ⟨14,a,alts⟩ st=rReck 14 (st.now.s.take (st.now.s.length-2)) st.cells[l] st.cells[r] st by rw[<-el,<-er];rfl];clear hs el er;go_enter Tryz.func172,Tryz.ntmps172;go_wp2_with (first
   |(go_at_call 234;refine HCA.out.mono ?_;rintro e w1 ⟨rfl,HRR⟩))
  refine bE ?_;exact HRR.out
theorem rDoesB{lo:Nat}{w:World}{M Ib:Nat}{B:List Nat}{gs:List LGlob}{st:ASt}(i:LIns)(hS:AtS gs st i)(h:RM lo w M Ib st B)(ap:Option Addr)(an ac:Nat)(hop:i.op=3∨i.op=6∨i.op=7):
 Calls Tryz.prog 172 #[.pointer (some ⟨M,0,none⟩),.agg #[.int .i64 i.op,.int .i64 i.a,.slice ap an ac]] w λe w'=>RRes lo M Ib B w (rDoes i st) (.tuple #[]) e w':=by
 obtain⟨op,a,alts⟩:=i;simp only at hop ⊢;have hneed:=hS.need;have hlen:=hS.len;have hcl:=hS.cl;have hus:=hS.used;have ha:=hS.a;simp only at hneed ha;have hb0:Below w.heap.size w (w.alloc (Obj.cells #[.int .i64 op,.int .i64 a,.slice ap an ac] 127)):=(Below.refl _ _).alloc (Nat.le_refl _) _;obtain⟨W0,hW0⟩:∃W0,w.alloc (Obj.cells #[.int .i64 op,.int .i64 a,.slice ap an ac] 127)=W0:=⟨_,rfl⟩;have hC0:C3 W0 w.heap.size (.int .i64 op) (.int .i64 a) (.slice ap an ac):=by rw[<-hW0];exact C3.new w _ _ _ _
 rw[hW0]at hb0;have HB0:=hid hb0;have HC0:=hid hC0;have hM0:=h.keep hb0;have HM0:=hid hM0;have HOF:Hid (∀s' v e w',RRes lo M Ib B W0 s' v e w'->RRes lo M Ib B w s' (.tuple #[]) (.returned (.tuple #[])) w'):=λs' v e w' hr=>hr.of (AG.of_below hb0) (λb hb=>Or.inl hb) rfl;have hnb:w.heap.size∉B:=λhm=>by have:=h.lts _ hm;omega
 obtain⟨i0,i1,i2,-⟩:=hC0;obtain⟨cs,ds,cv,sv,dv,h1,hBe⟩:=hM0;obtain⟨p,sc,rfl⟩:∃p sc,sv=.slice p st.now.s.length sc:=row_slice h1.sk;have m2:=h1.m.at 2 rfl;clear h hb0;rcases hop with rfl|rfl|rfl
 ·simp[needR]at hneed;have HRO:=hid (rRoom_any 1 (by omega) HM0.out (by omega));have HX:Hid (rDoes ⟨3,a,alts⟩ st=if rRoomB 1 st then rMake ⟨2,0,(st.now.s[st.now.s.length-1]?).getD 0,(st.now.s[st.now.s.length-2]?).getD 0,[]⟩ (rStk (st.now.s.take (st.now.s.length-2)) (rRoomS 1 st)) else rEnd 2 st):=rfl;cases hrb:rRoomB 1 st with
  |false=>
   have e2:rRoomS 1 st=rEnd 2 st:=by unfold rRoomS;rw[hrb];rfl
   rw[hrb,e2]at HRO;have HX2:Hid (rDoes ⟨3,a,alts⟩ st=rEnd 2 st):=by show _=_;rw[HX.out,hrb];rfl
   clear HX hrb e2 h1;go_enter Tryz.func172,Tryz.ntmps172;go_wp2_with (first
    |(go_at_call 230;refine HRO.out.mono ?_;intro e w1 hr;obtain⟨rfl,-⟩:=id hr;have HRR:=hid (HOF.out _ _ _ _ hr);clear hr))
   refine bE ?_;rw[HX2.out];exact HRR.out
  |true=>
   have e2:rRoomS 1 st={st with used:=st.used+1}:=by unfold rRoomS;rw[hrb];rfl
   rw[hrb,e2]at HRO;obtain⟨x,f,hx,hf,hs,-,-,el,er⟩:=hS.two (by omega);have hsx:(st.now.s[st.now.s.length-2]?).getD 0=(x:Int):=by
    rw[hs];simp
   have hsf:(st.now.s[st.now.s.length-1]?).getD 0=(f:Int):=by
    rw[hs];simp
   have HX2:Hid (rDoes ⟨3,a,alts⟩ st=rMake ⟨2,0,(f:Int),(x:Int),[]⟩ (rStk (st.now.s.take (st.now.s.length-2)) {st with used:=st.used+1})):=by show _=_;rw[HX.out,hrb,e2,hsx,hsf];rfl
   have HNX:Hid (∀w1,RRes lo M Ib B W0 {st with used:=st.used+1} (.bool true) (.returned (.bool true)) w1->Calls Tryz.prog 171 #[.pointer (some ⟨M,0,none⟩)] w1 λe w2=>e=.returned (.int .i64 (f:Int))∧Hid (Calls Tryz.prog 171 #[.pointer (some ⟨M,0,none⟩)] w2 λe w3=>e=.returned (.int .i64 (x:Int))∧Hid (Calls Tryz.prog 231 #[.pointer (some ⟨M,0,none⟩),.agg #[.int .u8 97,.int .i64 0,.slice (some ⟨w3.heap.size,0,none⟩) 2 2]] (w3.alloc (.cells #[.int .i64 (f:Int),.int .i64 (x:Int)] 3)) λe w4=>e=.returned (.tuple #[])∧Hid (RRes lo M Ib B w (rMake ⟨2,0,(f:Int),(x:Int),[]⟩ (rStk (st.now.s.take (st.now.s.length-2)) {st with used:=st.used+1})) (.tuple #[]) (.returned (.tuple #[])) w4)))):=λw1 hr1=>by
    obtain⟨-,hA1,B1,hM1,hB1⟩:=hr1;have hs1:({st with used:=st.used+1}:ASt).now.s=(st.now.s.take (st.now.s.length-2)++[(x:Int)])++[(f:Int)]:=by show st.now.s=_;rw[List.append_assoc];exact hs
    refine(rTake_any hM1 hs1 (by show st.now.s.length<=_;omega)).mono λe w2 hr2=>?_;have he2:=hr2.1;obtain⟨-,hA2,B2,hM2,hB2⟩:=hr2.of hA1 hB1 (r':=.tuple #[]) (e':=.returned (.tuple #[])) rfl;refine⟨he2,(rTake_any (s:=st.now.s.take (st.now.s.length-2)) (x:=(x:Int)) hM2 rfl (by show(st.now.s.take (st.now.s.length-2)++[(x:Int)]).length<=_;simp;omega)).mono λe w3 hr3=>?_⟩;have he3:=hr3.1;obtain⟨-,hA3,B3,hM3,hB3⟩:=hr3.of hA2 hB2 (r':=.tuple #[]) (e':=.returned (.tuple #[])) rfl;have hb4:Below w3.heap.size w3 (w3.alloc (.cells #[.int .i64 (f:Int),.int .i64 (x:Int)] 3)):=(Below.refl _ _).alloc (Nat.le_refl _) _;refine⟨he3,(rMake_any ⟨2,0,(f:Int),(x:Int),[]⟩ (.slice (some ⟨w3.heap.size,0,none⟩) 2 2) ⟨some ⟨w3.heap.size,0,none⟩,2,rfl,λi hi=>?_⟩ (hM3.keep hb4) (by show(st.now.s.take _).length<=_;simp;omega) (by show st.cells.length<=_;omega)).mono λe w4 hr4=>?_⟩
    ·have hi2:i<2:=hi;refine⟨w3.heap.size,0,⟨⟨hM3.lows.1,λhm=>by have:=hM3.lts _ hm;omega⟩,_,_,heap_alloc_new w3 _⟩,rfl,?_⟩;rcases(show i=0∨i=1 by omega) with rfl|rfl
     ·exact alloc_cell w3 #[.int .i64 (f:Int),.int .i64 (x:Int)] _ _ _ rfl
     ·exact alloc_cell w3 #[.int .i64 (f:Int),.int .i64 (x:Int)] _ _ _ rfl
    ·have he4:=hr4.1;exact⟨he4,HOF.out _ _ _ _ (hr4.of (hA3.then hb4) hB3 (r':=.tuple #[]) (e':=.returned (.tuple #[])) rfl)⟩
   clear HX hrb e2 h1 hs hsx hsf el er;go_enter Tryz.func172,Tryz.ntmps172;go_wp2_with (first
    |(go_at_call 230;refine HRO.out.mono ?_;intro e w1 hr;obtain⟨rfl,-⟩:=id hr;have HT1:=hid (HNX.out w1 hr);clear hr HNX)
    |(go_at_call 171;refine HT1.out.mono ?_;rintro e w2 ⟨rfl,HT2⟩;clear HT1)
    |(go_at_call 171;refine HT2.out.mono ?_;rintro e w3 ⟨rfl,HMK⟩;clear HT2)
    |(go_at_call 231;refine HMK.out.mono ?_;rintro e w4 ⟨rfl,HRR⟩))
   refine bE ?_;rw[HX2.out];exact HRR.out
 ·obtain⟨k,rfl⟩:∃k:Nat,a=(k:Int):=⟨a.toNat,by have:=ha (by omega);omega⟩;simp[needR]at hneed;have f2:=h1.m.fz 2;obtain⟨q1,q2,q3⟩:=h1.less (m:=st.now.s.length-k) (by omega);have HRR:Hid (RRes lo M Ib B w (rStk (st.now.s.take (st.now.s.length-k)) st) (.tuple #[]) (.returned (.tuple #[])) (W0.setCell ⟨M,2,none⟩ (.slice p (st.now.s.length-k) sc))):=by
   rw[<-hBe]at q2 q3;exact HOF.out _ (.tuple #[]) (.returned (.tuple #[])) _ ⟨rfl,q2,_,⟨cs,ds,cv,_,dv,q1,rfl⟩,q3⟩
  rw[show rDoes ⟨6,(k:Int),alts⟩ st=rStk (st.now.s.take (st.now.s.length-k)) st from rfl];have hle:st.now.s.length-k<=sc:=by
   rcases h1.sk.2 with⟨-,e0⟩|⟨g',cap,cur,hv,-,-,h4,-⟩
   ·omega
   ·cases hv;omega
  generalize hN:st.now.s.length=N at*;have t1:((N:Int)-(k:Int)).toNat=N-k:=by omega
  have t2:(0:Int)<=(N:Int)-(k:Int):=by omega
  have t3:(N:Int)-(k:Int)<=(sc:Int):=by omega
  clear h1 q1 q2 q3 hN;go_enter Tryz.func172,Tryz.ntmps172;go_wp2;refine bE ?_;exact HRR.out
 ·obtain⟨k,rfl⟩:∃k:Nat,a=(k:Int):=⟨a.toNat,by have:=ha (by omega);omega⟩;have hk1:=ha (by omega);have HRO:=hid (rRoom_any (k:Int) (by omega) HM0.out (by omega));have HX:Hid (rDoes ⟨7,(k:Int),alts⟩ st=if rRoomB (k:Int) st then rMakeN k (rRoomS (k:Int) st) else rEnd 2 st):=rfl;clear h1 hBe;cases hrb:rRoomB (k:Int) st with
  |false=>
   have e2:rRoomS (k:Int) st=rEnd 2 st:=by unfold rRoomS;rw[hrb];rfl
   rw[hrb,e2]at HRO;have HX2:Hid (rDoes ⟨7,(k:Int),alts⟩ st=rEnd 2 st):=by show _=_;rw[HX.out,hrb];rfl
   have HBX:Hid (∀w1,RRes lo M Ib B W0 (rEnd 2 st) (.bool false) (.returned (.bool false)) w1->w1.cell? ⟨w.heap.size,1,none⟩=some (.int .i64 (k:Int))):=λw1 hr=>(HC0.out.ag hr.2.1 hnb).c1;clear HX hrb e2;go_enter Tryz.func172,Tryz.ntmps172;go_wp2_with (first
    |(go_at_call 230;refine HRO.out.mono ?_;intro e w1 hr;obtain⟨rfl,-⟩:=id hr;have y1:=HBX.out w1 hr;have HRR:=hid (HOF.out _ _ _ _ hr);clear hr))
   refine wp_loop_rounds 1 ?_;rw[rounds_succ];go_wp2;all_goals
    refine bE ?_;rw[HX2.out];exact HRR.out
  |true=>
   have e2:rRoomS (k:Int) st={st with used:=st.used+(k:Int)}:=by unfold rRoomS;rw[hrb];rfl
   rw[hrb,e2]at HRO;have HX2:Hid (rDoes ⟨7,(k:Int),alts⟩ st=rMakeN k {st with used:=st.used+(k:Int)}):=by show _=_;rw[HX.out,hrb,e2];rfl
   have HBX:Hid (∀w1 s' v e,RRes lo M Ib B W0 s' v e w1->w1.cell? ⟨w.heap.size,1,none⟩=some (.int .i64 (k:Int))):=λw1 s' v e hr=>(HC0.out.ag hr.2.1 hnb).c1;have HMK:Hid (∀j wr,j<k->RRes lo M Ib B W0 (rMakeN j {st with used:=st.used+(k:Int)}) (.tuple #[]) (.returned (.tuple #[])) wr->Calls Tryz.prog 231 #[.pointer (some ⟨M,0,none⟩),.agg #[.int .u8 104,.int .i64 0,.slice none 0 0]] wr λe w2=>e=.returned (.tuple #[])∧Hid (RRes lo M Ib B W0 (rMakeN (j+1) {st with used:=st.used+(k:Int)}) (.tuple #[]) (.returned (.tuple #[])) w2)):=λj wr hj hr=>by
    obtain⟨-,hA,B1,hM1,hB1⟩:=hr;have e3:=rMakeN_eq j {st with used:=st.used+(k:Int)};refine(rMake_any ⟨0,0,0,0,[]⟩ (.slice none 0 0) ⟨none,0,rfl,λi hi=>absurd hi (by simp[cP])⟩ hM1 (by rw[e3];simp;omega) (by rw[e3];simp;omega)).mono λe w2 hr2=>?_;have he:=hr2.1;exact⟨he,hr2.of hA hB1 rfl⟩
   clear HX hrb e2;go_enter Tryz.func172,Tryz.ntmps172;go_wp2_with (first
    |(go_at_call 230;refine HRO.out.mono ?_;intro e w1 hr;obtain⟨rfl,-⟩:=id hr;have HRR:=hid (hr.of (AG.refl _ _) (λb hb=>Or.inl hb) (r':=.tuple #[]) (e':=.returned (.tuple #[])) rfl);clear hr))
   go_loopw [13] (λv13 wr=>∃j,j<=k∧v13=.int .i64 (j:Int)∧Hid (RRes lo M Ib B W0 (rMakeN j {st with used:=st.used+(k:Int)}) (.tuple #[]) (.returned (.tuple #[])) wr)) (λv13 _=>k-(intOf v13).toNat)
   case atStart=>exact⟨0,Nat.zero_le _,rfl,HRR.out⟩
   case round=>
    rename World=>wr
    clear HRR;obtain⟨j,hja,rfl,HRJ⟩:=hrel;have y1:=HBX.out wr _ _ _ HRJ.out;by_cases hj:j<k
    ·have hji:(j:Int)<(k:Int):=by omega
     have HMJ:=hid (HMK.out j wr hj HRJ.out);go_wp2_with (first
      |(go_at_call 231;refine HMJ.out.mono ?_;rintro e w2 ⟨rfl,HR2⟩))
     exact⟨⟨j+1,by omega,by go_num,HR2.out⟩,by simp[intOf];omega⟩
    ·obtain rfl:j=k:=by omega
     have hji:¬(j:Int)<(j:Int):=by omega
     go_wp2;refine bE ?_;rw[HX2.out];exact HOF.out _ _ _ _ HRJ.out
end Go.Proofs.YtdpodpjdcfjfgaaGreatDoor

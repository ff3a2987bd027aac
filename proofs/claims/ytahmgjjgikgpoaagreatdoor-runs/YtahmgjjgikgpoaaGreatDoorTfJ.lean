import Derived.Test.YtahmgjjgikgpoaaGreatDoorRnJ
import Derived.Laws.CopyOwn
import Derived.Test.YtahmgjjgikgpoaaGreatDoorRkJ
set_option maxRecDepth 100000
set_option maxHeartbeats 4000000
namespace Go.Proofs.YtahmgjjgikgpoaaGreatDoor
open Go.RowKit Go.Sort
def packS(tag:Int)(n:Nat)(st:MSt):MSt:=putS ⟨3,tag,0,0,st.stack.drop (st.stack.length-n)⟩ (dropS n st)
theorem ref_make(n:Nat)(hn:n<=1000000)(w:World):(Instr.makeSlice 113 (.int .i64 (n:Int)) (.int .i64 (n:Int))).run Tryz.prog w=.ok (.slice (some ⟨w.heap.size,0,none⟩) n n) (w.alloc (.cells (madeCells #[.int .i32 0] n) 111)):=by
 obtain⟨i,hi,hii⟩:=Option.map_eq_some_iff.1 Tryz.refJ;simp only[Prod.mk.injEq]at hii;obtain⟨hz0,hz1,hz2⟩:=hii;rw[run_make (P:=Tryz.prog) w 113 111 i _ Tryz.underlying113 hi hz0 .i64 .i64 n n (by omega) (by omega) (by rw[hz2];omega) (by omega),hz1];simp[Value.cells]
theorem made_list(n:Nat):(madeCells #[Value.int .i32 0] n).toList=List.replicate n (.int .i32 0):=by
 simp[madeCells,Nat.mod_one,List.map_const']
theorem pack_any{lo:Nat}{w:World}{M Pb:Nat}{st:MSt}{B:List Nat}(tag:Int)(n:Nat)(hn:n<=1000)(h:MM lo w M Pb st B)(hm:Mtr st)(hl:st.stack.length<=1000000000)(hcl:st.cells.length<=1000000000)(hne:0<st.stack.length)(hns:n<=st.stack.length):
 Calls Tryz.prog 108 #[.pointer (some ⟨M,0,none⟩),.int .i64 tag,.int .i64 (n:Int)] w λe w'=>MRes lo M Pb B w (packS tag n st) (.tuple #[]) e w':=by
 have hmk:=ref_make n (by omega) w;have hMM:=h;obtain⟨cs,ds,cv,sv,kv,dv,tv,h,hBe⟩:=h;obtain⟨sg,sc,rfl,hcap,hsc⟩:=stack_slice h.sk hne;obtain⟨W0,hW0⟩:∃W0,w.alloc (.cells (madeCells #[.int .i32 0] n) 111)=W0:=⟨_,rfl⟩;have hb0:Below w.heap.size w W0:=by rw[<-hW0];exact(Below.refl _ _).alloc (Nat.le_refl _) _
 have hg0:W0.heap[w.heap.size]?=some (.cells (List.replicate n (Value.int .i32 0)).toArray 111 (0,0)):=by
  rw[<-hW0,heap_alloc_new,<-made_list]
 have HG0:Hid (W0.drew.heap[w.heap.size]?=some (.cells (List.replicate n (Value.int .i32 0)).toArray 111 (0,0))):=hg0;have hlt0:w.heap.size<W0.heap.size:=by rw[<-hW0];simp
 have HFL:=hid (rfl:st.stack.drop (st.stack.length-n)=st.stack.drop (st.stack.length-n));obtain⟨fl,hfl⟩:∃fl,st.stack.drop (st.stack.length-n)=fl:=⟨_,rfl⟩;have hfll:fl.length=n:=by rw[<-hfl];simp;omega
 have HSRC:Hid (∀j v,(rfC fl)[j]?=some v->W0.drew.cell? ((⟨sg,st.stack.length-n,none⟩:Addr).add j)=some v):=λj v hv=>by
  have hj:j<n:=by
   have:=(List.getElem?_eq_some_iff.1 hv).1;simpa[rfC,hfll]using this
  rw[add_off];show W0.cell? _=_;refine cell_keep hb0 ?_;rw[hsc _ (by omega),<-hv,<-hfl];simp[rfC]
 have HNX:Hid (∀w4,w4.heap[w.heap.size]?=some (.cells (splice (List.replicate n (Value.int .i32 0)) 0 (rfC fl)).toArray 111 (0,0))->Below w.heap.size w w4->w.heap.size<w4.heap.size->Calls Tryz.prog 106 #[.pointer (some ⟨M,0,none⟩),.int .i64 (n:Int)] w4 λe w5=>e=.returned (.tuple #[])∧Hid (Calls Tryz.prog 104 #[.pointer (some ⟨M,0,none⟩),.agg #[.int .u8 3,.int .i64 tag,.int .i32 0,.int .i32 0,.slice (some ⟨w.heap.size,0,none⟩) n n]] w5 λe w'=>e=.returned (.tuple #[])∧Hid (MRes lo M Pb B w (packS tag n st) (.tuple #[]) (.returned (.tuple #[])) w'))):=λw4 hg4 hb4 hz4=>by
  have hsp:splice (List.replicate n (Value.int .i32 0)) 0 (rfC fl)=rfC fl:=by
   have:(rfC fl).length=n:=by simp[rfC,hfll]
   simp[splice,this]
  rw[hsp]at hg4;refine(drop_any n (hMM.keep hb4) hns (by omega)).mono λe w5 hr=>?_;have he:=hr.1;obtain⟨-,hA5,B5,hM5,hB5⟩:=hr;have hgB:w.heap.size∉B:=λhm=>by
   have:=(h.rg _ (hBe▸hm)).2;omega
  have hg5:w5.heap[w.heap.size]?=some (.cells (rfC fl).toArray 111 (0,0)):=by rw[hA5.block _ hz4 hgB,hg4]
  have hz:=h.lz;have hgB5:w.heap.size∉B5:=λhm=>by
   rcases hB5 _ hm with h1|h1
   ·exact hgB h1
   ·omega
  refine⟨he,?_⟩;refine(put_any2 ⟨3,tag,0,0,fl⟩ (.slice (some ⟨w.heap.size,0,none⟩) n n) ⟨some ⟨w.heap.size,0,none⟩,n,by rw[hfll],λi hi=>⟨w.heap.size,0,⟨hz,hgB5⟩,rfl,?_⟩⟩ ⟨_,_,_,rfl⟩ hM5 ⟨hm.su,hm.sm,hm.mu,hm.mm⟩ ?_ hcl).mono λe w' hr=>?_
  ·have:=World.news_of_block hg5 (0+i) (.int .i32 fl[i]) (by simp[rfC,hi]);rw[add_off]at this;simpa using this
  ·simp[dropS];omega
  ·have he:=hr.1;refine⟨he,?_⟩;have hps:packS tag n st=putS ⟨3,tag,0,0,fl⟩ (dropS n st):=by unfold packS;rw[hfl]
   rw[hps];have hA:=(AG.of_below hb4 (X:=B)).trans hA5 λb hb=>Or.inl hb;exact hr.of hA (λb hb=>(hB5 b hb).imp id λh1=>Nat.le_trans hb4.size h1) rfl
 have k2:W0.drew.cell? ⟨M,2,none⟩=some (.slice (some ⟨sg,0,none⟩) st.stack.length sc):=(h.keep hb0).m.at 2 rfl;have hsz:(Tryz.prog.info? 111).map (·.size)=some 1:=by kernel_rfl
 have HB0:=hid hb0;have i0:(0:Int)<=(st.stack.length:Int)-(n:Int):=by omega
 have i1:(st.stack.length:Int)-(n:Int)<=(st.stack.length:Int):=by omega
 have i2:((st.stack.length:Int)-(n:Int)).toNat=st.stack.length-n:=by omega
 have i3:IntKind.i64.wrap ((st.stack.length:Int)-(n:Int))=(st.stack.length:Int)-(n:Int):=i64w (by omega);have i4:st.stack.length-(st.stack.length-n)=n:=by omega
 clear h hMM hsc hBe hm hb0 hg0 hfl HFL;go_enter Tryz.func108,Tryz.ntmps108;go_upto_region 1 with fail
 clear hmk hW0;go_region_law
  (first
   |(refine step_copy_splice rfl (.tmp 9) (.tmp 21) 113 113 rfl 111 Tryz.underlying113 hsz (some ⟨w.heap.size,0,none⟩) (if sc=st.stack.length-n then some ⟨sg,0,none⟩ else some ⟨sg,st.stack.length-n,none⟩) n n n (sc-(st.stack.length-n)) (by first|(simp[Act.eval];done)|(simp[Act.eval,Act.put];done)) (by first|(simp[Act.eval];done)|(simp[Act.eval,Act.put];done)) w.heap.size 0 (List.replicate n (.int .i32 0)) 111 HG0.out (rfC fl) (by simp[rfC,hfll]) (λhp=>⟨rfl,⟨sg,st.stack.length-n,none⟩,by rw[if_neg];simp[rfC,hfll]at hp;omega,HSRC.out⟩) (by simp[rfC,hfll]) (by intro u hu;simp[rfC]at hu;obtain⟨z,-,rfl⟩:=hu;rfl) w.heap.size w HB0.out.drew (Nat.le_refl _) ?_;intro w4 hg4 hb4;have HDR:=hid (HNX.out w4 hg4.out hb4 (by have:=hg4.out;exact(Array.getElem?_eq_some_iff.1 this).1));clear hg4 hb4))
 all_goals
  go_wp2_with (first
   |(go_at_call 106;refine HDR.out.mono ?_;rintro e w5 ⟨rfl,HPT⟩)
   |(go_at_call 104;refine HPT.out.mono ?_;rintro e w6 ⟨rfl,HRR⟩))
 all_goals
  refine bE ?_;exact HRR.out
theorem do_out{lo:Nat}{w:World}{M Pb:Nat}{st:MSt}{B:List Nat}(h:MM lo w M Pb st B)(hm:Mtr st)(hsb:stepM st=false):
 Calls Tryz.prog 77 #[.pointer (some ⟨M,0,none⟩)] w λe w'=>MRes lo M Pb B w (stopS 1 st) (.tuple #[]) e w':=by
 have HS:=hid (step_any h hm);have e:stepS st=stopS 1 st:=by unfold stepS;rw[hsb];rfl
 rw[hsb,e]at HS;clear h hsb hm e;go_enter Tryz.func77,Tryz.ntmps77;go_wp2_with (first
  |(go_at_call 55;refine HS.out.mono ?_;intro e w1 hr;obtain⟨rfl,-⟩:=id hr;have HRR:=hid hr;clear hr))
 refine bE ?_;exact HRR.out.of (AG.refl _ _) (λb hb=>Or.inl hb) rfl
theorem pack0_any{lo:Nat}{w:World}{M Pb:Nat}{st:MSt}{B:List Nat}(tag:Int)(h:MM lo w M Pb st B)(hm:Mtr st)(hcl:st.cells.length<=1000000000)(hs:st.stack=[]):
 Calls Tryz.prog 108 #[.pointer (some ⟨M,0,none⟩),.int .i64 tag,.int .i64 0] w λe w'=>MRes lo M Pb B w (packS tag 0 st) (.tuple #[]) e w':=by
 have hmk:=ref_make 0 (by omega) w;rw[show((0:Nat):Int)=0 from rfl]at hmk;have hMM:=h;obtain⟨cs,ds,cv,sv,kv,dv,tv,h,hBe⟩:=h;obtain⟨sp,sc,rfl⟩:=row_slice h.sk;have hnil:sp=none->sc=0:=λe=>by
  subst e;rcases h.sk.2 with⟨h1,h2⟩|⟨g,cap,cur,hv,-⟩
  ·simp at h1;exact h1.2
  ·cases hv
 obtain⟨W0,hW0⟩:∃W0,w.alloc (.cells (madeCells #[.int .i32 0] 0) 111)=W0:=⟨_,rfl⟩;have hb0:Below w.heap.size w W0:=by rw[<-hW0];exact(Below.refl _ _).alloc (Nat.le_refl _) _
 have hg0:W0.heap[w.heap.size]?=some (.cells ([]:List Value).toArray 111 (0,0)):=by
  have hm0:madeCells #[Value.int .i32 0] 0=#[]:=Array.toList_inj.1 (by rw[made_list];rfl);rw[<-hW0,heap_alloc_new,hm0]
 have HG0:Hid (W0.drew.heap[w.heap.size]?=some (.cells ([]:List Value).toArray 111 (0,0))):=hg0;have hlt0:w.heap.size<W0.heap.size:=by rw[<-hW0];simp
 have HNX:Hid (∀w4,Below w.heap.size w w4->Calls Tryz.prog 106 #[.pointer (some ⟨M,0,none⟩),.int .i64 0] w4 λe w5=>e=.returned (.tuple #[])∧Hid (Calls Tryz.prog 104 #[.pointer (some ⟨M,0,none⟩),.agg #[.int .u8 3,.int .i64 tag,.int .i32 0,.int .i32 0,.slice (some ⟨w.heap.size,0,none⟩) 0 0]] w5 λe w'=>e=.returned (.tuple #[])∧Hid (MRes lo M Pb B w (packS tag 0 st) (.tuple #[]) (.returned (.tuple #[])) w'))):=λw4 hb4=>by
  refine(drop_any 0 (hMM.keep hb4) (by omega) (by rw[hs];simp)).mono λe w5 hr=>?_;have he:=hr.1;obtain⟨-,hA5,B5,hM5,hB5⟩:=hr;refine⟨he,?_⟩;refine(put_any2 ⟨3,tag,0,0,[]⟩ (.slice (some ⟨w.heap.size,0,none⟩) 0 0) ⟨some ⟨w.heap.size,0,none⟩,0,rfl,λi hi=>absurd hi (by simp)⟩ ⟨_,_,_,rfl⟩ hM5 ⟨hm.su,hm.sm,hm.mu,hm.mm⟩ ?_ hcl).mono λe w' hr=>?_
  ·simp[dropS,hs]
  ·have he:=hr.1;refine⟨he,?_⟩;have hps:packS tag 0 st=putS ⟨3,tag,0,0,[]⟩ (dropS 0 st):=by unfold packS;simp
   rw[hps];have hA:=(AG.of_below hb4 (X:=B)).trans hA5 λb hb=>Or.inl hb;exact hr.of hA (λb hb=>(hB5 b hb).imp id λh1=>Nat.le_trans hb4.size h1) rfl
 have k2:W0.drew.cell? ⟨M,2,none⟩=some (.slice sp 0 sc):=by
  have:=(h.keep hb0).m.at 2 rfl;rw[hs]at this;exact this
 have hsz:(Tryz.prog.info? 111).map (·.size)=some 1:=by kernel_rfl
 have HB0:=hid hb0;have i3:IntKind.i64.wrap 0=0:=i64w (by omega);clear h hMM hBe hm hb0 hg0 hs;cases sp with
 |none=>
  obtain rfl:=hnil rfl;clear hnil;go_enter Tryz.func108,Tryz.ntmps108;go_upto_region 1 with fail
  clear hmk hW0;go_region_law
   (first
    |(refine step_copy_splice rfl (.tmp 9) (.tmp 21) 113 113 rfl 111 Tryz.underlying113 hsz (some ⟨w.heap.size,0,none⟩) none 0 0 0 0 (by first|(simp[Act.eval];done)|(simp[Act.eval,Act.put];done)) (by first|(simp[Act.eval];done)|(simp[Act.eval,Act.put];done)) w.heap.size 0 [] 111 HG0.out [] (by simp) (λhp=>absurd hp (by simp)) (by simp) (by simp) w.heap.size w HB0.out.drew (Nat.le_refl _) ?_;intro w4 hg4 hb4;have HDR:=hid (HNX.out w4 hb4);clear hg4 hb4))
  all_goals
   go_wp2_with (first
    |(go_at_call 106;refine HDR.out.mono ?_;rintro e w5 ⟨rfl,HPT⟩)
    |(go_at_call 104;refine HPT.out.mono ?_;rintro e w6 ⟨rfl,HRR⟩))
  all_goals
   refine bE ?_;exact HRR.out
 |some sa=>
  clear hnil;have i1:(0:Int)<=(sc:Int):=by omega
  go_enter Tryz.func108,Tryz.ntmps108;go_upto_region 1 with fail
  clear hmk hW0;go_region_law
   (first
    |(refine step_copy_splice rfl (.tmp 9) (.tmp 21) 113 113 rfl 111 Tryz.underlying113 hsz (some ⟨w.heap.size,0,none⟩) (some sa) 0 0 0 sc (by first|(simp[Act.eval];done)|(simp[Act.eval,Act.put];done)) (by first|(simp[Act.eval];done)|(simp[Act.eval,Act.put];done)) w.heap.size 0 [] 111 HG0.out [] (by simp) (λhp=>absurd hp (by simp)) (by simp) (by simp) w.heap.size w HB0.out.drew (Nat.le_refl _) ?_;intro w4 hg4 hb4;have HDR:=hid (HNX.out w4 hb4);clear hg4 hb4))
  all_goals
   go_wp2_with (first
    |(go_at_call 106;refine HDR.out.mono ?_;rintro e w5 ⟨rfl,HPT⟩)
    |(go_at_call 104;refine HPT.out.mono ?_;rintro e w6 ⟨rfl,HRR⟩))
  all_goals
   refine bE ?_;exact HRR.out
def gAt(gs:List LGlob)(g:Int):LGlob:=(gs[g.toNat]?).getD ⟨⟨#[]⟩,0,false,[]⟩
def cAt(st:ASt)(r:Int):MCl:=(st.cells[r.toNat]?).getD ⟨0,0,0,0,[]⟩
def iAt(gs:List LGlob)(st:ASt):LIns:=((gAt gs st.now.g).code[st.now.at_.toNat]?).getD ⟨0,0,[]⟩
abbrev AR:=ASt×Option Int
def rArgs(a:Nat)(st:ASt):List Int:=(st.now.s.drop (st.now.s.length-1-a)).take a
def rEnter(gs:List LGlob)(g:Int)(st:ASt):ASt:=
 let a:=(gAt gs g).arity.toNat
 if (rArgs a st).all (λr=>decide ((cAt st r).kind=2)) then {st with now:=⟨stk (λr=>(cAt st r).right) st.now.s a,g,0⟩} else rEnd 3 st
def rVal(v:Int)(st:ASt):AR:=match st.dump.getLast? with
 |none=>(st,some v)
 |some f=>({st with now:={f with s:=f.s++[v]},dump:=st.dump.dropLast},none)
def aLook(gs:List LGlob):Nat->ASt->AR
 |0,st=>(rStepS st,none)
 |n+1,st=>
  if rStepB st then
   let s1:ASt:={st with steps:=st.steps+1}
   let top:=(st.now.s.getLast?).getD 0
   let c:=cAt st top
   if c.kind=5 then aLook gs n (rStk (st.now.s.dropLast++[c.left]) s1)
   else if c.kind=2 then aLook gs n (rStk (st.now.s++[c.left]) s1)
   else if c.kind=0 then (rEnd 7 s1,none)
   else if c.kind=4 then
    if (gAt gs c.n).arity<(st.now.s.length:Int) then (rEnter gs c.n s1,none) else rVal (st.now.s.headD 0) s1
   else if 1<st.now.s.length then (rEnd 5 s1,none)
   else rVal top s1
  else (rStepS st,none)
def aLookF(gs:List LGlob)(st:ASt):AR:=aLook gs (st.fuel-st.steps).toNat st
def rMakeN:Nat->ASt->ASt
 |0,st=>st
 |n+1,st=>rMake ⟨0,0,0,0,[]⟩ (rMakeN n st)
def rFork(alts:List LAlt)(st:ASt):ASt:=
 let c:=cAt st ((st.now.s.getLast?).getD 0)
 if c.kind≠3 then rEnd 3 st else match alts.find? (λa=>decide (a.tag=c.n)) with
  |some a=>{st with now:={st.now with at_:=a.to}}
  |none=>rEnd 4 st
def rSplit(n:Int)(st:ASt):ASt:=
 let c:=cAt st ((st.now.s.getLast?).getD 0)
 if c.kind≠3∨(c.fields.length:Int)≠n then rEnd 3 st else rStk (st.now.s.dropLast++c.fields) st
def rDoes(i:LIns)(st:ASt):ASt:=
 let s:=st.now.s
 let n:=s.length
 let a:=i.a.toNat
 if i.op=0 then (if rRoomB 1 st then rMake ⟨1,i.a,0,0,[]⟩ (rRoomS 1 st) else rEnd 2 st)
 else if i.op=1 then rStk (s++[i.a]) st
 else if i.op=2 then rStk (s++[(s[n-1-a]?).getD 0]) st
 else if i.op=3 then (if rRoomB 1 st then rMake ⟨2,0,(s[n-1]?).getD 0,(s[n-2]?).getD 0,[]⟩ (rStk (s.take (n-2)) (rRoomS 1 st)) else rEnd 2 st)
 else if i.op=4 then rStk (s.take (n-1-a)++[(s[n-1]?).getD 0]) st
 else if i.op=5 then rStk (s.take (n-1)) {st with cells:=st.cells.set ((s[n-2-a]?).getD 0).toNat ⟨5,0,(s[n-1]?).getD 0,0,[]⟩}
 else if i.op=6 then rStk (s.take (n-a)) st
 else if i.op=7 then (if rRoomB i.a st then rMakeN a (rRoomS i.a st) else rEnd 2 st)
 else if i.op=15 then (if rRoomB 1 st then rMake ⟨3,i.a / 256,0,0,s.drop (n-(i.a % 256).toNat)⟩ (rStk (s.take (n-(i.a % 256).toNat)) (rRoomS 1 st)) else rEnd 2 st)
 else if i.op=16 then rSplit i.a st
 else if i.op=17 then rFork i.alts st
 else if i.op=18 then {st with now:={st.now with at_:=i.a}}
 else if i.op=20 then rEnd 4 st
 else rReck i.op (s.take (n-2)) (cAt st ((s[n-2]?).getD 0)) (cAt st ((s[n-1]?).getD 0)) st
def rNext(st:ASt):ASt:={st with steps:=st.steps+1,now:={st.now with at_:=st.now.at_+1}}
def rEval(st:ASt):ASt:={st with dump:=st.dump++[{st.now with s:=st.now.s.dropLast}],now:=⟨[(st.now.s.getLast?).getD 0],0,0⟩}
def aDo(gs:List LGlob)(st:ASt):AR:=
 if rStepB st then
  let i:=iAt gs st
  if i.op=19 then aLookF gs (rNext st) else if i.op=8 then aLookF gs (rEval (rNext st)) else (rDoes i (rNext st),none)
 else (rStepS st,none)
def aGo(gs:List LGlob):Nat->AR->AR
 |0,r=>r
 |n+1,(st,none)=>if st.ended then (st,none) else aGo gs n (aDo gs st)
 |_+1,(st,some v)=>(st,some v)
def aBegin(c:Int)(st:ASt):ASt:={st with now:=⟨[c],0,0⟩,dump:=[]}
def aWork(gs:List LGlob)(c:Int)(st:ASt):AR:=aGo gs ((st.fuel-st.steps).toNat+1) (aLookF gs (aBegin c st))
structure CellOk (ng nc:Nat) (x:MCl):Prop where
 k:0<=x.kind∧x.kind<=5
 l:x.kind=5∨x.kind=2->0<=x.left∧x.left<(nc:Int)
 r:x.kind=2->0<=x.right∧x.right<(nc:Int)
 g:x.kind=4->0<=x.n∧x.n<(ng:Int)
 f:∀r∈x.fields,0<=r∧r<(nc:Int)
 fl:x.fields.length<=255
 n:-9223372036854775808<=x.n∧x.n<=9223372036854775807
def RefOk(nc:Nat)(s:List Int):Prop:=∀r∈s,0<=r∧r<(nc:Int)
theorem CellOk.mono{ng nc nd:Nat}{x:MCl}(h:CellOk ng nc x)(hn:nc<=nd):CellOk ng nd x:=
 ⟨h.k,λe=>by have:=h.l e;omega,λe=>by have:=h.r e;omega,h.g,λr hr=>by have:=h.f r hr;omega,h.fl,h.n⟩
theorem RefOk.mono{nc nd:Nat}{s:List Int}(h:RefOk nc s)(hn:nc<=nd):RefOk nd s:=λr hr=>by have:=h r hr;omega
theorem RefOk.app{nc:Nat}{s t:List Int}(h:RefOk nc s)(k:RefOk nc t):RefOk nc (s++t):=λr hr=>(List.mem_append.1 hr).elim (h r) (k r)
theorem RefOk.one{nc:Nat}{x:Int}(h:0<=x∧x<(nc:Int)):RefOk nc [x]:=λr hr=>by rw[List.mem_singleton.1 hr];exact h
theorem RefOk.take{nc:Nat}{s:List Int}(h:RefOk nc s)(n:Nat):RefOk nc (s.take n):=λr hr=>h r (List.mem_of_mem_take hr)
theorem RefOk.drop{nc:Nat}{s:List Int}(h:RefOk nc s)(n:Nat):RefOk nc (s.drop n):=λr hr=>h r (List.mem_of_mem_drop hr)
theorem RefOk.at{nc:Nat}{s:List Int}(h:RefOk nc s){i:Nat}(hi:i<s.length):0<=(s[i]?).getD 0∧(s[i]?).getD 0<(nc:Int):=by
 rw[List.getElem?_eq_getElem hi];exact h _ (List.getElem_mem hi)
structure ImgOk (gs:List LGlob) (D:Nat->Nat->Int):Prop where
 few:gs.length<=200000
 ar:∀g (h:g<gs.length),0<=gs[g].arity∧gs[g].arity<=20
 code:∀g (h:g<gs.length),CodeOk gs[g].code gs[g].arity (D g)
 glob:∀g (h:g<gs.length),∀i∈gs[g].code,(i.op=1->0<=i.a∧i.a<(gs.length:Int))∧-9223372036854775808<=i.a∧i.a<=9223372036854775807
structure FrOk (gs:List LGlob) (D:Nat->Nat->Int) (f:AFr) (n:Nat):Prop where
 g:0<=f.g∧f.g<(gs.length:Int)
 a:0<=f.at_∧f.at_.toNat<(gAt gs f.g).code.length
 d:0<=D f.g.toNat f.at_.toNat∧D f.g.toNat f.at_.toNat<=(n:Int)
structure WfB (gs:List LGlob) (st:ASt):Prop where
 cells:∀x∈st.cells,CellOk gs.length st.cells.length x
 nc:(st.cells.length:Int)=(gs.length:Int)+st.used
 steps:0<=st.steps∧st.steps<=st.fuel
 fuel:st.fuel<=2000000
 used:0<=st.used∧st.used<=st.spare
 spare:st.spare<=2000000
 live:st.ended=false
def flat(st:ASt):List Int:=st.dump.flatMap (·.s)
structure WfS (gs:List LGlob) (D:Nat->Nat->Int) (st:ASt):Prop where
 b:WfB gs st
 s:RefOk st.cells.length st.now.s
 ds:∀f∈st.dump,RefOk st.cells.length f.s∧FrOk gs D f (f.s.length+1)
 size:((flat st).length:Int)+(st.now.s.length:Int)<=256*(st.steps+1)+st.used
 dl:(st.dump.length:Int)<=st.steps
structure WfC (gs:List LGlob) (D:Nat->Nat->Int) (st:ASt):Prop extends WfS gs D st where
 ne:0<st.now.s.length
structure WfA (gs:List LGlob) (D:Nat->Nat->Int) (st:ASt):Prop extends WfS gs D st where
 f:FrOk gs D st.now st.now.s.length
def ResOk(gs:List LGlob)(D:Nat->Nat->Int)(a:ASt)(r:AR):Prop:=
 (r.1.fuel=a.fuel∧r.1.spare=a.spare∧a.steps<=r.1.steps)∧match r.2 with
 |some v=>WfB gs r.1∧0<=v∧v<(r.1.cells.length:Int)
 |none=>if r.1.ended then r.1.kind≠0 else WfA gs D r.1
theorem cAt_ok{gs:List LGlob}{st:ASt}(h:WfB gs st){r:Int}(hr:0<=r∧r<(st.cells.length:Int)):∃hi:r.toNat<st.cells.length,cAt st r=st.cells[r.toNat]∧CellOk gs.length st.cells.length (cAt st r):=by
 have hi:r.toNat<st.cells.length:=by omega
 have e:cAt st r=st.cells[r.toNat]:=by unfold cAt;rw[List.getElem?_eq_getElem hi];rfl
 exact⟨hi,e,by rw[e];exact h.cells _ (List.getElem_mem hi)⟩
theorem gAt_eq{gs:List LGlob}{g:Int}(h:0<=g∧g<(gs.length:Int)):∃hi:g.toNat<gs.length,gAt gs g=gs[g.toNat]:=by
 have hi:g.toNat<gs.length:=by omega
 exact⟨hi,by unfold gAt;rw[List.getElem?_eq_getElem hi];rfl⟩
theorem WfC.top{gs:List LGlob}{D:Nat->Nat->Int}{st:ASt}(h:WfC gs D st):0<=(st.now.s.getLast?).getD 0∧(st.now.s.getLast?).getD 0<(st.cells.length:Int):=by
 rw[List.getLast?_eq_getElem?];exact h.s.at (by have:=h.ne;omega)
theorem rEnd_res{gs:List LGlob}{D:Nat->Nat->Int}{a st:ASt}(k:Int)(hk:k≠0)(h:st.ended=false)(h1:st.fuel=a.fuel)(h2:st.spare=a.spare)(h3:a.steps<=st.steps):ResOk gs D a (rEnd k st,none):=by
 have e:rEnd k st={st with ended:=true,kind:=k}:=by unfold rEnd;rw[h];rfl
 rw[e];exact⟨⟨h1,h2,h3⟩,hk⟩
theorem rStep_no{gs:List LGlob}{st:ASt}(h:WfB gs st):(rStepB st=false↔st.steps=st.fuel)∧(rStepB st=false->rStepS st=rEnd 1 st):=by
 have hl:=h.live;unfold rStepB rStepS;rw[hl];by_cases e:st.steps=st.fuel<;>simp[e]
theorem flat_snoc(l:List AFr)(f:AFr):((l++[f]).flatMap (·.s))=l.flatMap (·.s)++f.s:=by simp
theorem rVal_snoc{st:ASt}{l:List AFr}{f:AFr}(v:Int)(e:st.dump=l++[f]):rVal v st=({st with now:={f with s:=f.s++[v]},dump:=l},none):=by
 unfold rVal;rw[e];simp
theorem rVal_nil{st:ASt}(v:Int)(e:st.dump=[]):rVal v st=(st,some v):=by
 unfold rVal;rw[e];rfl
theorem rVal_res{gs:List LGlob}{D:Nat->Nat->Int}{st:ASt}(h:WfC gs D st){v:Int}(hv:0<=v∧v<(st.cells.length:Int)):ResOk gs D st (rVal v st):=by
 rcases List.eq_nil_or_concat st.dump with e|⟨l,f,e⟩
 ·rw[rVal_nil v e];exact⟨⟨rfl,rfl,Int.le_refl _⟩,h.b,hv⟩
 ·rw[List.concat_eq_append]at e;rw[rVal_snoc v e];refine⟨⟨rfl,rfl,Int.le_refl _⟩,?_⟩;have hf:=h.ds f (by rw[e];simp);have hz:=h.size;have hdl:=h.dl;have hne:=h.ne;show if st.ended then _ else _
  rw[h.b.live];refine⟨⟨⟨h.b.cells,h.b.nc,h.b.steps,h.b.fuel,h.b.used,h.b.spare,rfl⟩,hf.1.app (RefOk.one hv),λx hx=>h.ds x (by rw[e];simp[show x∈l from hx]),?_,?_⟩,⟨hf.2.g,hf.2.a,?_⟩⟩
  ·unfold flat at hz ⊢;rw[e,flat_snoc]at hz;simp only[List.length_append,List.length_singleton]at hz ⊢;omega
  ·rw[e]at hdl;simp only[List.length_append,List.length_singleton]at hdl ⊢;omega
  ·have:=hf.2.d;simp only[List.length_append,List.length_singleton];exact this
theorem rEnter_res{gs:List LGlob}{D:Nat->Nat->Int}(hG:ImgOk gs D){st:ASt}(h:WfC gs D st){g:Int}(hg:0<=g∧g<(gs.length:Int))(ha:(gAt gs g).arity<(st.now.s.length:Int)):ResOk gs D st (rEnter gs g st,none):=by
 obtain⟨hi,eg⟩:=gAt_eq hg;obtain⟨a0,a1⟩:=hG.ar _ hi;unfold rEnter;rw[eg]at ha ⊢;simp only;split
 ·rename_i hall
  refine⟨⟨rfl,rfl,Int.le_refl _⟩,?_⟩;show if st.ended then _ else _
  rw[h.b.live];have hlen:=stk_len (λr=>(cAt st r).right) st.now.s gs[g.toNat].arity.toNat (by omega);have hsz:=h.size;refine⟨⟨⟨h.b.cells,h.b.nc,h.b.steps,h.b.fuel,h.b.used,h.b.spare,rfl⟩,?_,h.ds,?_,h.dl⟩,⟨hg,⟨by show(0:Int)<=0;omega,?_⟩,?_⟩⟩
  ·show RefOk _ (stk _ _ _);unfold stk;refine(h.s.take _).app λr hr=>?_;obtain⟨q,hq,rfl⟩:=List.mem_map.1 hr;have hq2:q∈rArgs gs[g.toNat].arity.toNat st:=hq;have hk:=List.all_eq_true.1 hall q hq2;obtain⟨hqi,-,hc⟩:=cAt_ok h.b (h.s q (List.mem_of_mem_drop (List.mem_of_mem_take hq)));exact hc.r (by simpa using hk)
  ·show((flat st).length:Int)+((stk _ _ _).length:Int)<=_;rw[hlen];exact hsz
  ·show(0:Int).toNat<(gAt gs g).code.length;rw[eg];exact(hG.code _ hi).pos
  ·show 0<=D g.toNat 0∧D g.toNat 0<=((stk _ _ _).length:Int);rw[(hG.code _ hi).start,hlen];omega
 ·exact rEnd_res 3 (by decide) h.b.live rfl rfl (Int.le_refl _)
theorem ResOk.after{gs:List LGlob}{D:Nat->Nat->Int}{a b:ASt}{r:AR}(h:ResOk gs D b r)(h1:b.fuel=a.fuel)(h2:b.spare=a.spare)(h3:a.steps<=b.steps):ResOk gs D a r:=
 ⟨⟨h.1.1.trans h1,h.1.2.1.trans h2,Int.le_trans h3 h.1.2.2⟩,h.2⟩
theorem WfC.stepped{gs:List LGlob}{D:Nat->Nat->Int}{st:ASt}(h:WfC gs D st)(hs:st.steps≠st.fuel){s:List Int}(hr:RefOk st.cells.length s)(hp:0<s.length)(hl:s.length<=st.now.s.length+256):WfC gs D (rStk s {st with steps:=st.steps+1}):=by
 have h1:=h.b.steps;have h2:=h.size;have h3:=h.dl;exact⟨⟨⟨h.b.cells,h.b.nc,by show 0<=st.steps+1∧st.steps+1<=st.fuel;omega,h.b.fuel,h.b.used,h.b.spare,h.b.live⟩,hr,h.ds,by show((flat st).length:Int)+(s.length:Int)<=256*(st.steps+1+1)+st.used;omega,by show(st.dump.length:Int)<=st.steps+1;omega⟩,hp⟩
theorem aLook_res{gs:List LGlob}{D:Nat->Nat->Int}(hG:ImgOk gs D):∀(n:Nat) {st:ASt},WfC gs D st->(st.fuel-st.steps).toNat=n->ResOk gs D st (aLook gs n st)
 |0,st,h,hn=>by
  have h1:=h.b.steps;have hb:=(rStep_no h.b).1.2 (by omega);rw[aLook,(rStep_no h.b).2 hb];exact rEnd_res 1 (by decide) h.b.live rfl rfl (Int.le_refl _)
 |n+1,st,h,hn=>by
  have h1:=h.b.steps;have hne:st.steps≠st.fuel:=by omega
  have hb:rStepB st=true:=by
   cases hb:rStepB st with
   |true=>rfl
   |false=>exact absurd ((rStep_no h.b).1.1 hb) hne
  obtain⟨ti,te,tc⟩:=cAt_ok h.b h.top;have hpos:=h.ne;have hself:WfC gs D {st with steps:=st.steps+1}:=h.stepped hne (s:=st.now.s) h.s h.ne (by omega);rw[aLook,if_pos hb];simp only;have hdl:RefOk st.cells.length st.now.s.dropLast:=by rw[List.dropLast_eq_take];exact h.s.take _
  split
  ·rename_i hk
   have:=h.stepped hne (s:=st.now.s.dropLast++[(cAt st ((st.now.s.getLast?).getD 0)).left]) (hdl.app (RefOk.one (tc.l (Or.inl hk)))) (by simp) (by simp;omega);exact(aLook_res hG n this (by show(st.fuel-(st.steps+1)).toNat=n;omega)).after rfl rfl (by show st.steps<=st.steps+1;omega)
  ·split
   ·rename_i hk
    have:=h.stepped hne (s:=st.now.s++[(cAt st ((st.now.s.getLast?).getD 0)).left]) (h.s.app (RefOk.one (tc.l (Or.inr hk)))) (by simp) (by simp);exact(aLook_res hG n this (by show(st.fuel-(st.steps+1)).toNat=n;omega)).after rfl rfl (by show st.steps<=st.steps+1;omega)
   ·split
    ·exact rEnd_res 7 (by decide) h.b.live rfl rfl (by show st.steps<=st.steps+1;omega)
    ·split
     ·rename_i hk
      split
      ·rename_i ha
       exact(rEnter_res hG hself (tc.g hk) ha).after rfl rfl (by show st.steps<=st.steps+1;omega)
      ·refine(rVal_res hself ?_).after rfl rfl (by show st.steps<=st.steps+1;omega);have:=h.s.at hpos;rw[List.headD_eq_head?_getD,List.head?_eq_getElem?];exact this
     ·split
      ·exact rEnd_res 5 (by decide) h.b.live rfl rfl (by show st.steps<=st.steps+1;omega)
      ·exact(rVal_res hself h.top).after rfl rfl (by show st.steps<=st.steps+1;omega)
section
variable {gs:List LGlob} {D:Nat->Nat->Int} {st:ASt}
structure AtI (gs:List LGlob) (D:Nat->Nat->Int) (st:ASt) (i:LIns) (d:Int):Prop where
 eq:iAt gs st=i
 mem:∃g,∃h:g<gs.length,i∈gs[g].code
 f:InsK i
 de:d=D st.now.g.toNat st.now.at_.toNat
 dl:0<=d∧d<=(st.now.s.length:Int)∧d<=1000
 w:wrongR i.op.toNat i.a d=false
 nx:∀k∈succs i st.now.at_.toNat,k<(gAt gs st.now.g).code.length∧D st.now.g.toNat k=d+moreR i.op.toNat i.a∧0<=D st.now.g.toNat k
 gl:(i.op=1->0<=i.a∧i.a<(gs.length:Int))∧-9223372036854775808<=i.a∧i.a<=9223372036854775807
theorem at_ins(hG:ImgOk gs D)(h:WfA gs D st):AtI gs D st (iAt gs st) (D st.now.g.toNat st.now.at_.toNat):=by
 obtain⟨hi,eg⟩:=gAt_eq h.f.g;have ha:=h.f.a.2;have hd:=h.f.d;have hc:=hG.code _ hi;have e:iAt gs st=(gAt gs st.now.g).code[st.now.at_.toNat]:=by unfold iAt;rw[List.getElem?_eq_getElem ha];rfl
 have ha':=ha;rw[eg]at ha';have e2:iAt gs st=gs[st.now.g.toNat].code[st.now.at_.toNat]:=by rw[e];simp only[eg]
 have hm:iAt gs st∈gs[st.now.g.toNat].code:=by rw[e2];exact List.getElem_mem _
 obtain⟨g1,g2,g3⟩:=hc.go _ ha' hd.1;rw[<-e2]at g2 g3;refine⟨rfl,⟨_,hi,hm⟩,hc.ins _ hm,rfl,⟨hd.1,hd.2,g1⟩,g2,λk hk=>?_,hG.glob _ hi _ hm⟩;rw[eg];exact g3 k hk
theorem nx_ok{i:LIns}{d:Int}(hA:AtI gs D st i d)(h:WfA gs D st)(hne:st.steps≠st.fuel){cells':List MCl}{used' at':Int}{s':List Int}(hk:at'.toNat∈succs i st.now.at_.toNat)(h0:0<=at')(hc:∀x∈cells',CellOk gs.length cells'.length x)(hn:(cells'.length:Int)=(gs.length:Int)+used')(hu:st.used<=used'∧used'<=st.spare)(hr:RefOk cells'.length s')(hl:(s'.length:Int)=(st.now.s.length:Int)+moreR i.op.toNat i.a)(hz:(s'.length:Int)<=(st.now.s.length:Int)+256+(used'-st.used)):
 WfA gs D {st with steps:=st.steps+1,cells:=cells',used:=used',now:=⟨s',st.now.g,at'⟩}:=by
 obtain⟨k1,k2,k3⟩:=hA.nx _ hk;have h1:=h.b.steps;have h2:=h.b.used;have h3:=h.b.nc;have h4:=h.size;have h5:=h.dl;have h6:=hA.dl;have hle:st.cells.length<=cells'.length:=by omega
 refine⟨⟨⟨hc,hn,by show 0<=st.steps+1∧st.steps+1<=st.fuel;omega,h.b.fuel,by show 0<=used'∧used'<=st.spare;omega,h.b.spare,h.b.live⟩,hr,λf hf=>⟨(h.ds f hf).1.mono hle,(h.ds f hf).2⟩,?_,?_⟩,⟨h.f.g,⟨h0,k1⟩,⟨k3,?_⟩⟩⟩
 ·show((flat st).length:Int)+(s'.length:Int)<=256*(st.steps+1+1)+used';omega
 ·show(st.dump.length:Int)<=st.steps+1;omega
 ·show D st.now.g.toNat at'.toNat<=(s'.length:Int);rw[k2];omega
theorem wr_need{m:Nat}{a d:Int}(h:wrongR m a d=false):needR m a<=d∧(m=19->d=1):=by
 simp only[wrongR,Bool.or_eq_false_iff,Bool.and_eq_false_iff,decide_eq_false_iff_not,beq_eq_false_iff_ne,bne_eq_false_iff_eq]at h;refine⟨by omega,λe=>?_⟩;rcases h.1.2 with h|h
 ·exact absurd e h
 ·exact h
theorem succ_next{i:LIns}{k:Int}(h:i.op≠17∧i.op≠18∧i.op≠19∧i.op≠20)(h0:0<=k):(k+1).toNat∈succs i k.toNat:=by
 unfold succs;rw[if_neg (by omega),if_neg (by omega),if_neg (by omega)];simp;omega
theorem rest_wf(h:WfA gs D st):(rNext st).ended=false∧(rNext st).fuel=st.fuel∧(rNext st).spare=st.spare∧st.steps<=(rNext st).steps:=⟨h.b.live,rfl,rfl,by show st.steps<=st.steps+1;omega⟩
theorem go_res{b:ASt}(h:WfA gs D b)(h1:b.fuel=st.fuel)(h2:b.spare=st.spare)(h3:st.steps<=b.steps):ResOk gs D st (b,none):=by
 refine⟨⟨h1,h2,h3⟩,?_⟩;show if b.ended then _ else _
 rw[h.b.live];exact h
theorem room_yes{n:Int}{st:ASt}(h:rRoomB n st=true):st.used+n<=st.spare∧rRoomS n st={st with used:=st.used+n}:=by
 refine⟨by simpa[rRoomB]using h,?_⟩;unfold rRoomS;rw[if_pos h]
theorem cells_add{ng:Nat}{l:List MCl}{x:MCl}(h:∀y∈l,CellOk ng l.length y)(hx:CellOk ng (l.length+1) x):∀y∈l++[x],CellOk ng (l++[x]).length y:=by
 intro y hy;rw[List.length_append,List.length_singleton];rcases List.mem_append.1 hy with hy|hy
 ·exact(h y hy).mono (by omega)
 ·rw[List.mem_singleton.1 hy];exact hx
theorem rMake_eq(x:MCl)(b:ASt):rMake x b={b with cells:=b.cells++[x],now:={b.now with s:=b.now.s++[(b.cells.length:Int)]}}:=rfl
theorem make_res{i:LIns}{d:Int}(hA:AtI gs D st i d)(h:WfA gs D st)(hne:st.steps≠st.fuel)(hop:i.op≠17∧i.op≠18∧i.op≠19∧i.op≠20)(x:MCl){s':List Int}(hs:RefOk st.cells.length s')(hl:(s'.length:Int)+1=(st.now.s.length:Int)+moreR i.op.toNat i.a)(hz:s'.length<=st.now.s.length)(hx:CellOk gs.length (st.cells.length+1) x):
 ResOk gs D st (if rRoomB 1 (rNext st) then rMake x (rStk s' (rRoomS 1 (rNext st))) else rEnd 2 (rNext st),none):=by
 cases hr:rRoomB 1 (rNext st) with
 |false=>
  obtain⟨r1,r2,r3,r4⟩:=rest_wf h;exact rEnd_res 2 (by decide) r1 r2 r3 r4
 |true=>
  obtain⟨hu,e⟩:=room_yes hr;have hu':st.used+1<=st.spare:=hu;rw[e,rMake_eq];have hnc:=h.b.nc;exact go_res (nx_ok hA h hne (at':=st.now.at_+1) (cells':=st.cells++[x]) (used':=st.used+1) (s':=s'++[(st.cells.length:Int)]) (succ_next hop h.f.a.1) (by have:=h.f.a.1;omega) (cells_add h.b.cells hx) (by simp;omega) (by omega) (by rw[List.length_append,List.length_singleton];exact(hs.mono (by omega)).app (RefOk.one (by omega))) (by simp;omega) (by simp;omega)) rfl rfl (by show st.steps<=st.steps+1;omega)
theorem stk_res{i:LIns}{d:Int}(hA:AtI gs D st i d)(h:WfA gs D st)(hne:st.steps≠st.fuel)(hop:i.op≠17∧i.op≠18∧i.op≠19∧i.op≠20){s':List Int}(hs:RefOk st.cells.length s')(hl:(s'.length:Int)=(st.now.s.length:Int)+moreR i.op.toNat i.a)(hz:s'.length<=st.now.s.length+256):
 ResOk gs D st (rStk s' (rNext st),none):=
 go_res (nx_ok hA h hne (at':=st.now.at_+1) (cells':=st.cells) (used':=st.used) (s':=s') (succ_next hop h.f.a.1) (by have:=h.f.a.1;omega) h.b.cells h.b.nc ⟨Int.le_refl _,h.b.used.2⟩ hs hl (by omega)) rfl rfl (by show st.steps<=st.steps+1;omega)
theorem hole_ok(ng nc:Nat):CellOk ng nc ⟨0,0,0,0,[]⟩:=⟨by simp,by simp,by simp,by simp,by simp,by simp,by simp⟩
theorem rMakeN_eq:∀(n:Nat) (b:ASt),rMakeN n b={b with cells:=b.cells++List.replicate n ⟨0,0,0,0,[]⟩,now:={b.now with s:=b.now.s++(List.range n).map λk=>((b.cells.length+k:Nat):Int)}}
 |0,b=>by simp[rMakeN]
 |n+1,b=>by
  rw[rMakeN,rMakeN_eq n b,rMake_eq];simp[List.replicate_succ',List.range_succ]
theorem rk_rg(op l r:Int):-9223372036854775808<=rkN op l r∧rkN op l r<=9223372036854775807:=by
 have hw:∀z:Int,-9223372036854775808<=wrap64 z∧wrap64 z<=9223372036854775807:=λz=>by unfold wrap64;omega
 unfold rkN;repeat' split
 all_goals first|exact hw _|omega
theorem does_res(hG:ImgOk gs D)(h:WfA gs D st)(hne:st.steps≠st.fuel)(h19:(iAt gs st).op≠19)(h8:(iAt gs st).op≠8):ResOk gs D st (rDoes (iAt gs st) (rNext st),none):=by
 have hA:=at_ins hG h;revert hA h19 h8;generalize iAt gs st=i;generalize D st.now.g.toNat st.now.at_.toNat=d;intro h19 h8 hA;obtain⟨⟨p0,p1⟩,-⟩:=hA.f;obtain⟨m,hm⟩:∃m:Nat,i.op=(m:Int):=⟨i.op.toNat,by omega⟩;have hm21:m<21:=by omega
 have hm':i.op.toNat=m:=by omega
 obtain⟨a1,a2,a3,a4,a5,a6⟩:=insL_a hA.f hm hm21;have hw:=hA.w;rw[hm']at hw;obtain⟨w1,w2⟩:=wr_need hw;obtain⟨d0,d1,d2⟩:=hA.dl;obtain⟨gl1,gl2⟩:=hA.gl;have hsn:(rNext st).now.s=st.now.s:=rfl;have hcn:(rNext st).cells=st.cells:=rfl;have hca:∀r,cAt (rNext st) r=cAt st r:=λr=>rfl;have hnc:=h.b.nc;have hu0:=h.b.used;obtain⟨r1,r2,r3,r4⟩:=rest_wf h;have hgl:gs.length<=st.cells.length:=by omega
 unfold rDoes;simp only[hsn,hcn];rcases all21 m hm21 with rfl|rfl|rfl|rfl|rfl|rfl|rfl|rfl|rfl|rfl|rfl|rfl|rfl|rfl|rfl|rfl|rfl|rfl|rfl|rfl|rfl
 ·rw[if_pos (by omega)];have hmk:=make_res hA h hne (by omega) ⟨1,i.a,0,0,[]⟩ (s':=st.now.s) h.s (by rw[hm'];simp[moreR]) (Nat.le_refl _) ⟨by simp,by simp,by simp,by simp,by simp,by simp,gl2⟩;cases hr:rRoomB 1 (rNext st) with
  |false=>rw[hr]at hmk;exact hmk
  |true=>
   rw[hr,(room_yes hr).2]at hmk;rw[(room_yes hr).2];exact hmk
 ·rw[if_neg (by omega),if_pos (by omega)];exact stk_res hA h hne (by omega) (h.s.app (RefOk.one (by have:=gl1 (by omega);omega))) (by rw[hm'];simp[moreR]) (by simp)
 ·rw[if_neg (by omega),if_neg (by omega),if_pos (by omega)];simp[needR]at w1;have:=a1 (by omega);exact stk_res hA h hne (by omega) (h.s.app (RefOk.one (h.s.at (by omega)))) (by rw[hm'];simp[moreR]) (by simp)
 ·rw[if_neg (by omega),if_neg (by omega),if_neg (by omega),if_pos (by omega)];simp[needR]at w1;have t1:=h.s.at (i:=st.now.s.length-1) (by omega);have t2:=h.s.at (i:=st.now.s.length-2) (by omega);exact make_res hA h hne (by omega) _ (s':=st.now.s.take (st.now.s.length-2)) (h.s.take _) (by rw[hm'];simp[moreR];omega) (by simp) ⟨by simp,λ_=>by simp only;omega,λ_=>by simp only;omega,by simp,by simp,by simp,by simp⟩
 ·rw[if_neg (by omega),if_neg (by omega),if_neg (by omega),if_neg (by omega),if_pos (by omega)];simp[needR]at w1;have:=a1 (by omega);exact stk_res hA h hne (by omega) ((h.s.take _).app (RefOk.one (h.s.at (by omega)))) (by rw[hm'];simp[moreR];omega) (by simp;omega)
 ·rw[if_neg (by omega),if_neg (by omega),if_neg (by omega),if_neg (by omega),if_neg (by omega),if_pos (by omega)];simp[needR]at w1;have:=a1 (by omega);have t1:=h.s.at (i:=st.now.s.length-1) (by omega);refine go_res (nx_ok hA h hne (at':=st.now.at_+1) (cells':=st.cells.set ((st.now.s[st.now.s.length-2-i.a.toNat]?).getD 0).toNat ⟨5,0,(st.now.s[st.now.s.length-1]?).getD 0,0,[]⟩) (used':=st.used) (s':=st.now.s.take (st.now.s.length-1)) (succ_next (by omega) h.f.a.1) (by have:=h.f.a.1;omega) (λx hx=>?_) (by rw[List.length_set];exact h.b.nc) ⟨Int.le_refl _,h.b.used.2⟩ (by rw[List.length_set];exact h.s.take _) (by rw[hm'];simp[moreR];omega) (by simp;omega)) rfl rfl (by show st.steps<=st.steps+1;omega);rw[List.length_set];rcases List.mem_or_eq_of_mem_set hx with hx|rfl
  ·exact h.b.cells x hx
  ·exact⟨by simp,λ_=>t1,by simp,by simp,by simp,by simp,by simp⟩
 ·rw[if_neg (by omega),if_neg (by omega),if_neg (by omega),if_neg (by omega),if_neg (by omega),if_neg (by omega),if_pos (by omega)];simp[needR]at w1;have:=a1 (by omega);exact stk_res hA h hne (by omega) (h.s.take _) (by rw[hm'];simp[moreR];omega) (by simp;omega)
 ·rw[if_neg (by omega),if_neg (by omega),if_neg (by omega),if_neg (by omega),if_neg (by omega),if_neg (by omega),if_neg (by omega),if_pos (by omega)];have:=a1 (by omega);cases hr:rRoomB i.a (rNext st) with
  |false=>exact rEnd_res 2 (by decide) r1 r2 r3 r4
  |true=>
   obtain⟨hu,e⟩:=room_yes hr;have hu':st.used+i.a<=st.spare:=hu;rw[e,rMakeN_eq];refine go_res (nx_ok hA h hne (at':=st.now.at_+1) (cells':=st.cells++List.replicate i.a.toNat ⟨0,0,0,0,[]⟩) (used':=st.used+i.a) (s':=st.now.s++(List.range i.a.toNat).map λk=>((st.cells.length+k:Nat):Int)) (succ_next (by omega) h.f.a.1) (by have:=h.f.a.1;omega) (λx hx=>?_) (by simp;omega) (by omega) ?_ (by rw[hm'];simp[moreR];omega) (by simp;omega)) rfl rfl (by show st.steps<=st.steps+1;omega)
   ·rcases List.mem_append.1 hx with hx|hx
    ·exact(h.b.cells x hx).mono (by simp)
    ·rw[List.eq_of_mem_replicate hx];exact hole_ok _ _
   ·refine(h.s.mono (by simp)).app λr hr=>?_;obtain⟨k,hk,rfl⟩:=List.mem_map.1 hr;have:=List.mem_range.1 hk;simp;omega
 ·exact absurd hm h8
 all_goals try
  rw[if_neg (by omega),if_neg (by omega),if_neg (by omega),if_neg (by omega),if_neg (by omega),if_neg (by omega),if_neg (by omega),if_neg (by omega),if_neg (by omega),if_neg (by omega),if_neg (by omega),if_neg (by omega),if_neg (by omega)];simp[needR]at w1;unfold rReck;simp only[hca];split
  ·exact rEnd_res 3 (by decide) r1 r2 r3 r4
  ·split
   ·exact rEnd_res 6 (by decide) r1 r2 r3 r4
   ·have hmk:=make_res hA h hne (by omega) (rkC i.op (cAt st ((st.now.s[st.now.s.length-2]?).getD 0)).n (cAt st ((st.now.s[st.now.s.length-1]?).getD 0)).n) (s':=st.now.s.take (st.now.s.length-2)) (h.s.take _) (by rw[hm'];simp[moreR];omega) (by simp) ⟨by unfold rkC;simp only;split<;>omega,by unfold rkC;simp only;split<;>simp,by unfold rkC;simp only;split<;>simp,by unfold rkC;simp only;split<;>simp,by simp[rkC],by simp[rkC],rk_rg _ _ _⟩;cases hr:rRoomB 1 (rNext st) with
    |false=>rw[hr]at hmk;exact hmk
    |true=>rw[hr]at hmk;exact hmk
 ·rw[if_neg (by omega),if_neg (by omega),if_neg (by omega),if_neg (by omega),if_neg (by omega),if_neg (by omega),if_neg (by omega),if_neg (by omega),if_pos (by omega)];simp[needR]at w1;have:=a1 (by omega);exact make_res hA h hne (by omega) _ (s':=st.now.s.take (st.now.s.length-(i.a % 256).toNat)) (h.s.take _) (by rw[hm'];simp[moreR];omega) (by simp) ⟨by simp,by simp,by simp,by simp,λr hr=>by have:=(h.s.drop _) r hr;omega,by simp;omega,by simp only;omega⟩
 ·rw[if_neg (by omega),if_neg (by omega),if_neg (by omega),if_neg (by omega),if_neg (by omega),if_neg (by omega),if_neg (by omega),if_neg (by omega),if_neg (by omega),if_pos (by omega)];simp[needR]at w1;have:=a1 (by omega);unfold rSplit;simp only[hca,hsn];split
  ·exact rEnd_res 3 (by decide) r1 r2 r3 r4
  ·rename_i hsp
   have htop:0<=(st.now.s.getLast?).getD 0∧(st.now.s.getLast?).getD 0<(st.cells.length:Int):=by
    rw[List.getLast?_eq_getElem?];exact h.s.at (by omega)
   obtain⟨ti,te,tc⟩:=cAt_ok h.b htop;have hfl:((cAt st ((st.now.s.getLast?).getD 0)).fields.length:Int)=i.a:=by omega
   exact stk_res hA h hne (by omega) ((by rw[List.dropLast_eq_take];exact h.s.take _:RefOk _ st.now.s.dropLast).app tc.f) (by rw[hm'];simp[moreR];omega) (by simp;omega)
 ·rw[if_neg (by omega),if_neg (by omega),if_neg (by omega),if_neg (by omega),if_neg (by omega),if_neg (by omega),if_neg (by omega),if_neg (by omega),if_neg (by omega),if_neg (by omega),if_pos (by omega)];unfold rFork;simp only[hca,hsn];split
  ·exact rEnd_res 3 (by decide) r1 r2 r3 r4
  ·split
   ·rename_i x hx
    have hxm:x∈i.alts:=List.mem_of_find?_eq_some hx;obtain⟨-,hal⟩:=insL_good hA.f;have hto:=hal x hxm;have hsu:x.to.toNat∈succs i st.now.at_.toNat:=by
     unfold succs;rw[if_neg (by omega),if_neg (by omega),if_pos (by omega)];exact List.mem_map.2 ⟨x,hxm,rfl⟩
    exact go_res (nx_ok hA h hne (at':=x.to) (cells':=st.cells) (used':=st.used) (s':=st.now.s) hsu hto.2.2.1 h.b.cells h.b.nc ⟨Int.le_refl _,h.b.used.2⟩ h.s (by rw[hm'];simp[moreR]) (by omega)) rfl rfl (by show st.steps<=st.steps+1;omega)
   ·exact rEnd_res 4 (by decide) r1 r2 r3 r4
 ·rw[if_neg (by omega),if_neg (by omega),if_neg (by omega),if_neg (by omega),if_neg (by omega),if_neg (by omega),if_neg (by omega),if_neg (by omega),if_neg (by omega),if_neg (by omega),if_neg (by omega),if_pos (by omega)];have ha:=a1 (by omega);have hsu:i.a.toNat∈succs i st.now.at_.toNat:=by
   unfold succs;rw[if_neg (by omega),if_pos (by omega)];simp
  exact go_res (nx_ok hA h hne (at':=i.a) (cells':=st.cells) (used':=st.used) (s':=st.now.s) hsu ha.1 h.b.cells h.b.nc ⟨Int.le_refl _,h.b.used.2⟩ h.s (by rw[hm'];simp[moreR]) (by omega)) rfl rfl (by show st.steps<=st.steps+1;omega)
 ·rw[if_neg (by omega),if_neg (by omega),if_neg (by omega),if_neg (by omega),if_neg (by omega),if_neg (by omega),if_neg (by omega),if_neg (by omega),if_neg (by omega),if_neg (by omega),if_neg (by omega),if_neg (by omega),if_pos (by omega)];exact rEnd_res 4 (by decide) r1 r2 r3 r4
end
theorem rfC_set(l:List Int)(i:Nat)(x:Int):(rfC l).set i (.int .i32 x)=rfC (l.set i x):=by simp[rfC,List.map_set]
structure EnM (lo:Nat) (w0 wr:World) (M Pb:Nat) (B:List Nat) (st:MSt) (cs:List (MCl×Value)) (ds:List (MFr×Value)) (cv sv kv dv tv:Value):Prop where
 m:MMem lo wr M Pb st cs ds cv sv kv dv tv
 a:AG B w0 wr
theorem EnM.keep{lo:Nat}{w0 wr w':World}{M Pb:Nat}{B:List Nat}{st:MSt}{cs:List (MCl×Value)}{ds:List (MFr×Value)}{cv sv kv dv tv:Value}(h:EnM lo w0 wr M Pb B st cs ds cv sv kv dv tv)(hb:Below wr.heap.size wr w'):EnM lo w0 w' M Pb B st cs ds cv sv kv dv tv:=⟨h.m.keep hb,h.a.then hb⟩
theorem enter_any{lo:Nat}{w:World}{M Pb:Nat}{st:MSt}{B:List Nat}(V:Int->MSt->MSt)(a:Nat)(code:List LIns)(kp:Option Addr)(kn kc:Nat)(hk:CdAt lo w (.slice kp kn kc) code)(h:MM lo w M Pb st B)(hl:st.stack.length<=1000000000)(hb:0<=st.fr.base∧st.fr.base<st.stack.length)(hs:∀r∈st.stack,0<=r∧r<(st.cells.length:Int))(ha:a<=1000000)
 (hV:∀x w' B',MM lo w' M Pb st B'->Calls Tryz.prog 103 #[.pointer (some ⟨M,0,none⟩),.int .i32 x] w' λe w''=>MRes lo M Pb B' w' (V x st) (.tuple #[]) e w''):
 Calls Tryz.prog 101 #[.pointer (some ⟨M,0,none⟩),.agg #[.int .i64 (a:Int),.slice kp kn kc]] w λe w'=>MRes lo M Pb B w (enterS V a code st) (.tuple #[]) e w':=by
 have hbw:Below w.heap.size w (w.alloc (.cells #[.int .i64 (a:Int),.slice kp kn kc] 133)):=(Below.refl _ _).alloc (Nat.le_refl _) _;have HU:=hid (under_any ((h.keep hbw).keep (Below.refl _ _).drew) (by omega) (by omega));obtain⟨bn,hbn⟩:∃bn:Nat,st.fr.base=(bn:Int):=⟨st.fr.base.toNat,by omega⟩;obtain⟨cs,ds,cv,sv,kv,dv,tv,h,hBe⟩:=h;obtain⟨sg,sc,rfl,hcap,hsc⟩:=stack_slice h.sk (by omega);have hkl:=hk;have HEN:Hid (∀wz,Below w.heap.size w wz->EnM lo w wz M Pb B st cs ds cv (.slice (some ⟨sg,0,none⟩) st.stack.length sc) kv dv tv):=λwz hz=>⟨h.keep hz,AG.of_below hz⟩;have hself:M∈B:=by rw[hBe];exact List.mem_cons_self ..
 have HBR:Hid (∀wz stx kvx,EnM lo w wz M Pb B stx cs ds cv (.slice (some ⟨sg,0,none⟩) st.stack.length sc) kvx dv tv->MRes lo M Pb B w stx (.tuple #[]) (.returned (.tuple #[])) wz):=λwz stx kvx hm=>⟨rfl,hm.a,_,⟨cs,ds,cv,_,kvx,dv,tv,hm.m,rfl⟩,λb hb=>Or.inl (by rw[hBe];exact hb)⟩;have HMM:Hid (∀wz stx kvx,EnM lo w wz M Pb B stx cs ds cv (.slice (some ⟨sg,0,none⟩) st.stack.length sc) kvx dv tv->MM lo wz M Pb stx B):=λwz stx kvx hm=>⟨cs,ds,cv,_,kvx,dv,tv,hm.m,hBe⟩;have t0:(w.alloc (.cells #[.int .i64 (a:Int),.slice kp kn kc] 133)).drew.cell? ⟨w.heap.size,0,none⟩=some (.int .i64 (a:Int)):=alloc_cell w _ _ 0 _ rfl;have HW1:Hid (∀w1,w1=(w.alloc (.cells #[.int .i64 (a:Int),.slice kp kn kc] 133)).drew.drew->Below w.heap.size w w1∧C2 w1 w.heap.size (.int .i64 (a:Int)) (.slice kp kn kc)):=λw1 hw=>by
  subst hw;exact⟨hbw.drew.drew,(C2.new w _ _ _).keep (Below.refl _ _).drew.drew⟩
 obtain⟨d,hd⟩:∃d,(st.stack.length:Int)-1-st.fr.base=d:=⟨_,rfl⟩;have hund:undr st=d:=hd;rw[hd]at HU;have HH:=hid h;by_cases hlt:d<(a:Int)
 ·have hx:bn<st.stack.length:=by omega
  have hen:enterS V a code st=V st.stack[bn] st:=by
   unfold enterS;rw[hund,if_pos hlt,hbn];simp[hx]
  rw[hen];have HGV:Hid (∀w1,Below w.heap.size w w1->(w1.cell? ⟨M,2,none⟩=some (.slice (some ⟨sg,0,none⟩) st.stack.length sc)∧w1.cell? ⟨M,3,none⟩=some (.int .i64 (bn:Int))∧w1.cell? ⟨sg,bn,none⟩=some (.int .i32 st.stack[bn]))∧Calls Tryz.prog 103 #[.pointer (some ⟨M,0,none⟩),.int .i32 st.stack[bn]] w1 λe w''=>e=.returned (.tuple #[])∧Hid (MRes lo M Pb B w (V st.stack[bn] st) (.tuple #[]) (.returned (.tuple #[])) w'')):=λw1 hb1=>by
   have hm:=HEN.out w1 hb1;refine⟨⟨hm.m.m.at 2 rfl,by rw[<-hbn];exact hm.m.m.at 3 rfl,?_⟩,(hV _ w1 B (HMM.out _ _ _ hm)).mono λe w'' hr=>?_⟩
   ·refine cell_keep hb1 ?_;rw[hsc bn hx];simp[rfC,hx]
   ·have he:=hr.1;exact⟨he,hr.of hm.a (λb hb=>Or.inl hb) rfl⟩
  have i0:(0:Int)<=(bn:Int):=by omega
  have i1:(bn:Int)<(st.stack.length:Int):=by omega
  clear h hk hbw hd hV hen HEN HBR HMM hsc hs hund HH hBe;go_enter Tryz.func101,Tryz.ntmps101;go_upto_region 1 with fail
  go_region_held_law (λw'=>w'.cell? ⟨w.heap.size,0,none⟩=some (.int .i64 (a:Int))) (assumption)
   (first
    |(go_at_call 102;refine HU.out.mono ?_;rintro e w1 ⟨rfl,hw1⟩;obtain⟨hb1,y0,y1,-⟩:=HW1.out w1 hw1;obtain⟨⟨m2,m3,ms⟩,hgv⟩:=HGV.out w1.drew hb1.drew;have HGV1:=hid hgv;clear hgv hw1 hb1))
  go_upto_region 2 with fail
  go_region_with (first
   |(go_at_call 103;refine HGV1.out.mono ?_;rintro e w5 ⟨rfl,HRR⟩))
  all_goals(try go_wp2)
  all_goals
   refine bE ?_;exact HRR.out
 ·have han:a<st.stack.length:=by omega
  have hget:∀k,k<a->∃r:Nat,∃hr:r<st.cells.length,st.stack[st.stack.length-2-k]'(by omega)=(r:Int)∧knd st (r:Int)=st.cells[r].kind∧rgt st (r:Int)=st.cells[r].right:=λk hk=>by
   have hr:=hs (st.stack[st.stack.length-2-k]'(by omega)) (List.getElem_mem _);refine⟨(st.stack[st.stack.length-2-k]'(by omega)).toNat,by omega,by omega,?_,?_⟩
   ·unfold knd;rw[Int.toNat_natCast,List.getElem?_eq_getElem (by omega)];rfl
   ·unfold rgt;rw[Int.toNat_natCast,List.getElem?_eq_getElem (by omega)];rfl
  have HGET:=hid hget;have hstop:∀k (hk:k<a),knd st (st.stack[st.stack.length-2-k]'(by omega))≠2->enterS V a code st=stopS 3 st:=λk hk hn=>by
   unfold enterS;rw[hund,if_neg hlt,if_neg];intro hall;rw[List.all_eq_true]at hall;have hm:st.stack[st.stack.length-2-k]'(by omega)∈argsS a st:=by
    have:=args_get (st:=st) han hk;rw[List.getElem?_eq_getElem (by omega)]at this;exact List.mem_of_getElem? this.symm
   exact hn (by simpa using hall _ hm)
  have hgo:(∀k (hk:k<a),knd st (st.stack[st.stack.length-2-k]'(by omega))=2)->enterS V a code st={st with stack:=stk (rgt st) st.stack a,fr:=⟨st.fr.base,code,0⟩}:=λhall=>by
   unfold enterS;rw[hund,if_neg hlt,if_pos];rw[List.all_eq_true];intro r hr;obtain⟨i,hi,rfl⟩:=List.getElem_of_mem hr;have hla:(argsS a st).length=a:=by unfold argsS;simp;omega
   have:=args_get (st:=st) (j:=a-1-i) han (by omega);rw[List.getElem?_eq_getElem (by omega),show a-1-(a-1-i)=i by omega,List.getElem?_eq_getElem hi]at this;rw[<-Option.some.inj this];simpa using hall (a-1-i) (by omega)
  have HCK:Hid (∀(k:Nat) (hk:k<a) (wr:World),Below w.heap.size w wr->∃(r cn cc cg:Nat) (kd:Int),(0:Int)<=(r:Int)∧(r:Int)<(cn:Int)∧knd st (st.stack[st.stack.length-2-k]'(by omega))=kd∧wr.cell? ⟨M,1,none⟩=some (.slice (some ⟨cg,0,none⟩) cn cc)∧wr.cell? ⟨sg,st.stack.length-2-k,none⟩=some (.int .i32 (r:Int))∧wr.cell? ⟨cg,r*5,none⟩=some (.int .u8 kd)∧Hid (∀w3,(w3=wr.drew∨w3=wr.drew.drew)->Calls Tryz.prog 99 #[.pointer (some ⟨M,0,none⟩),.int .i64 ((k:Int)+1)] w3 λe w'=>e=.returned (.pointer (some ⟨sg,st.stack.length-2-k,none⟩))∧w'=w3.drew)):=λk hk wr hbr=>by
   have hm:=HEN.out wr hbr;have h3':∀w3,(w3=wr.drew∨w3=wr.drew.drew)->w3.cell? ⟨M,2,none⟩=some (.slice (some ⟨sg,0,none⟩) st.stack.length sc):=λw3 h3=>by
    rcases h3 with rfl|rfl<;>exact hm.m.m.at 2 rfl
   obtain⟨r,hr,e1,e2,-⟩:=HGET.out k hk;obtain⟨cg,cc,fp,fn,fc,hcv,k0,-⟩:=hm.m.cellAt (r:=r) hr;have hc1:=hm.m.m.at 1 rfl;rw[hcv]at hc1;refine⟨r,st.cells.length,cc,cg,st.cells[r].kind,by omega,by omega,by rw[e1];exact e2,hc1,?_,k0,λw3 h3=>?_⟩
   ·refine cell_keep hbr ?_;rw[hsc _ (by omega),<-e1];simp[rfC]
   ·have:=top_any (k+1) (h3' w3 h3) (by omega) (by omega);rw[show st.stack.length-1-(k+1)=st.stack.length-2-k by omega,show((k+1:Nat):Int)=(k:Int)+1 by omega]at this;exact this
  have HSP:Hid (∀wz,Below w.heap.size w wz->Calls Tryz.prog 79 #[.pointer (some ⟨M,0,none⟩),.int .i64 3] wz λe w''=>e=.returned (.tuple #[])∧Hid (MRes lo M Pb B w (stopS 3 st) (.tuple #[]) (.returned (.tuple #[])) w'')):=λwz hbz=>(stop_any 3 (HMM.out _ _ _ (HEN.out wz hbz))).mono λe w'' hr=>⟨hr.1,hr.of (HEN.out wz hbz).a (λb hb=>Or.inl hb) rfl⟩;have hMsg:M≠sg:=λe=>(List.nodup_cons.1 h.nd).1 (List.mem_append_right _ (List.mem_append_left _ (by rw[vB_slice];exact List.mem_singleton.2 e)));have hsgw:sg<w.heap.size:=(h.rg sg (List.mem_cons_of_mem _ (List.mem_append_right _ (List.mem_append_left _ (by rw[vB_slice];exact List.mem_singleton.2 rfl))))).2;have hcsg:∀cg n c,cv=.slice (some ⟨cg,0,none⟩) n c->cg≠sg:=λcg n c e e2=>by
   subst e;have:=(List.nodup_append.1 (List.nodup_cons.1 h.nd).2).2.2 cg (by rw[vB_slice];exact List.mem_singleton.2 rfl) sg (List.mem_append_left _ (by rw[vB_slice];exact List.mem_singleton.2 rfl));exact this e2
  have HC2:Hid (∀(k:Nat) (_:k<a) (wr:World),EnM lo w wr M Pb B {st with stack:=stk (rgt st) st.stack k} cs ds cv (.slice (some ⟨sg,0,none⟩) st.stack.length sc) kv dv tv->C2 wr w.heap.size (.int .i64 (a:Int)) (.slice kp kn kc)->∃(r cn cc cg:Nat) (q:Int),(0:Int)<=(r:Int)∧(r:Int)<(cn:Int)∧wr.cell? ⟨M,1,none⟩=some (.slice (some ⟨cg,0,none⟩) cn cc)∧wr.cell? ⟨sg,st.stack.length-2-k,none⟩=some (.int .i32 (r:Int))∧wr.cell? ⟨cg,r*5+3,none⟩=some (.int .i32 q)∧(∃u,wr.cell? ⟨sg,st.stack.length-1-k,none⟩=some u)∧wr.frozen? ⟨sg,st.stack.length-1-k,none⟩=false∧Hid (∀w3,(w3=wr.drew∨w3=wr.drew.drew)->Calls Tryz.prog 99 #[.pointer (some ⟨M,0,none⟩),.int .i64 ((k:Int)+1)] w3 λe w'=>e=.returned (.pointer (some ⟨sg,st.stack.length-2-k,none⟩))∧w'=w3.drew)∧Hid (∀w3,(w3=wr.drew∨w3=wr.drew.drew)->Calls Tryz.prog 99 #[.pointer (some ⟨M,0,none⟩),.int .i64 (k:Int)] w3 λe w'=>e=.returned (.pointer (some ⟨sg,st.stack.length-1-k,none⟩))∧w'=w3.drew)∧Hid ((wr.setCell ⟨sg,st.stack.length-1-k,none⟩ (.int .i32 q)).cell? ⟨M,1,none⟩=some (.slice (some ⟨cg,0,none⟩) cn cc)∧(wr.setCell ⟨sg,st.stack.length-1-k,none⟩ (.int .i32 q)).cell? ⟨sg,st.stack.length-2-k,none⟩=some (.int .i32 (r:Int))∧(wr.setCell ⟨sg,st.stack.length-1-k,none⟩ (.int .i32 q)).cell? ⟨cg,r*5+3,none⟩=some (.int .i32 q))∧Hid (EnM lo w (wr.setCell ⟨sg,st.stack.length-1-k,none⟩ (.int .i32 q)) M Pb B {st with stack:=stk (rgt st) st.stack (k+1)} cs ds cv (.slice (some ⟨sg,0,none⟩) st.stack.length sc) kv dv tv∧C2 (wr.setCell ⟨sg,st.stack.length-1-k,none⟩ (.int .i32 q)) w.heap.size (.int .i64 (a:Int)) (.slice kp kn kc))):=λk hk wr hm hc2=>by
   have h3':∀w3,(w3=wr.drew∨w3=wr.drew.drew)->w3.cell? ⟨M,2,none⟩=some (.slice (some ⟨sg,0,none⟩) st.stack.length sc):=λw3 h3=>by
    rcases h3 with rfl|rfl<;>exact hm.m.m.at 2 rfl
   obtain⟨r,hr,e1,-,e3⟩:=HGET.out k hk;have hsl:=stk_len (rgt st) st.stack k (by omega);have hsk:=hm.m.sk;have hsk2:wr.ownsRow lo 111 1 (.slice (some ⟨sg,0,none⟩) st.stack.length sc) st.stack.length (rfC (stk (rgt st) st.stack k)):=by
    have:=hsk;rw[show({st with stack:=stk (rgt st) st.stack k}:MSt).stack.length=st.stack.length from hsl]at this;exact this
   obtain⟨cg,cc,fp,fn,fc,hcv,-,-,-,k3,-⟩:=hm.m.cellAt (r:=r) hr;have hc1:=hm.m.m.at 1 rfl;have hne:=hcsg _ _ _ hcv;rw[hcv]at hc1;have hxr:wr.cell? ⟨sg,st.stack.length-2-k,none⟩=some (.int .i32 (r:Int)):=by
    rw[hsk2.cellAt _ (by omega),<-e1];unfold rfC;rw[List.getElem?_map,stk_get _ _ _ _ (by omega),if_pos (by omega),List.getElem?_eq_getElem (by omega)];rfl
   have hso:=(hsk2.stored (st.stack.length-1-k) (.int .i32 (rgt st (r:Int)))).1;rw[rfC_set]at hso;have hsu:=stk_succ (rgt st) st.stack k (by omega);rw[e1]at hsu;rw[<-hsu]at hso;have hsl2:=stk_len (rgt st) st.stack (k+1) (by omega);obtain⟨t1,t2⟩:=hm.m.rowS (AG.cell (j:=st.stack.length-1-k) (v:=.slice (some ⟨sg,0,none⟩) st.stack.length sc) rfl (.int .i32 (rgt st (r:Int)))) (s':=stk (rgt st) st.stack (k+1)) (by rw[hsl2];exact hso);rw[<-hBe]at t2;have hb1:(wr.setCell ⟨sg,st.stack.length-1-k,none⟩ (.int .i32 (rgt st (r:Int)))).heap[M]?=wr.heap[M]?:=Below.heap_setCell _ _ _ _ hMsg;have hb2:(wr.setCell ⟨sg,st.stack.length-1-k,none⟩ (.int .i32 (rgt st (r:Int)))).heap[cg]?=wr.heap[cg]?:=Below.heap_setCell _ _ _ _ hne;have hb3:(wr.setCell ⟨sg,st.stack.length-1-k,none⟩ (.int .i32 (rgt st (r:Int)))).heap[w.heap.size]?=wr.heap[w.heap.size]?:=Below.heap_setCell _ _ _ _ (by show w.heap.size≠sg;omega);have k3':wr.cell? ⟨cg,r*5+3,none⟩=some (.int .i32 (rgt st (r:Int))):=by rw[e3];exact k3
   refine⟨r,st.cells.length,cc,cg,rgt st (r:Int),by omega,by omega,hc1,hxr,k3',⟨_,by rw[hsk2.cellAt _ (by omega)];exact List.getElem?_eq_getElem (by unfold rfC;rw[List.length_map,hsl];omega)⟩,hsk2.frozenAt _,λw3 h3=>?_,λw3 h3=>?_,⟨cell_same hb1 hc1,?_,cell_same hb2 k3'⟩,⟨t1,hm.a.trans t2 λb hb=>Or.inl hb⟩,⟨cell_same hb3 hc2.c0,cell_same hb3 hc2.c1,by simpa using hc2.lt⟩⟩
   ·have:=top_any (k+1) (h3' w3 h3) (by omega) (by omega);rw[show st.stack.length-1-(k+1)=st.stack.length-2-k by omega,show((k+1:Nat):Int)=(k:Int)+1 by omega]at this;exact this
   ·exact top_any k (h3' w3 h3) (by omega) (by omega)
   ·rw[setc (by omega)];exact hxr
  have HFI:Hid (∀wr,EnM lo w wr M Pb B {st with stack:=stk (rgt st) st.stack a} cs ds cv (.slice (some ⟨sg,0,none⟩) st.stack.length sc) kv dv tv->(∀k (hk:k<a),knd st (st.stack[st.stack.length-2-k]'(by omega))=2)->(∃v4 v5,wr.cell? ⟨M,4,none⟩=some v4∧wr.cell? ⟨M,5,none⟩=some v5)∧(wr.frozen? ⟨M,4,none⟩=false∧wr.frozen? ⟨M,5,none⟩=false)∧Hid (MRes lo M Pb B w (enterS V a code st) (.tuple #[]) (.returned (.tuple #[])) ((wr.setCell ⟨M,4,none⟩ (.slice kp kn kc)).setCell ⟨M,5,none⟩ (.int .i64 0)))):=λwr hm hall=>by
   have hk1:CdAt lo wr (.slice kp kn kc) code:=hk.fr (hm.a.low (λb hb=>(h.rg b (hBe▸hb)).1) h.lz);have h2:=hm.m.setM (i:=4) (u:=.slice kp kn kc) (st':={st with stack:=stk (rgt st) st.stack a,fr:=⟨st.fr.base,code,st.fr.at_⟩}) (kv':=.slice kp kn kc) rfl (by omega) rfl rfl rfl rfl hk1;have h3:=h2.setM (i:=5) (u:=.int .i64 0) (st':={st with stack:=stk (rgt st) st.stack a,fr:=⟨st.fr.base,code,0⟩}) (kv':=.slice kp kn kc) rfl (by omega) rfl rfl rfl rfl h2.cd;refine⟨⟨_,_,hm.m.m.at 4 rfl,hm.m.m.at 5 rfl⟩,⟨hm.m.m.fz 4,hm.m.m.fz 5⟩,?_⟩;rw[hgo hall];exact HBR.out _ _ _ ⟨h3,(hm.a.set (Or.inl hself) _).set (Or.inl hself) _⟩
  have HST:=hid hstop;clear h hk hkl hbw hV HBR HMM hsc hs HH hstop hgo hget HGET hcsg hBe;go_enter Tryz.func101,Tryz.ntmps101;go_upto_region 1 with fail
  go_region_held_law (λw'=>w'.cell? ⟨w.heap.size,0,none⟩=some (.int .i64 (a:Int))) (assumption)
   (first
    |(go_at_call 102;refine HU.out.mono ?_;rintro e w1 ⟨rfl,hw1⟩;obtain⟨hb1,hc2⟩:=HW1.out w1 hw1;have HB1:=hid hb1;have HC1:=hid hc2;obtain⟨y0,y1,-⟩:=hc2;clear hw1 hb1))
  go_wp2;go_loopw [26] (λkv wr=>∃k:Nat,k<=a∧kv=.int .i64 (k:Int)∧Hid (Below w1.heap.size w1 wr)∧Hid (∀j (hj:j<k) (hja:j<a),knd st (st.stack[st.stack.length-2-j]'(by omega))=2)) (λkv _=>a-(intOf kv).toNat)
  case atStart=>exact⟨0,Nat.zero_le _,rfl,Below.refl _ _,λj hj=>absurd hj (by omega)⟩
  case round=>
   rename World=>wr
   obtain⟨k,hka,rfl,HBr,HAL⟩:=hrel;have hbr:=HB1.out.trans (HBr.out.mono HB1.out.size);have HBR2:=hid hbr;clear y0 y1;by_cases hk:k<a
   ·obtain⟨r,cn,cc,cg,kd,i0,i1,hkd,x1,xr,xk,HTP⟩:=HCK.out k hk wr hbr;have hki:(k:Int)<(a:Int):=by omega
    have hwk:IntKind.i64.wrap ((k:Int)+1)=(k:Int)+1:=i64w (by omega);have x1d:wr.drew.cell? ⟨M,1,none⟩=_:=x1;have xrd:wr.drew.cell? ⟨sg,st.stack.length-2-k,none⟩=_:=xr;have xkd:wr.drew.cell? ⟨cg,r*5,none⟩=_:=xk;have x1e:wr.drew.drew.cell? ⟨M,1,none⟩=_:=x1;have xre:wr.drew.drew.cell? ⟨sg,st.stack.length-2-k,none⟩=_:=xr;have xke:wr.drew.drew.cell? ⟨cg,r*5,none⟩=_:=xk;have HKD:=hid hkd;clear x1 xr xk hkd hbr;go_upto_region 6 with fail
    go_region_held_law (λw'=>w'.cell? ⟨M,1,none⟩=some (.slice (some ⟨cg,0,none⟩) cn cc)∧w'.cell? ⟨sg,st.stack.length-2-k,none⟩=some (.int .i32 (r:Int))∧w'.cell? ⟨cg,r*5,none⟩=some (.int .u8 kd)) (first|(with_reducible exact⟨x1d,xrd,xkd⟩)|(with_reducible exact⟨x1e,xre,xke⟩))
     (first
      |(go_at_call 99;with_reducible refine(HTP.out _ (Or.inl rfl)).mono ?_;rintro e w3 ⟨rfl,rfl⟩))
    by_cases h2:kd=2
    ·subst h2;go_wp2;refine⟨⟨k+1,by omega,by go_num,HBr.out.drew.drew,λj hj hja=>?_⟩,by simp[intOf];omega⟩;by_cases hjk:j=k
     ·subst hjk;exact HKD.out
     ·exact HAL.out j (by omega) hja
    ·have HSP1:=hid (HSP.out wr.drew.drew HBR2.out.drew.drew);go_wp2_with (first
      |(go_at_call 79;refine HSP1.out.mono ?_;rintro e w5 ⟨rfl,HRR⟩))
     refine bE ?_;rw[HST.out k hk (by rw[HKD.out];exact h2)];exact HRR.out
   ·obtain rfl:k=a:=by omega
    have hki:¬((k:Int)<(k:Int)):=by omega
    obtain⟨y0,y1,-⟩:=HC1.out.keep HBr.out;have HE0:Hid (EnM lo w wr M Pb B {st with stack:=stk (rgt st) st.stack 0} cs ds cv (.slice (some ⟨sg,0,none⟩) st.stack.length sc) kv dv tv∧C2 wr w.heap.size (.int .i64 (k:Int)) (.slice kp kn kc)):=by
     rw[stk_zero];exact⟨HEN.out wr hbr,HC1.out.keep HBr.out⟩
    clear hbr;go_wp2;go_loopw [48] (λjv wx=>∃j:Nat,j<=k∧jv=.int .i64 (j:Int)∧Hid (EnM lo w wx M Pb B {st with stack:=stk (rgt st) st.stack j} cs ds cv (.slice (some ⟨sg,0,none⟩) st.stack.length sc) kv dv tv∧C2 wx w.heap.size (.int .i64 (k:Int)) (.slice kp kn kc))) (λjv _=>k-(intOf jv).toNat)
    case atStart=>exact⟨0,Nat.zero_le _,rfl,HE0.out⟩
    case round=>
     rename World=>wx
     clear y0 y1 HE0;obtain⟨j,hjk,rfl,HE⟩:=hrel;by_cases hj:j<k
     ·obtain⟨r,cn,cc,cg,q,i0,i1,x1,xr,xq,⟨u,xu⟩,fu,HT1,HT0,HS5,HNX⟩:=HC2.out j hj wx HE.out.1 HE.out.2;have hji:(j:Int)<(k:Int):=by omega
      have hwk:IntKind.i64.wrap ((j:Int)+1)=(j:Int)+1:=i64w (by omega);have x1d:wx.drew.cell? ⟨M,1,none⟩=_:=x1;have xrd:wx.drew.cell? ⟨sg,st.stack.length-2-j,none⟩=_:=xr;have xqd:wx.drew.cell? ⟨cg,r*5+3,none⟩=_:=xq;have x1e:wx.drew.drew.cell? ⟨M,1,none⟩=_:=x1;have xre:wx.drew.drew.cell? ⟨sg,st.stack.length-2-j,none⟩=_:=xr;have xqe:wx.drew.drew.cell? ⟨cg,r*5+3,none⟩=_:=xq;have x1f:wx.drew.drew.drew.cell? ⟨M,1,none⟩=_:=x1;have xrf:wx.drew.drew.drew.cell? ⟨sg,st.stack.length-2-j,none⟩=_:=xr;have xqf:wx.drew.drew.drew.cell? ⟨cg,r*5+3,none⟩=_:=xq;have s1:(wx.setCell ⟨sg,st.stack.length-1-j,none⟩ (.int .i32 q)).drew.drew.drew.cell? ⟨M,1,none⟩=_:=HS5.out.1;have s2:(wx.setCell ⟨sg,st.stack.length-1-j,none⟩ (.int .i32 q)).drew.drew.drew.cell? ⟨sg,st.stack.length-2-j,none⟩=_:=HS5.out.2.1;have s3:(wx.setCell ⟨sg,st.stack.length-1-j,none⟩ (.int .i32 q)).drew.drew.drew.cell? ⟨cg,r*5+3,none⟩=_:=HS5.out.2.2;clear x1 xr xq;go_upto_region 12 with fail
      go_region_held_law (λw'=>w'.cell? ⟨M,1,none⟩=some (.slice (some ⟨cg,0,none⟩) cn cc)∧w'.cell? ⟨sg,st.stack.length-2-j,none⟩=some (.int .i32 (r:Int))∧w'.cell? ⟨cg,r*5+3,none⟩=some (.int .i32 q)) (first|(with_reducible exact⟨x1d,xrd,xqd⟩)|(with_reducible exact⟨x1e,xre,xqe⟩)|(with_reducible exact⟨x1f,xrf,xqf⟩)|(with_reducible exact⟨s1,s2,s3⟩))
       (first
        |(go_at_call 99;first|(with_reducible refine(HT1.out _ (Or.inl rfl)).mono ?_;rintro e w3 ⟨rfl,rfl⟩)|(with_reducible refine(HT0.out _ (Or.inl rfl)).mono ?_;rintro e w3 ⟨rfl,rfl⟩)|(with_reducible refine(HT1.out _ (Or.inr rfl)).mono ?_;rintro e w3 ⟨rfl,rfl⟩)|(with_reducible refine(HT0.out _ (Or.inr rfl)).mono ?_;rintro e w3 ⟨rfl,rfl⟩)))
      all_goals(try go_wp2)
      all_goals
       refine⟨⟨j+1,by omega,by go_num,HNX.out.1.keep (Below.refl _ _).drew.drew.drew,HNX.out.2.keep (Below.refl _ _).drew.drew.drew⟩,by simp[intOf];omega⟩
     ·obtain rfl:j=k:=by omega
      have hji:¬((j:Int)<(j:Int)):=by omega
      obtain⟨⟨v4,v5,x4,x5⟩,⟨f4,f5⟩,HRR⟩:=HFI.out wx HE.out.1 (λi hi=>HAL.out i hi hi);obtain⟨y0,y1,-⟩:=HE.out.2;go_wp2;refine bE ?_;exact HRR.out
theorem give_any{lo:Nat}{w:World}{M Pb:Nat}{st:MSt}{B:List Nat}(x:Int)(h:MM lo w M Pb st B)(hb:0<=st.fr.base∧st.fr.base<(st.stack.length:Int))(hl:st.stack.length<=1000000000000)(hdl:st.dump.length<=1000000000000):
 Calls Tryz.prog 103 #[.pointer (some ⟨M,0,none⟩),.int .i32 x] w λe w'=>MRes lo M Pb B w (giveS x st) (.tuple #[]) e w':=by
 by_cases hd:st.dump=[]
 ·exact give0_any x st.fr.base.toNat h hd (by omega) (by omega) hl
 ·exact give1_any x st.fr.base.toNat h hd (by omega) (by omega) hl hdl
structure ImG (lo:Nat) (w:World) (Pb:Nat) (gs:List LGlob) (gp:Option Addr) (gc:Nat) (G:Nat->Int×Option Addr×Nat×Nat):Prop where
 pg:Pg lo w Pb gs.length gp gc G
 ar:∀i (h:i<gs.length),(G i).1=gs[i].arity∧0<=gs[i].arity∧gs[i].arity<=255
 cd:∀i (h:i<gs.length),CdAt lo w (.slice (G i).2.1 (G i).2.2.1 (G i).2.2.2) gs[i].code
theorem ImG.low{lo:Nat}{w w':World}{Pb:Nat}{gs:List LGlob}{gp:Option Addr}{gc:Nat}{G:Nat->Int×Option Addr×Nat×Nat}(h:ImG lo w Pb gs gp gc G)(hb:Below lo w w'):ImG lo w' Pb gs gp gc G:=⟨h.pg.low hb,h.ar,λi hi=>(h.cd i hi).fr hb⟩
def glS(gs:List LGlob)(i:Int)(st:MSt):MSt:=enterS giveS ((gs[i.toNat]?).getD ⟨⟨#[]⟩,0,false,[]⟩).arity.toNat ((gs[i.toNat]?).getD ⟨⟨#[]⟩,0,false,[]⟩).code st
def lookM(gs:List LGlob)(st:MSt):MSt:=lookS (glS gs) giveS (st.sm-st.su).toNat st
theorem lookG{lo:Nat}{w:World}{M Pb:Nat}{st:MSt}{B:List Nat}{gs:List LGlob}{gp:Option Addr}{gc:Nat}{G:Nat->Int×Option Addr×Nat×Nat}(h:MM lo w M Pb st B)(hP:ImG lo w Pb gs gp gc G)(hW:Wf gs.length st)(hd:st.dump.length<=1000000000):
 Calls Tryz.prog 76 #[.pointer (some ⟨M,0,none⟩)] w λe w'=>MRes lo M Pb B w (lookM gs st) (.tuple #[]) e w':=by
 refine look_any2 (glS gs) giveS (λst=>st.dump.length<=1000000000) h hP.pg hW hd (λst h=>h) (λst x h=>h) (λst x h=>h) (λi hi w' st' B' hM hb hI hW' hs=>?_) (λx w' st' B' hM hI hW' hs=>?_)
 ·obtain⟨h1,h2,h3⟩:=hP.ar i hi;have hg:glS gs (i:Int) st'=enterS giveS gs[i].arity.toNat gs[i].code st':=by
   unfold glS;rw[Int.toNat_natCast,List.getElem?_eq_getElem hi];rfl
  rw[hg,h1];have:=enter_any giveS gs[i].arity.toNat gs[i].code (G i).2.1 (G i).2.2.1 (G i).2.2.2 ((hP.cd i hi).fr hb) hM hs.2.2 ⟨hs.1,hs.2.1⟩ hW'.s (by omega) (λx w2 B2 hM2=>give_any x hM2 ⟨hs.1,hs.2.1⟩ (by omega) (by have:=hI;omega));rw[show((gs[i].arity.toNat:Nat):Int)=gs[i].arity by omega]at this;exact this
 ·exact give_any x hM ⟨hs.1,hs.2.1⟩ (by omega) (by have:=hI;omega)
section
variable {gs:List LGlob} {D:Nat->Nat->Int} {st:ASt}
def mu(st:ASt):Nat:=(st.fuel-st.steps).toNat
theorem rStep_yes(h:WfB gs st):(rStepB st=true↔st.steps≠st.fuel)∧(rStepB st=true->st.steps<st.fuel):=by
 have h1:=rStep_no h;have h2:=h.steps;constructor
 ·constructor
  ·intro h3 h4;rw[h1.1.2 h4]at h3;cases h3
  ·intro h3;cases h4:rStepB st with
   |true=>rfl
   |false=>exact absurd (h1.1.1 h4) h3
 ·intro h3;rcases Int.lt_or_eq_of_le h2.2 with h4|h4
  ·exact h4
  ·rw[h1.1.2 h4]at h3;cases h3
theorem unwind_wf{i:LIns}{d:Int}(hA:AtI gs D st i d)(h:WfA gs D st)(hne:st.steps≠st.fuel)(hop:i.op=19):WfC gs D (rNext st):=by
 have h1:=h.b.steps;have h2:=h.size;have h3:=h.dl;have hw:=(wr_need hA.w).2 (by omega);have hd:=hA.dl;exact⟨⟨⟨h.b.cells,h.b.nc,by show 0<=st.steps+1∧st.steps+1<=st.fuel;omega,h.b.fuel,h.b.used,h.b.spare,h.b.live⟩,h.s,h.ds,by show((flat st).length:Int)+(st.now.s.length:Int)<=256*(st.steps+1+1)+st.used;omega,by show(st.dump.length:Int)<=st.steps+1;omega⟩,by show 0<st.now.s.length;omega⟩
theorem eval_wf{i:LIns}{d:Int}(hA:AtI gs D st i d)(h:WfA gs D st)(hne:st.steps≠st.fuel)(hop:i.op=8):WfC gs D (rEval (rNext st)):=by
 have h1:=h.b.steps;have h2:=h.size;have h3:=h.dl;have hn:=(wr_need hA.w).1;rw[show i.op.toNat=8 by omega]at hn;simp[needR]at hn;have hd:=hA.dl;have hpos:0<st.now.s.length:=by omega
 obtain⟨k1,k2,k3⟩:=hA.nx _ (succ_next (k:=st.now.at_) (by omega) h.f.a.1);rw[show i.op.toNat=8 by omega]at k2;simp[moreR]at k2;refine⟨⟨⟨h.b.cells,h.b.nc,by show 0<=st.steps+1∧st.steps+1<=st.fuel;omega,h.b.fuel,h.b.used,h.b.spare,h.b.live⟩,RefOk.one ?_,λf hf=>?_,?_,?_⟩,by show 0<1;omega⟩
 ·rw[List.getLast?_eq_getElem?];exact h.s.at (by show st.now.s.length-1<st.now.s.length;omega)
 ·rcases List.mem_append.1 (show f∈st.dump++[{(rNext st).now with s:=(rNext st).now.s.dropLast}] from hf) with hf|hf
  ·exact h.ds f hf
  ·rw[List.mem_singleton.1 hf];refine⟨?_,⟨h.f.g,⟨by show 0<=st.now.at_+1;have:=h.f.a.1;omega,k1⟩,⟨k3,?_⟩⟩⟩
   ·show RefOk _ st.now.s.dropLast;rw[List.dropLast_eq_take];exact h.s.take _
   ·show D st.now.g.toNat (st.now.at_+1).toNat<=((st.now.s.dropLast.length+1:Nat):Int);rw[k2,List.length_dropLast];omega
 ·show(((st.dump++[({(rNext st).now with s:=(rNext st).now.s.dropLast}:AFr)]).flatMap (λf:AFr=>f.s)).length:Int)+1<=256*(st.steps+1+1)+st.used;rw[flat_snoc,List.length_append];show(((flat st).length+st.now.s.dropLast.length:Nat):Int)+1<=_;rw[List.length_dropLast];omega
 ·show((st.dump++[_]).length:Int)<=st.steps+1;rw[List.length_append,List.length_singleton];omega
theorem aDo_res(hG:ImgOk gs D)(h:WfA gs D st):ResOk gs D st (aDo gs st):=by
 unfold aDo;have hA:=at_ins hG h;cases hb:rStepB st with
 |false=>
  rw[(rStep_no h.b).2 hb];exact rEnd_res 1 (by decide) h.b.live rfl rfl (Int.le_refl _)
 |true=>
  have hne:=(rStep_yes h.b).1.1 hb;simp only[if_true];split
  ·rename_i hop
   exact(aLook_res hG _ (unwind_wf hA h hne hop) rfl).after rfl rfl (by show st.steps<=st.steps+1;omega)
  ·split
   ·rename_i hop
    exact(aLook_res hG _ (eval_wf hA h hne hop) rfl).after rfl rfl (by show st.steps<=st.steps+1;omega)
   ·rename_i h1 h2
    exact does_res hG h hne h1 h2
theorem rEnd_steps(k:Int)(st:ASt):(rEnd k st).steps=st.steps:=by unfold rEnd;split<;>rfl
theorem ite_P{P:ASt->Prop}{c:Prop}[Decidable c]{a b:ASt}(ha:P a)(hb:P b):P (if c then a else b):=by split<;>assumption
theorem rRoomS_steps(n:Int)(s:ASt):(rRoomS n s).steps=s.steps:=by
 unfold rRoomS;exact ite_P (P:=λt=>t.steps=s.steps) rfl (rEnd_steps _ _)
theorem rSplit_steps(n:Int)(s:ASt):(rSplit n s).steps=s.steps:=by
 unfold rSplit;exact ite_P (P:=λt=>t.steps=s.steps) (rEnd_steps _ _) rfl
theorem rFork_steps(l:List LAlt)(s:ASt):(rFork l s).steps=s.steps:=by
 unfold rFork;refine ite_P (P:=λt=>t.steps=s.steps) (rEnd_steps _ _) ?_;cases l.find? _ with
 |none=>exact rEnd_steps _ _
 |some a=>rfl
theorem rMakeN_steps(n:Nat)(s:ASt):(rMakeN n s).steps=s.steps:=by rw[rMakeN_eq]
theorem rDoes_steps(i:LIns)(s:ASt):(rDoes i s).steps=s.steps:=by
 unfold rDoes rReck;repeat' (first|exact rEnd_steps _ _|exact rSplit_steps _ _|exact rFork_steps _ _|exact rRoomS_steps _ _|exact(rMakeN_steps _ _).trans (rRoomS_steps _ _)|refine ite_P (P:=λt=>t.steps=s.steps) ?_ ?_|exact rfl)
theorem aDo_steps(hG:ImgOk gs D)(h:WfA gs D st)(hb:rStepB st=true):st.steps+1<=(aDo gs st).1.steps:=by
 unfold aDo;have hA:=at_ins hG h;have hne:=(rStep_yes h.b).1.1 hb;rw[hb];simp only[if_true];split
 ·rename_i hop
  exact(aLook_res hG _ (unwind_wf hA h hne hop) rfl).1.2.2
 ·split
  ·rename_i hop
   exact(aLook_res hG _ (eval_wf hA h hne hop) rfl).1.2.2
  ·rw[rDoes_steps];exact Int.le_refl _
theorem aGo_done{r:AR}(h:r.2≠none∨r.1.ended=true):∀n,aGo gs n r=r
 |0=>rfl
 |n+1=>by
  obtain⟨s,o⟩:=r;cases o with
  |some v=>rfl
  |none=>
   rcases h with h|h
   ·exact absurd rfl h
   ·rw[aGo,if_pos h]
theorem aGo_stable(hG:ImgOk gs D):∀(k n:Nat) {a:ASt} {r:AR},ResOk gs D a r->mu r.1+1<=k->mu r.1+1<=n->aGo gs k r=aGo gs n r∧((aGo gs k r).2≠none∨(aGo gs k r).1.ended=true)∧ResOk gs D a (aGo gs k r)
 |0,_,_,_,_,hk,_=>by omega
 |_+1,0,_,_,_,_,hn=>by omega
 |k+1,n+1,a,(s,some v),hR,hk,hn=>⟨rfl,Or.inl (by simp[aGo]),hR⟩
 |k+1,n+1,a,(s,none),hR,hk,hn=>by
  cases he:s.ended with
  |true=>
   rw[aGo_done (r:=(s,none)) (Or.inr he),aGo_done (r:=(s,none)) (Or.inr he)];exact⟨rfl,Or.inr he,hR⟩
  |false=>
   have hw:WfA gs D s:=by
    have:=hR.2;simp only[he]at this;exact this
   have hres:=aDo_res hG hw;have hsf:=hR.1.1;cases hb:rStepB s with
   |false=>
    have e:aDo gs s=(rEnd 1 s,none):=by unfold aDo;rw[hb,(rStep_no hw.b).2 hb];rfl
    have ee:(rEnd 1 s).ended=true:=by unfold rEnd;rw[he];rfl
    rw[aGo,aGo,he];simp only[Bool.false_eq_true,if_false];rw[e,aGo_done (Or.inr ee),aGo_done (Or.inr ee)];refine⟨rfl,Or.inr ee,?_⟩;rw[<-e];exact hres.after hR.1.1 hR.1.2.1 hR.1.2.2
   |true=>
    have hst:=aDo_steps hG hw hb;have hlt:=(rStep_yes hw.b).2 hb;have hfu:=hres.1.1;rw[aGo,aGo,he];simp only[Bool.false_eq_true,if_false];have hmu:mu (aDo gs s).1+1<=mu s:=by
     unfold mu;rw[hfu];omega
    have hk':mu s+1<=k+1:=hk;have hn':mu s+1<=n+1:=hn;exact aGo_stable hG k n (hres.after hR.1.1 hR.1.2.1 hR.1.2.2) (by omega) (by omega)
def aEnd(gs:List LGlob)(r:AR):AR:=aGo gs (mu r.1+1) r
theorem aEnd_next(hG:ImgOk gs D)(h:WfA gs D st):aEnd gs (st,none)=aEnd gs (aDo gs st):=by
 have hres:=aDo_res hG h;unfold aEnd;show aGo gs (mu st+1) (st,none)=_;rw[aGo,if_neg (by rw[h.b.live];decide)];cases hb:rStepB st with
 |false=>
  have e:aDo gs st=(rEnd 1 st,none):=by unfold aDo;rw[hb,(rStep_no h.b).2 hb];rfl
  have ee:(rEnd 1 st).ended=true:=by unfold rEnd;rw[h.b.live];rfl
  rw[e,aGo_done (Or.inr ee),aGo_done (Or.inr ee)]
 |true=>
  have hst:=aDo_steps hG h hb;have hlt:=(rStep_yes h.b).2 hb;have hfu:=hres.1.1;exact(aGo_stable hG _ _ hres (by unfold mu;rw[hfu];omega) (Nat.le_refl _)).1
theorem aEnd_done{r:AR}(h:r.2≠none∨r.1.ended=true):aEnd gs r=r:=aGo_done h _
theorem begin_wf(h:WfB gs st){c:Int}(hc:0<=c∧c<(st.cells.length:Int)):WfC gs D (aBegin c st):=by
 have h1:=h.steps;have h2:=h.used;exact⟨⟨⟨h.cells,h.nc,h.steps,h.fuel,h.used,h.spare,h.live⟩,RefOk.one hc,λf hf=>(by cases hf),(by show(([]:List Int).length:Int)+1<=256*(st.steps+1)+st.used;simp;omega),(by show(([]:List AFr).length:Int)<=st.steps;simp;omega)⟩,(by show 0<1;omega)⟩
theorem aWork_end(hG:ImgOk gs D)(h:WfB gs st){c:Int}(hc:0<=c∧c<(st.cells.length:Int)):aWork gs c st=aEnd gs (aLookF gs (aBegin c st))∧ResOk gs D st (aWork gs c st)∧((aWork gs c st).2≠none∨(aWork gs c st).1.ended=true):=by
 have hr:=aLook_res hG _ (begin_wf (D:=D) h hc) rfl;have hr2:ResOk gs D st (aLookF gs (aBegin c st)):=hr.after rfl rfl (Int.le_refl _);have hfu:=hr2.1.1;have hst:=hr2.1.2.2;obtain⟨k1,k2,k3⟩:=aGo_stable hG ((st.fuel-st.steps).toNat+1) (mu (aLookF gs (aBegin c st)).1+1) hr2 (by unfold mu;rw[hfu];omega) (Nat.le_refl _);exact⟨k1,k3,k2⟩
end
end Go.Proofs.YtahmgjjgikgpoaaGreatDoor

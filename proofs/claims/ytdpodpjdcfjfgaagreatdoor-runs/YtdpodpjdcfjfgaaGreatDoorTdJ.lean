import Derived.Test.YtdpodpjdcfjfgaaGreatDoorRiJ
import Derived.Test.YtdpodpjdcfjfgaaGreatDoorRjJ
set_option maxRecDepth 100000
set_option maxHeartbeats 400000
namespace Go.Proofs.YtdpodpjdcfjfgaaGreatDoor
open Go.RowKit Go.Sort
theorem do_out{lo:Nat}{w:World}{M Pb:Nat}{st:MSt}{B:List Nat}(h:MM lo w M Pb st B)(hm:Mtr st)(hsb:stepB st=false):
 Calls Tryz.prog 225 #[.pointer (some ⟨M,0,none⟩)] w λe w'=>MRes lo M Pb B w (stopS 1 st) (.tuple #[]) e w':=by
 have HS:=hid (step_any h hm);have e:stepS st=stopS 1 st:=by unfold stepS;rw[hsb];rfl
 rw[hsb,e]at HS;clear h hsb hm e;go_enter Tryz.func225,Tryz.ntmps225;go_wp2_with (first
  |(go_at_call 167;refine HS.out.mono ?_;intro e w1 hr;obtain⟨rfl,-⟩:=id hr;have HRR:=hid hr;clear hr))
 refine bE ?_;exact HRR.out.of (AG.refl _ _) (λb hb=>Or.inl hb) rfl
theorem pack0_any{lo:Nat}{w:World}{M Pb:Nat}{st:MSt}{B:List Nat}(tag:Int)(h:MM lo w M Pb st B)(hm:Mtr st)(hcl:st.cells.length<=1000000000)(hs:st.stack=[]):
 Calls Tryz.prog 285 #[.pointer (some ⟨M,0,none⟩),.int .i64 tag,.int .i64 0] w λe w'=>MRes lo M Pb B w (packS tag 0 st) (.tuple #[]) e w':=by
 have hmk:=ref_make 0 (by omega) w;rw[show((0:Nat):Int)=0 from rfl]at hmk;have hMM:=h;obtain⟨cs,ds,cv,sv,kv,dv,tv,h,hBe⟩:=h;obtain⟨sp,sc,rfl⟩:=row_slice h.sk;have hnil:sp=none->sc=0:=λe=>by
  subst e;rcases h.sk.2 with⟨h1,h2⟩|⟨g,cap,cur,hv,-⟩
  ·simp at h1;exact h1.2
  ·cases hv
 obtain⟨W0,hW0⟩:∃W0,w.alloc (.cells (madeCells #[.int .i32 0] 0) 241)=W0:=⟨_,rfl⟩;have hb0:Below w.heap.size w W0:=by rw[<-hW0];exact(Below.refl _ _).alloc (Nat.le_refl _) _
 have hg0:W0.heap[w.heap.size]?=some (.cells ([]:List Value).toArray 241 (0,0)):=by
  have hm0:madeCells #[Value.int .i32 0] 0=#[]:=Array.toList_inj.1 (by rw[made_list];rfl);rw[<-hW0,heap_alloc_new,hm0]
 have HG0:Hid (W0.drew.heap[w.heap.size]?=some (.cells ([]:List Value).toArray 241 (0,0))):=hg0;have hlt0:w.heap.size<W0.heap.size:=by rw[<-hW0];simp
 have HNX:Hid (∀w4,Below w.heap.size w w4->Calls Tryz.prog 283 #[.pointer (some ⟨M,0,none⟩),.int .i64 0] w4 λe w5=>e=.returned (.tuple #[])∧Hid (Calls Tryz.prog 281 #[.pointer (some ⟨M,0,none⟩),.agg #[.int .u8 3,.int .i64 tag,.int .i32 0,.int .i32 0,.slice (some ⟨w.heap.size,0,none⟩) 0 0]] w5 λe w'=>e=.returned (.tuple #[])∧Hid (MRes lo M Pb B w (packS tag 0 st) (.tuple #[]) (.returned (.tuple #[])) w'))):=λw4 hb4=>by
  refine(drop_any 0 (hMM.keep hb4) (by omega) (by rw[hs];simp)).mono λe w5 hr=>?_;have he:=hr.1;obtain⟨-,hA5,B5,hM5,hB5⟩:=hr;refine⟨he,?_⟩;refine(put_any2 ⟨3,tag,0,0,[]⟩ (.slice (some ⟨w.heap.size,0,none⟩) 0 0) ⟨some ⟨w.heap.size,0,none⟩,0,rfl,λi hi=>absurd hi (by simp)⟩ ⟨_,_,_,rfl⟩ hM5 ⟨hm.su,hm.sm,hm.mu,hm.mm⟩ ?_ hcl).mono λe w' hr=>?_
  ·simp[dropS,hs]
  ·have he:=hr.1;refine⟨he,?_⟩;have hps:packS tag 0 st=putS ⟨3,tag,0,0,[]⟩ (dropS 0 st):=by unfold packS;simp
   rw[hps];have hA:=(AG.of_below hb4 (X:=B)).trans hA5 λb hb=>Or.inl hb;exact hr.of hA (λb hb=>(hB5 b hb).imp id λh1=>Nat.le_trans hb4.size h1) rfl
 have k2:W0.drew.cell? ⟨M,2,none⟩=some (.slice sp 0 sc):=by
  have:=(h.keep hb0).m.at 2 rfl;rw[hs]at this;exact this
 have hsz:(Tryz.prog.info? 241).map (·.size)=some 1:=by kernel_rfl
 have HB0:=hid hb0;have i3:IntKind.i64.wrap 0=0:=i64w (by omega);clear h hMM hBe hm hb0 hg0 hs;cases sp with
 |none=>
  obtain rfl:=hnil rfl;clear hnil;go_enter Tryz.func285,Tryz.ntmps285;go_upto_region 1 with fail
  clear hmk hW0;go_region_law
   (first
    |(refine step_copy_splice rfl (.tmp 9) (.tmp 21) 243 243 rfl 241 Tryz.underlying243 hsz (some ⟨w.heap.size,0,none⟩) none 0 0 0 0 (by first|(simp[Act.eval];done)|(simp[Act.eval,Act.put];done)) (by first|(simp[Act.eval];done)|(simp[Act.eval,Act.put];done)) w.heap.size 0 [] 241 HG0.out [] (by simp) (λhp=>absurd hp (by simp)) (by simp) (by simp) w.heap.size w HB0.out.drew (Nat.le_refl _) ?_;intro w4 hg4 hb4;have HDR:=hid (HNX.out w4 hb4);clear hg4 hb4))
  all_goals
   go_wp2_with (first
    |(go_at_call 283;refine HDR.out.mono ?_;rintro e w5 ⟨rfl,HPT⟩)
    |(go_at_call 281;refine HPT.out.mono ?_;rintro e w6 ⟨rfl,HRR⟩))
  all_goals
   refine bE ?_;exact HRR.out
 |some sa=>
  clear hnil;have i1:(0:Int)<=(sc:Int):=by omega
  go_enter Tryz.func285,Tryz.ntmps285;go_upto_region 1 with fail
  clear hmk hW0;go_region_law
   (first
    |(refine step_copy_splice rfl (.tmp 9) (.tmp 21) 243 243 rfl 241 Tryz.underlying243 hsz (some ⟨w.heap.size,0,none⟩) (some sa) 0 0 0 sc (by first|(simp[Act.eval];done)|(simp[Act.eval,Act.put];done)) (by first|(simp[Act.eval];done)|(simp[Act.eval,Act.put];done)) w.heap.size 0 [] 241 HG0.out [] (by simp) (λhp=>absurd hp (by simp)) (by simp) (by simp) w.heap.size w HB0.out.drew (Nat.le_refl _) ?_;intro w4 hg4 hb4;have HDR:=hid (HNX.out w4 hb4);clear hg4 hb4))
  all_goals
   go_wp2_with (first
    |(go_at_call 283;refine HDR.out.mono ?_;rintro e w5 ⟨rfl,HPT⟩)
    |(go_at_call 281;refine HPT.out.mono ?_;rintro e w6 ⟨rfl,HRR⟩))
  all_goals
   refine bE ?_;exact HRR.out
def Rg(v:Int):Prop:=v=-1∨v=-2∨(0<=v∧v<=1000)
theorem reachL_rg(dep:List Int)(todo:List Nat)(k:Nat)(d:Int)(hd:Rg d)(h:∀i,Rg (dep.getD i 0)):∀i,Rg ((reachL dep todo k d).1.getD i 0):=by
 intro i;unfold reachL;split
 ·exact h i
 ·show Rg ((dep.set k _).getD i 0);by_cases hk:k<dep.length
  ·rw[getD_set _ _ _ _ hk];split
   ·split
    ·exact hd
    ·exact Or.inr (Or.inl rfl)
   ·exact h i
  ·rw[List.set_eq_of_length_le (by omega)];exact h i
theorem reachAll_rg(d:Int)(hd:Rg d):∀(l:List Nat) (dep:List Int) (todo:List Nat),(∀i,Rg (dep.getD i 0))->∀i,Rg ((reachAll (dep,todo) l d).1.getD i 0)
 |[],_,_,h=>h
 |k::r,dep,todo,h=>reachAll_rg d hd r (reachL dep todo k d).1 (reachL dep todo k d).2 (reachL_rg dep todo k d hd h)
def InsF(x:LIns):Prop:=(0<=x.op∧x.op<21)∧insG x.op x.a x.alts=true
theorem insF_of{x:LIns}(h:insG x.op x.a x.alts=true):InsF x:=by
 refine⟨?_,h⟩;unfold insG at h;split at h
 ·assumption
 ·cases h
theorem outD_rg{x:LIns}(hx:InsF x){d v:Int}(hd:Rg d)(h1:d≠-1)(h:outD x d=some v):Rg v∧v≠-1:=by
 unfold outD at h;split at h
 ·cases h;exact⟨Or.inr (Or.inl rfl),by decide⟩
 ·split at h
  ·rename_i h2 hf
   cases h;obtain⟨⟨p0,p1⟩,hg⟩:=hx;have hop:x.op=((x.op.toNat:Nat):Int):=by omega
   rw[hop]at hg;have hdd:0<=d∧d<=1000:=by unfold Rg at hd;omega
   obtain⟨e1,e2⟩:=eff_math x.op.toNat (by omega) x.a d x.alts hg hdd.1 (by omega);rw[hf]at e1;obtain⟨b1,b2,b3⟩:=e2 (by simpa using e1.symm);rw[b1];exact⟨Or.inr (Or.inr ⟨b2,b3⟩),by omega⟩
  ·cases h
theorem least_go{code:List LIns}{d0:Int}(hI:∀x∈code,InsF x)(hs:∀k (hk:k<code.length),∀s∈succs code[k] k,s<code.length):∀(n:Nat) (dep:List Int) (todo:List Nat),2*(2*code.length-ranks dep)+todo.length<=n->Inv code d0 dep todo->(∀i,Rg (dep.getD i 0))->∃dep,Least code d0 dep∧∀i,Rg (dep.getD i 0):=by
 intro n;induction n with
 |zero=>
  intro dep todo hm hinv hr;have:todo=[]:=List.eq_nil_of_length_eq_zero (by omega);subst this;exact⟨dep,hinv.least,hr⟩
 |succ n ih=>
  intro dep todo hm hinv hr;rcases List.eq_nil_or_concat todo with rfl|⟨t,k,rfl⟩
  ·exact⟨dep,hinv.least,hr⟩
  ·rw[List.concat_eq_append]at hm hinv;have hk:k<code.length:=hinv.small k (by simp);obtain⟨h1,h2⟩:=hinv.next hk (hs k hk) λd hd ho=>(outD_rg (hI _ (List.getElem_mem hk)) (hr k) hd ho).2;refine ih _ _ (by omega) h1 λi=>?_;unfold leaveL;cases ho:outD code[k] (dep.getD k 0) with
   |none=>exact hr i
   |some v=>exact reachAll_rg v (outD_rg (hI _ (List.getElem_mem hk)) (hr k) (hinv.hot k (by simp)) ho).1 _ dep t hr i
theorem least_ex{code:List LIns}{d0:Int}(hI:∀x∈code,InsF x)(hs:∀k (hk:k<code.length),∀s∈succs code[k] k,s<code.length)(hp:0<code.length)(hd:0<=d0∧d0<=1000):∃dep,Least code d0 dep∧∀i,Rg (dep.getD i 0):=by
 have hrep:∀i,i<(List.replicate code.length (-1:Int)).length->(List.replicate code.length (-1:Int)).getD i 0=-1:=λi hi=>by
  rw[List.length_replicate]at hi;simp[List.getD,hi]
 refine least_go hI hs _ _ _ (Nat.le_refl _) (Inv.first (dep:=List.replicate code.length (-1)) hd.1 (by simp) hp hrep) λi=>reachL_rg _ _ _ _ (Or.inr (Or.inr hd)) (λi=>?_) i;by_cases hi:i<code.length
 ·rw[hrep i (by simpa using hi)];exact Or.inl rfl
 ·exact Or.inr (Or.inr (by simp[List.getD,hi]))
def InsK(x:LIns):Prop:=(0<=x.op∧x.op<21)∧insG x.op (if x.op=1 then 0 else x.a) x.alts=true
theorem InsF.l{x:LIns}(h:InsF x):InsK x:=by
 refine⟨h.1,?_⟩;by_cases e:x.op=1
 ·rw[if_pos e];have h2:=h.2;rw[e]at h2 ⊢;simp[insG,rowN,rowsTab]at h2 ⊢;exact h2.1.1
 ·rw[if_neg e];exact h.2
theorem insL_a{i:LIns}(h:InsK i){m:Nat}(hm:i.op=(m:Int))(hm21:m<21):(m≠0∧m≠1->0<=i.a∧i.a<=65535)∧((m=2∨m=4∨m=5∨m=6∨m=7)->i.a<=1000)∧(m=7->1<=i.a)∧(m=16->i.a<=255)∧(m≠17->i.alts=[])∧(m=17->altsGood i.alts=true):=by
 have h2:=h.2;rw[hm]at h2;obtain⟨a1,a2,a3,a4,a5,a6⟩:=insG_a m hm21 _ i.alts h2;by_cases e:m=1
 ·exact⟨λh=>absurd e h.2,λh=>by omega,λh=>by omega,λh=>by omega,a5,a6⟩
 ·rw[if_neg (by omega)]at a1 a2 a3 a4;exact⟨λh=>a1 h.1,a2,a3,a4,a5,a6⟩
theorem insL_good{i:LIns}(h:InsK i):i.alts.length<=256∧∀x∈i.alts,0<=x.tag∧x.tag<256∧0<=x.to∧x.to<65536:=(insG_good h.2).2
structure CodeOk (code:List LIns) (ar:Int) (D:Nat->Int):Prop where
 pos:0<code.length
 len:code.length<=65535
 start:D 0=ar+1
 ins:∀x∈code,InsK x
 go:∀k (hk:k<code.length),0<=D k->D k<=1000∧wrongR code[k].op.toNat code[k].a (D k)=false∧∀s∈succs code[k] k,s<code.length∧D s=D k+moreR code[k].op.toNat code[k].a∧0<=D s
theorem gBad_ok{code:List LIns}{ar most:Int}(h:gBad code (ar+1) most=none)(hc:codeG code=true)(ha:0<=ar∧ar<=20):∃D,CodeOk code ar D:=by
 have hI:∀x∈code,InsF x:=λx hx=>by
  obtain⟨k,hk,rfl⟩:=List.getElem_of_mem hx;exact insF_of (codeG_ins hc k hk)
 obtain⟨h1,hp⟩:=gBad_none h;have h2:firstBad (badNext code.length) code=none:=by
  unfold gBad at h;rw[h1]at h;simp only at h;rw[if_neg (by omega)]at h;cases hn:firstBad (badNext code.length) code with
  |none=>rfl
  |some k=>rw[hn]at h;cases h
 have hs:∀k (hk:k<code.length),∀s∈succs code[k] k,s<code.length:=λk hk s hs=>by
  have:=firstBad_none_spec h2 k hk;simp only[badNext,List.any_eq_false,decide_eq_true_eq,Nat.not_le]at this;exact this s hs
 obtain⟨dep,hL,hR⟩:=least_ex (d0:=ar+1) hI hs hp (by omega);rw[gBad_depth h1 (by omega) h2 hL]at h;have h3:firstBad (badD dep) code=none:=by
  cases hb:firstBad (badD dep) code with
  |none=>rfl
  |some k=>rw[hb]at h;cases h
 have hb:∀k (hk:k<code.length),dep.getD k 0≠-2∧(dep.getD k 0≠-1->fitsV code[k].op.toNat code[k].a (dep.getD k 0)=true):=λk hk=>by
  have:=firstBad_none_spec h3 k hk;simp only[badD,Bool.or_eq_false_iff,beq_eq_false_iff_ne,Bool.and_eq_false_iff,bne_eq_false_iff_eq,Bool.not_eq_false']at this;exact⟨this.1,λhne=>this.2.elim (λe=>absurd e hne) id⟩
 obtain⟨hpost,hleast⟩:=hL;refine⟨λk=>dep.getD k 0,hp,codeG_len hc,?_,λx hx=>(hI x hx).l,λk hk h0=>?_⟩
 ·have:=hpost.start;have:=(hb 0 hp).1;unfold leI at*;show dep.getD 0 0=_;omega
 ·have h0':0<=dep.getD k 0:=h0;obtain⟨⟨p0,p1⟩,hg⟩:=hI _ (List.getElem_mem hk);have hop:code[k].op=((code[k].op.toNat:Nat):Int):=by omega
  rw[hop]at hg;have hf:=(hb k hk).2 (by omega);have hle:dep.getD k 0<=1000:=by
   have:=hR k;unfold Rg at this;omega
  obtain⟨e1,e2⟩:=eff_math code[k].op.toNat (by omega) code[k].a (dep.getD k 0) code[k].alts hg h0' (by omega);rw[hf]at e1;have hw:wrongR code[k].op.toNat code[k].a (dep.getD k 0)=false:=by simpa using e1.symm
  obtain⟨b1,b2,b3⟩:=e2 hw;refine⟨hle,hw,λs hs'=>?_⟩;have hst:=hpost.step k hk s hs';have ho:outI code[k] (dep.getD k 0)=dep.getD k 0+moreR code[k].op.toNat code[k].a:=by
   unfold outI outD;rw[if_neg (by omega),if_neg (by omega),if_pos hf,<-b1];rfl
  rw[ho]at hst;have hsl:=hs k hk s hs';have:=(hb s hsl).1;unfold leI at hst;refine⟨hsl,?_,?_⟩
  ·show dep.getD s 0=dep.getD k 0+_;omega
  ·show 0<=dep.getD s 0;omega
def gAt(gs:List LGlob)(g:Int):LGlob:=(gs[g.toNat]?).getD ⟨⟨#[]⟩,0,false,[]⟩
def cAt(st:ASt)(r:Int):MCl:=(st.cells[r.toNat]?).getD ⟨0,0,0,0,[]⟩
def iAt(gs:List LGlob)(st:ASt):LIns:=((gAt gs st.now.g).code[st.now.at_.toNat]?).getD ⟨0,0,[]⟩
abbrev AR:=ASt×Option Int
def rArgs(a:Nat)(st:ASt):List Int:=(st.now.s.drop (st.now.s.length-1-a)).take a
def rEnter(gs:List LGlob)(g:Int)(st:ASt):ASt:=
 let a:=(gAt gs g).arity.toNat
 if (rArgs a st).all (λr=>decide ((cAt st r).kind=2)) then {st with now:=⟨stk (λr=>(cAt st r).right) st.now.s a,g,0⟩} else rEnd 3 st
def rVal(v:Int)(st:ASt):AR:=match st.dump.getLast? with
 |none=>(st,some v)
 |some f=>({st with now:={f with s:=f.s++[v]},dump:=st.dump.dropLast},none)
def aLook(gs:List LGlob):Nat->ASt->AR
 |0,st=>(rStepS st,none)
 |n+1,st=>
  if rStepB st then
   let s1:ASt:={st with steps:=st.steps+1}
   let top:=(st.now.s.getLast?).getD 0
   let c:=cAt st top
   if c.kind=5 then aLook gs n (rStk (st.now.s.dropLast++[c.left]) s1)
   else if c.kind=2 then aLook gs n (rStk (st.now.s++[c.left]) s1)
   else if c.kind=0 then (rEnd 7 s1,none)
   else if c.kind=4 then
    if (gAt gs c.n).arity<(st.now.s.length:Int) then (rEnter gs c.n s1,none) else rVal (st.now.s.headD 0) s1
   else if 1<st.now.s.length then (rEnd 5 s1,none)
   else rVal top s1
  else (rStepS st,none)
def aLookF(gs:List LGlob)(st:ASt):AR:=aLook gs (st.fuel-st.steps).toNat st
def rMakeN:Nat->ASt->ASt
 |0,st=>st
 |n+1,st=>rMake ⟨0,0,0,0,[]⟩ (rMakeN n st)
def rFork(alts:List LAlt)(st:ASt):ASt:=
 let c:=cAt st ((st.now.s.getLast?).getD 0)
 if c.kind≠3 then rEnd 3 st else match alts.find? (λa=>decide (a.tag=c.n)) with
  |some a=>{st with now:={st.now with at_:=a.to}}
  |none=>rEnd 4 st
def rSplit(n:Int)(st:ASt):ASt:=
 let c:=cAt st ((st.now.s.getLast?).getD 0)
 if c.kind≠3∨(c.fields.length:Int)≠n then rEnd 3 st else rStk (st.now.s.dropLast++c.fields) st
def rDoes(i:LIns)(st:ASt):ASt:=
 let s:=st.now.s
 let n:=s.length
 let a:=i.a.toNat
 if i.op=0 then (if rRoomB 1 st then rMake ⟨1,i.a,0,0,[]⟩ (rRoomS 1 st) else rEnd 2 st)
 else if i.op=1 then rStk (s++[i.a]) st
 else if i.op=2 then rStk (s++[(s[n-1-a]?).getD 0]) st
 else if i.op=3 then (if rRoomB 1 st then rMake ⟨2,0,(s[n-1]?).getD 0,(s[n-2]?).getD 0,[]⟩ (rStk (s.take (n-2)) (rRoomS 1 st)) else rEnd 2 st)
 else if i.op=4 then rStk (s.take (n-1-a)++[(s[n-1]?).getD 0]) st
 else if i.op=5 then rStk (s.take (n-1)) {st with cells:=st.cells.set ((s[n-2-a]?).getD 0).toNat ⟨5,0,(s[n-1]?).getD 0,0,[]⟩}
 else if i.op=6 then rStk (s.take (n-a)) st
 else if i.op=7 then (if rRoomB i.a st then rMakeN a (rRoomS i.a st) else rEnd 2 st)
 else if i.op=15 then (if rRoomB 1 st then rMake ⟨3,i.a / 256,0,0,s.drop (n-(i.a % 256).toNat)⟩ (rStk (s.take (n-(i.a % 256).toNat)) (rRoomS 1 st)) else rEnd 2 st)
 else if i.op=16 then rSplit i.a st
 else if i.op=17 then rFork i.alts st
 else if i.op=18 then {st with now:={st.now with at_:=i.a}}
 else if i.op=20 then rEnd 4 st
 else rReck i.op (s.take (n-2)) (cAt st ((s[n-2]?).getD 0)) (cAt st ((s[n-1]?).getD 0)) st
def rNext(st:ASt):ASt:={st with steps:=st.steps+1,now:={st.now with at_:=st.now.at_+1}}
def rEval(st:ASt):ASt:={st with dump:=st.dump++[{st.now with s:=st.now.s.dropLast}],now:=⟨[(st.now.s.getLast?).getD 0],0,0⟩}
def aDo(gs:List LGlob)(st:ASt):AR:=
 if rStepB st then
  let i:=iAt gs st
  if i.op=19 then aLookF gs (rNext st) else if i.op=8 then aLookF gs (rEval (rNext st)) else (rDoes i (rNext st),none)
 else (rStepS st,none)
def aGo(gs:List LGlob):Nat->AR->AR
 |0,r=>r
 |n+1,(st,none)=>if st.ended then (st,none) else aGo gs n (aDo gs st)
 |_+1,(st,some v)=>(st,some v)
def aBegin(c:Int)(st:ASt):ASt:={st with now:=⟨[c],0,0⟩,dump:=[]}
def aWork(gs:List LGlob)(c:Int)(st:ASt):AR:=aGo gs ((st.fuel-st.steps).toNat+1) (aLookF gs (aBegin c st))
structure CellOk (ng nc:Nat) (x:MCl):Prop where
 k:0<=x.kind∧x.kind<=5
 l:x.kind=5∨x.kind=2->0<=x.left∧x.left<(nc:Int)
 r:x.kind=2->0<=x.right∧x.right<(nc:Int)
 g:x.kind=4->0<=x.n∧x.n<(ng:Int)
 f:∀r∈x.fields,0<=r∧r<(nc:Int)
 fl:x.fields.length<=255
 n:-9223372036854775808<=x.n∧x.n<=9223372036854775807
def RefOk(nc:Nat)(s:List Int):Prop:=∀r∈s,0<=r∧r<(nc:Int)
theorem CellOk.mono{ng nc nd:Nat}{x:MCl}(h:CellOk ng nc x)(hn:nc<=nd):CellOk ng nd x:=
 ⟨h.k,λe=>by have:=h.l e;omega,λe=>by have:=h.r e;omega,h.g,λr hr=>by have:=h.f r hr;omega,h.fl,h.n⟩
theorem RefOk.mono{nc nd:Nat}{s:List Int}(h:RefOk nc s)(hn:nc<=nd):RefOk nd s:=λr hr=>by have:=h r hr;omega
theorem RefOk.app{nc:Nat}{s t:List Int}(h:RefOk nc s)(k:RefOk nc t):RefOk nc (s++t):=λr hr=>(List.mem_append.1 hr).elim (h r) (k r)
theorem RefOk.one{nc:Nat}{x:Int}(h:0<=x∧x<(nc:Int)):RefOk nc [x]:=λr hr=>by rw[List.mem_singleton.1 hr];exact h
theorem RefOk.take{nc:Nat}{s:List Int}(h:RefOk nc s)(n:Nat):RefOk nc (s.take n):=λr hr=>h r (List.mem_of_mem_take hr)
theorem RefOk.drop{nc:Nat}{s:List Int}(h:RefOk nc s)(n:Nat):RefOk nc (s.drop n):=λr hr=>h r (List.mem_of_mem_drop hr)
theorem RefOk.at{nc:Nat}{s:List Int}(h:RefOk nc s){i:Nat}(hi:i<s.length):0<=(s[i]?).getD 0∧(s[i]?).getD 0<(nc:Int):=by
 rw[List.getElem?_eq_getElem hi];exact h _ (List.getElem_mem hi)
structure ImgOk (gs:List LGlob) (D:Nat->Nat->Int):Prop where
 few:gs.length<=200000
 ar:∀g (h:g<gs.length),0<=gs[g].arity∧gs[g].arity<=20
 code:∀g (h:g<gs.length),CodeOk gs[g].code gs[g].arity (D g)
 glob:∀g (h:g<gs.length),∀i∈gs[g].code,(i.op=1->0<=i.a∧i.a<(gs.length:Int))∧-9223372036854775808<=i.a∧i.a<=9223372036854775807
structure FrOk (gs:List LGlob) (D:Nat->Nat->Int) (f:AFr) (n:Nat):Prop where
 g:0<=f.g∧f.g<(gs.length:Int)
 a:0<=f.at_∧f.at_.toNat<(gAt gs f.g).code.length
 d:0<=D f.g.toNat f.at_.toNat∧D f.g.toNat f.at_.toNat<=(n:Int)
structure WfB (gs:List LGlob) (st:ASt):Prop where
 cells:∀x∈st.cells,CellOk gs.length st.cells.length x
 nc:(st.cells.length:Int)=(gs.length:Int)+st.used
 steps:0<=st.steps∧st.steps<=st.fuel
 fuel:st.fuel<=2000000
 used:0<=st.used∧st.used<=st.spare
 spare:st.spare<=2000000
 live:st.ended=false
def flat(st:ASt):List Int:=st.dump.flatMap (·.s)
structure WfS (gs:List LGlob) (D:Nat->Nat->Int) (st:ASt):Prop where
 b:WfB gs st
 s:RefOk st.cells.length st.now.s
 ds:∀f∈st.dump,RefOk st.cells.length f.s∧FrOk gs D f (f.s.length+1)
 size:((flat st).length:Int)+(st.now.s.length:Int)<=256*(st.steps+1)+st.used
 dl:(st.dump.length:Int)<=st.steps
structure WfC (gs:List LGlob) (D:Nat->Nat->Int) (st:ASt):Prop extends WfS gs D st where
 ne:0<st.now.s.length
structure WfA (gs:List LGlob) (D:Nat->Nat->Int) (st:ASt):Prop extends WfS gs D st where
 f:FrOk gs D st.now st.now.s.length
def ResOk(gs:List LGlob)(D:Nat->Nat->Int)(a:ASt)(r:AR):Prop:=
 (r.1.fuel=a.fuel∧r.1.spare=a.spare∧a.steps<=r.1.steps)∧match r.2 with
 |some v=>WfB gs r.1∧0<=v∧v<(r.1.cells.length:Int)
 |none=>if r.1.ended then r.1.kind≠0 else WfA gs D r.1
theorem cAt_ok{gs:List LGlob}{st:ASt}(h:WfB gs st){r:Int}(hr:0<=r∧r<(st.cells.length:Int)):∃hi:r.toNat<st.cells.length,cAt st r=st.cells[r.toNat]∧CellOk gs.length st.cells.length (cAt st r):=by
 have hi:r.toNat<st.cells.length:=by omega
 have e:cAt st r=st.cells[r.toNat]:=by unfold cAt;rw[List.getElem?_eq_getElem hi];rfl
 exact⟨hi,e,by rw[e];exact h.cells _ (List.getElem_mem hi)⟩
theorem gAt_eq{gs:List LGlob}{g:Int}(h:0<=g∧g<(gs.length:Int)):∃hi:g.toNat<gs.length,gAt gs g=gs[g.toNat]:=by
 have hi:g.toNat<gs.length:=by omega
 exact⟨hi,by unfold gAt;rw[List.getElem?_eq_getElem hi];rfl⟩
theorem WfC.top{gs:List LGlob}{D:Nat->Nat->Int}{st:ASt}(h:WfC gs D st):0<=(st.now.s.getLast?).getD 0∧(st.now.s.getLast?).getD 0<(st.cells.length:Int):=by
 rw[List.getLast?_eq_getElem?];exact h.s.at (by have:=h.ne;omega)
theorem rEnd_res{gs:List LGlob}{D:Nat->Nat->Int}{a st:ASt}(k:Int)(hk:k≠0)(h:st.ended=false)(h1:st.fuel=a.fuel)(h2:st.spare=a.spare)(h3:a.steps<=st.steps):ResOk gs D a (rEnd k st,none):=by
 have e:rEnd k st={st with ended:=true,kind:=k}:=by unfold rEnd;rw[h];rfl
 rw[e];exact⟨⟨h1,h2,h3⟩,hk⟩
theorem rStep_no{gs:List LGlob}{st:ASt}(h:WfB gs st):(rStepB st=false↔st.steps=st.fuel)∧(rStepB st=false->rStepS st=rEnd 1 st):=by
 have hl:=h.live;unfold rStepB rStepS;rw[hl];by_cases e:st.steps=st.fuel<;>simp[e]
theorem flat_snoc(l:List AFr)(f:AFr):((l++[f]).flatMap (·.s))=l.flatMap (·.s)++f.s:=by simp
theorem rVal_snoc{st:ASt}{l:List AFr}{f:AFr}(v:Int)(e:st.dump=l++[f]):rVal v st=({st with now:={f with s:=f.s++[v]},dump:=l},none):=by
 unfold rVal;rw[e];simp
theorem rVal_nil{st:ASt}(v:Int)(e:st.dump=[]):rVal v st=(st,some v):=by
 unfold rVal;rw[e];rfl
theorem rVal_res{gs:List LGlob}{D:Nat->Nat->Int}{st:ASt}(h:WfC gs D st){v:Int}(hv:0<=v∧v<(st.cells.length:Int)):ResOk gs D st (rVal v st):=by
 rcases List.eq_nil_or_concat st.dump with e|⟨l,f,e⟩
 ·rw[rVal_nil v e];exact⟨⟨rfl,rfl,Int.le_refl _⟩,h.b,hv⟩
 ·rw[List.concat_eq_append]at e;rw[rVal_snoc v e];refine⟨⟨rfl,rfl,Int.le_refl _⟩,?_⟩;have hf:=h.ds f (by rw[e];simp);have hz:=h.size;have hdl:=h.dl;have hne:=h.ne;show if st.ended then _ else _
  rw[h.b.live];refine⟨⟨⟨h.b.cells,h.b.nc,h.b.steps,h.b.fuel,h.b.used,h.b.spare,rfl⟩,hf.1.app (RefOk.one hv),λx hx=>h.ds x (by rw[e];simp[show x∈l from hx]),?_,?_⟩,⟨hf.2.g,hf.2.a,?_⟩⟩
  ·unfold flat at hz ⊢;rw[e,flat_snoc]at hz;simp only[List.length_append,List.length_singleton]at hz ⊢;omega
  ·rw[e]at hdl;simp only[List.length_append,List.length_singleton]at hdl ⊢;omega
  ·have:=hf.2.d;simp only[List.length_append,List.length_singleton];exact this
theorem rEnter_res{gs:List LGlob}{D:Nat->Nat->Int}(hG:ImgOk gs D){st:ASt}(h:WfC gs D st){g:Int}(hg:0<=g∧g<(gs.length:Int))(ha:(gAt gs g).arity<(st.now.s.length:Int)):ResOk gs D st (rEnter gs g st,none):=by
 obtain⟨hi,eg⟩:=gAt_eq hg;obtain⟨a0,a1⟩:=hG.ar _ hi;unfold rEnter;rw[eg]at ha ⊢;simp only;split
 ·rename_i hall
  refine⟨⟨rfl,rfl,Int.le_refl _⟩,?_⟩;show if st.ended then _ else _
  rw[h.b.live];have hlen:=stk_len (λr=>(cAt st r).right) st.now.s gs[g.toNat].arity.toNat (by omega);have hsz:=h.size;refine⟨⟨⟨h.b.cells,h.b.nc,h.b.steps,h.b.fuel,h.b.used,h.b.spare,rfl⟩,?_,h.ds,?_,h.dl⟩,⟨hg,⟨by show(0:Int)<=0;omega,?_⟩,?_⟩⟩
  ·show RefOk _ (stk _ _ _);unfold stk;refine(h.s.take _).app λr hr=>?_;obtain⟨q,hq,rfl⟩:=List.mem_map.1 hr;have hq2:q∈rArgs gs[g.toNat].arity.toNat st:=hq;have hk:=List.all_eq_true.1 hall q hq2;obtain⟨hqi,-,hc⟩:=cAt_ok h.b (h.s q (List.mem_of_mem_drop (List.mem_of_mem_take hq)));exact hc.r (by simpa using hk)
  ·show((flat st).length:Int)+((stk _ _ _).length:Int)<=_;rw[hlen];exact hsz
  ·show(0:Int).toNat<(gAt gs g).code.length;rw[eg];exact(hG.code _ hi).pos
  ·show 0<=D g.toNat 0∧D g.toNat 0<=((stk _ _ _).length:Int);rw[(hG.code _ hi).start,hlen];omega
 ·exact rEnd_res 3 (by decide) h.b.live rfl rfl (Int.le_refl _)
theorem ResOk.after{gs:List LGlob}{D:Nat->Nat->Int}{a b:ASt}{r:AR}(h:ResOk gs D b r)(h1:b.fuel=a.fuel)(h2:b.spare=a.spare)(h3:a.steps<=b.steps):ResOk gs D a r:=
 ⟨⟨h.1.1.trans h1,h.1.2.1.trans h2,Int.le_trans h3 h.1.2.2⟩,h.2⟩
theorem WfC.stepped{gs:List LGlob}{D:Nat->Nat->Int}{st:ASt}(h:WfC gs D st)(hs:st.steps≠st.fuel){s:List Int}(hr:RefOk st.cells.length s)(hp:0<s.length)(hl:s.length<=st.now.s.length+256):WfC gs D (rStk s {st with steps:=st.steps+1}):=by
 have h1:=h.b.steps;have h2:=h.size;have h3:=h.dl;exact⟨⟨⟨h.b.cells,h.b.nc,by show 0<=st.steps+1∧st.steps+1<=st.fuel;omega,h.b.fuel,h.b.used,h.b.spare,h.b.live⟩,hr,h.ds,by show((flat st).length:Int)+(s.length:Int)<=256*(st.steps+1+1)+st.used;omega,by show(st.dump.length:Int)<=st.steps+1;omega⟩,hp⟩
theorem aLook_res{gs:List LGlob}{D:Nat->Nat->Int}(hG:ImgOk gs D):∀(n:Nat) {st:ASt},WfC gs D st->(st.fuel-st.steps).toNat=n->ResOk gs D st (aLook gs n st)
 |0,st,h,hn=>by
  have h1:=h.b.steps;have hb:=(rStep_no h.b).1.2 (by omega);rw[aLook,(rStep_no h.b).2 hb];exact rEnd_res 1 (by decide) h.b.live rfl rfl (Int.le_refl _)
 |n+1,st,h,hn=>by
  have h1:=h.b.steps;have hne:st.steps≠st.fuel:=by omega
  have hb:rStepB st=true:=by
   cases hb:rStepB st with
   |true=>rfl
   |false=>exact absurd ((rStep_no h.b).1.1 hb) hne
  obtain⟨ti,te,tc⟩:=cAt_ok h.b h.top;have hpos:=h.ne;have hself:WfC gs D {st with steps:=st.steps+1}:=h.stepped hne (s:=st.now.s) h.s h.ne (by omega);rw[aLook,if_pos hb];simp only;have hdl:RefOk st.cells.length st.now.s.dropLast:=by rw[List.dropLast_eq_take];exact h.s.take _
  split
  ·rename_i hk
   have:=h.stepped hne (s:=st.now.s.dropLast++[(cAt st ((st.now.s.getLast?).getD 0)).left]) (hdl.app (RefOk.one (tc.l (Or.inl hk)))) (by simp) (by simp;omega);exact(aLook_res hG n this (by show(st.fuel-(st.steps+1)).toNat=n;omega)).after rfl rfl (by show st.steps<=st.steps+1;omega)
  ·split
   ·rename_i hk
    have:=h.stepped hne (s:=st.now.s++[(cAt st ((st.now.s.getLast?).getD 0)).left]) (h.s.app (RefOk.one (tc.l (Or.inr hk)))) (by simp) (by simp);exact(aLook_res hG n this (by show(st.fuel-(st.steps+1)).toNat=n;omega)).after rfl rfl (by show st.steps<=st.steps+1;omega)
   ·split
    ·exact rEnd_res 7 (by decide) h.b.live rfl rfl (by show st.steps<=st.steps+1;omega)
    ·split
     ·rename_i hk
      split
      ·rename_i ha
       exact(rEnter_res hG hself (tc.g hk) ha).after rfl rfl (by show st.steps<=st.steps+1;omega)
      ·refine(rVal_res hself ?_).after rfl rfl (by show st.steps<=st.steps+1;omega);have:=h.s.at hpos;rw[List.headD_eq_head?_getD,List.head?_eq_getElem?];exact this
     ·split
      ·exact rEnd_res 5 (by decide) h.b.live rfl rfl (by show st.steps<=st.steps+1;omega)
      ·exact(rVal_res hself h.top).after rfl rfl (by show st.steps<=st.steps+1;omega)
section
variable {gs:List LGlob} {D:Nat->Nat->Int} {st:ASt}
structure AtI (gs:List LGlob) (D:Nat->Nat->Int) (st:ASt) (i:LIns) (d:Int):Prop where
 eq:iAt gs st=i
 mem:∃g,∃h:g<gs.length,i∈gs[g].code
 f:InsK i
 de:d=D st.now.g.toNat st.now.at_.toNat
 dl:0<=d∧d<=(st.now.s.length:Int)∧d<=1000
 w:wrongR i.op.toNat i.a d=false
 nx:∀k∈succs i st.now.at_.toNat,k<(gAt gs st.now.g).code.length∧D st.now.g.toNat k=d+moreR i.op.toNat i.a∧0<=D st.now.g.toNat k
 gl:(i.op=1->0<=i.a∧i.a<(gs.length:Int))∧-9223372036854775808<=i.a∧i.a<=9223372036854775807
theorem at_ins(hG:ImgOk gs D)(h:WfA gs D st):AtI gs D st (iAt gs st) (D st.now.g.toNat st.now.at_.toNat):=by
 obtain⟨hi,eg⟩:=gAt_eq h.f.g;have ha:=h.f.a.2;have hd:=h.f.d;have hc:=hG.code _ hi;have e:iAt gs st=(gAt gs st.now.g).code[st.now.at_.toNat]:=by unfold iAt;rw[List.getElem?_eq_getElem ha];rfl
 have ha':=ha;rw[eg]at ha';have e2:iAt gs st=gs[st.now.g.toNat].code[st.now.at_.toNat]:=by rw[e];simp only[eg]
 have hm:iAt gs st∈gs[st.now.g.toNat].code:=by rw[e2];exact List.getElem_mem _
 obtain⟨g1,g2,g3⟩:=hc.go _ ha' hd.1;rw[<-e2]at g2 g3;refine⟨rfl,⟨_,hi,hm⟩,hc.ins _ hm,rfl,⟨hd.1,hd.2,g1⟩,g2,λk hk=>?_,hG.glob _ hi _ hm⟩;rw[eg];exact g3 k hk
theorem nx_ok{i:LIns}{d:Int}(hA:AtI gs D st i d)(h:WfA gs D st)(hne:st.steps≠st.fuel){cells':List MCl}{used' at':Int}{s':List Int}(hk:at'.toNat∈succs i st.now.at_.toNat)(h0:0<=at')(hc:∀x∈cells',CellOk gs.length cells'.length x)(hn:(cells'.length:Int)=(gs.length:Int)+used')(hu:st.used<=used'∧used'<=st.spare)(hr:RefOk cells'.length s')(hl:(s'.length:Int)=(st.now.s.length:Int)+moreR i.op.toNat i.a)(hz:(s'.length:Int)<=(st.now.s.length:Int)+256+(used'-st.used)):
 WfA gs D {st with steps:=st.steps+1,cells:=cells',used:=used',now:=⟨s',st.now.g,at'⟩}:=by
 obtain⟨k1,k2,k3⟩:=hA.nx _ hk;have h1:=h.b.steps;have h2:=h.b.used;have h3:=h.b.nc;have h4:=h.size;have h5:=h.dl;have h6:=hA.dl;have hle:st.cells.length<=cells'.length:=by omega
 refine⟨⟨⟨hc,hn,by show 0<=st.steps+1∧st.steps+1<=st.fuel;omega,h.b.fuel,by show 0<=used'∧used'<=st.spare;omega,h.b.spare,h.b.live⟩,hr,λf hf=>⟨(h.ds f hf).1.mono hle,(h.ds f hf).2⟩,?_,?_⟩,⟨h.f.g,⟨h0,k1⟩,⟨k3,?_⟩⟩⟩
 ·show((flat st).length:Int)+(s'.length:Int)<=256*(st.steps+1+1)+used';omega
 ·show(st.dump.length:Int)<=st.steps+1;omega
 ·show D st.now.g.toNat at'.toNat<=(s'.length:Int);rw[k2];omega
theorem wr_need{m:Nat}{a d:Int}(h:wrongR m a d=false):needR m a<=d∧(m=19->d=1):=by
 simp only[wrongR,Bool.or_eq_false_iff,Bool.and_eq_false_iff,decide_eq_false_iff_not,beq_eq_false_iff_ne,bne_eq_false_iff_eq]at h;refine⟨by omega,λe=>?_⟩;rcases h.1.2 with h|h
 ·exact absurd e h
 ·exact h
theorem succ_next{i:LIns}{k:Int}(h:i.op≠17∧i.op≠18∧i.op≠19∧i.op≠20)(h0:0<=k):(k+1).toNat∈succs i k.toNat:=by
 unfold succs;rw[if_neg (by omega),if_neg (by omega),if_neg (by omega)];simp;omega
theorem rest_wf(h:WfA gs D st):(rNext st).ended=false∧(rNext st).fuel=st.fuel∧(rNext st).spare=st.spare∧st.steps<=(rNext st).steps:=⟨h.b.live,rfl,rfl,by show st.steps<=st.steps+1;omega⟩
theorem go_res{b:ASt}(h:WfA gs D b)(h1:b.fuel=st.fuel)(h2:b.spare=st.spare)(h3:st.steps<=b.steps):ResOk gs D st (b,none):=by
 refine⟨⟨h1,h2,h3⟩,?_⟩;show if b.ended then _ else _
 rw[h.b.live];exact h
theorem room_yes{n:Int}{st:ASt}(h:rRoomB n st=true):st.used+n<=st.spare∧rRoomS n st={st with used:=st.used+n}:=by
 refine⟨by simpa[rRoomB]using h,?_⟩;unfold rRoomS;rw[if_pos h]
theorem cells_add{ng:Nat}{l:List MCl}{x:MCl}(h:∀y∈l,CellOk ng l.length y)(hx:CellOk ng (l.length+1) x):∀y∈l++[x],CellOk ng (l++[x]).length y:=by
 intro y hy;rw[List.length_append,List.length_singleton];rcases List.mem_append.1 hy with hy|hy
 ·exact(h y hy).mono (by omega)
 ·rw[List.mem_singleton.1 hy];exact hx
theorem rMake_eq(x:MCl)(b:ASt):rMake x b={b with cells:=b.cells++[x],now:={b.now with s:=b.now.s++[(b.cells.length:Int)]}}:=rfl
theorem make_res{i:LIns}{d:Int}(hA:AtI gs D st i d)(h:WfA gs D st)(hne:st.steps≠st.fuel)(hop:i.op≠17∧i.op≠18∧i.op≠19∧i.op≠20)(x:MCl){s':List Int}(hs:RefOk st.cells.length s')(hl:(s'.length:Int)+1=(st.now.s.length:Int)+moreR i.op.toNat i.a)(hz:s'.length<=st.now.s.length)(hx:CellOk gs.length (st.cells.length+1) x):
 ResOk gs D st (if rRoomB 1 (rNext st) then rMake x (rStk s' (rRoomS 1 (rNext st))) else rEnd 2 (rNext st),none):=by
 cases hr:rRoomB 1 (rNext st) with
 |false=>
  obtain⟨r1,r2,r3,r4⟩:=rest_wf h;exact rEnd_res 2 (by decide) r1 r2 r3 r4
 |true=>
  obtain⟨hu,e⟩:=room_yes hr;have hu':st.used+1<=st.spare:=hu;rw[e,rMake_eq];have hnc:=h.b.nc;exact go_res (nx_ok hA h hne (at':=st.now.at_+1) (cells':=st.cells++[x]) (used':=st.used+1) (s':=s'++[(st.cells.length:Int)]) (succ_next hop h.f.a.1) (by have:=h.f.a.1;omega) (cells_add h.b.cells hx) (by simp;omega) (by omega) (by rw[List.length_append,List.length_singleton];exact(hs.mono (by omega)).app (RefOk.one (by omega))) (by simp;omega) (by simp;omega)) rfl rfl (by show st.steps<=st.steps+1;omega)
theorem stk_res{i:LIns}{d:Int}(hA:AtI gs D st i d)(h:WfA gs D st)(hne:st.steps≠st.fuel)(hop:i.op≠17∧i.op≠18∧i.op≠19∧i.op≠20){s':List Int}(hs:RefOk st.cells.length s')(hl:(s'.length:Int)=(st.now.s.length:Int)+moreR i.op.toNat i.a)(hz:s'.length<=st.now.s.length+256):
 ResOk gs D st (rStk s' (rNext st),none):=
 go_res (nx_ok hA h hne (at':=st.now.at_+1) (cells':=st.cells) (used':=st.used) (s':=s') (succ_next hop h.f.a.1) (by have:=h.f.a.1;omega) h.b.cells h.b.nc ⟨Int.le_refl _,h.b.used.2⟩ hs hl (by omega)) rfl rfl (by show st.steps<=st.steps+1;omega)
theorem hole_ok(ng nc:Nat):CellOk ng nc ⟨0,0,0,0,[]⟩:=⟨by simp,by simp,by simp,by simp,by simp,by simp,by simp⟩
theorem rMakeN_eq:∀(n:Nat) (b:ASt),rMakeN n b={b with cells:=b.cells++List.replicate n ⟨0,0,0,0,[]⟩,now:={b.now with s:=b.now.s++(List.range n).map λk=>((b.cells.length+k:Nat):Int)}}
 |0,b=>by simp[rMakeN]
 |n+1,b=>by
  rw[rMakeN,rMakeN_eq n b,rMake_eq];simp[List.replicate_succ',List.range_succ]
theorem rk_rg(op l r:Int):-9223372036854775808<=rkN op l r∧rkN op l r<=9223372036854775807:=by
 have hw:∀z:Int,-9223372036854775808<=wrap64 z∧wrap64 z<=9223372036854775807:=λz=>by unfold wrap64;omega
 unfold rkN;repeat' split
 all_goals first|exact hw _|omega
theorem does_res(hG:ImgOk gs D)(h:WfA gs D st)(hne:st.steps≠st.fuel)(h19:(iAt gs st).op≠19)(h8:(iAt gs st).op≠8):ResOk gs D st (rDoes (iAt gs st) (rNext st),none):=by
 have hA:=at_ins hG h;revert hA h19 h8;generalize iAt gs st=i;generalize D st.now.g.toNat st.now.at_.toNat=d;intro h19 h8 hA;obtain⟨⟨p0,p1⟩,-⟩:=hA.f;obtain⟨m,hm⟩:∃m:Nat,i.op=(m:Int):=⟨i.op.toNat,by omega⟩;have hm21:m<21:=by omega
 have hm':i.op.toNat=m:=by omega
 obtain⟨a1,a2,a3,a4,a5,a6⟩:=insL_a hA.f hm hm21;have hw:=hA.w;rw[hm']at hw;obtain⟨w1,w2⟩:=wr_need hw;obtain⟨d0,d1,d2⟩:=hA.dl;obtain⟨gl1,gl2⟩:=hA.gl;have hsn:(rNext st).now.s=st.now.s:=rfl;have hcn:(rNext st).cells=st.cells:=rfl;have hca:∀r,cAt (rNext st) r=cAt st r:=λr=>rfl;have hnc:=h.b.nc;have hu0:=h.b.used;obtain⟨r1,r2,r3,r4⟩:=rest_wf h;have hgl:gs.length<=st.cells.length:=by omega
 unfold rDoes;simp only[hsn,hcn];rcases all21 m hm21 with rfl|rfl|rfl|rfl|rfl|rfl|rfl|rfl|rfl|rfl|rfl|rfl|rfl|rfl|rfl|rfl|rfl|rfl|rfl|rfl|rfl
 ·rw[if_pos (by omega)];have hmk:=make_res hA h hne (by omega) ⟨1,i.a,0,0,[]⟩ (s':=st.now.s) h.s (by rw[hm'];simp[moreR]) (Nat.le_refl _) ⟨by simp,by simp,by simp,by simp,by simp,by simp,gl2⟩;cases hr:rRoomB 1 (rNext st) with
  |false=>rw[hr]at hmk;exact hmk
  |true=>
   rw[hr,(room_yes hr).2]at hmk;rw[(room_yes hr).2];exact hmk
 ·rw[if_neg (by omega),if_pos (by omega)];exact stk_res hA h hne (by omega) (h.s.app (RefOk.one (by have:=gl1 (by omega);omega))) (by rw[hm'];simp[moreR]) (by simp)
 ·rw[if_neg (by omega),if_neg (by omega),if_pos (by omega)];simp[needR]at w1;have:=a1 (by omega);exact stk_res hA h hne (by omega) (h.s.app (RefOk.one (h.s.at (by omega)))) (by rw[hm'];simp[moreR]) (by simp)
 ·rw[if_neg (by omega),if_neg (by omega),if_neg (by omega),if_pos (by omega)];simp[needR]at w1;have t1:=h.s.at (i:=st.now.s.length-1) (by omega);have t2:=h.s.at (i:=st.now.s.length-2) (by omega);exact make_res hA h hne (by omega) _ (s':=st.now.s.take (st.now.s.length-2)) (h.s.take _) (by rw[hm'];simp[moreR];omega) (by simp) ⟨by simp,λ_=>by simp only;omega,λ_=>by simp only;omega,by simp,by simp,by simp,by simp⟩
 ·rw[if_neg (by omega),if_neg (by omega),if_neg (by omega),if_neg (by omega),if_pos (by omega)];simp[needR]at w1;have:=a1 (by omega);exact stk_res hA h hne (by omega) ((h.s.take _).app (RefOk.one (h.s.at (by omega)))) (by rw[hm'];simp[moreR];omega) (by simp;omega)
 ·rw[if_neg (by omega),if_neg (by omega),if_neg (by omega),if_neg (by omega),if_neg (by omega),if_pos (by omega)];simp[needR]at w1;have:=a1 (by omega);have t1:=h.s.at (i:=st.now.s.length-1) (by omega);refine go_res (nx_ok hA h hne (at':=st.now.at_+1) (cells':=st.cells.set ((st.now.s[st.now.s.length-2-i.a.toNat]?).getD 0).toNat ⟨5,0,(st.now.s[st.now.s.length-1]?).getD 0,0,[]⟩) (used':=st.used) (s':=st.now.s.take (st.now.s.length-1)) (succ_next (by omega) h.f.a.1) (by have:=h.f.a.1;omega) (λx hx=>?_) (by rw[List.length_set];exact h.b.nc) ⟨Int.le_refl _,h.b.used.2⟩ (by rw[List.length_set];exact h.s.take _) (by rw[hm'];simp[moreR];omega) (by simp;omega)) rfl rfl (by show st.steps<=st.steps+1;omega);rw[List.length_set];rcases List.mem_or_eq_of_mem_set hx with hx|rfl
  ·exact h.b.cells x hx
  ·exact⟨by simp,λ_=>t1,by simp,by simp,by simp,by simp,by simp⟩
 ·rw[if_neg (by omega),if_neg (by omega),if_neg (by omega),if_neg (by omega),if_neg (by omega),if_neg (by omega),if_pos (by omega)];simp[needR]at w1;have:=a1 (by omega);exact stk_res hA h hne (by omega) (h.s.take _) (by rw[hm'];simp[moreR];omega) (by simp;omega)
 ·rw[if_neg (by omega),if_neg (by omega),if_neg (by omega),if_neg (by omega),if_neg (by omega),if_neg (by omega),if_neg (by omega),if_pos (by omega)];have:=a1 (by omega);cases hr:rRoomB i.a (rNext st) with
  |false=>exact rEnd_res 2 (by decide) r1 r2 r3 r4
  |true=>
   obtain⟨hu,e⟩:=room_yes hr;have hu':st.used+i.a<=st.spare:=hu;rw[e,rMakeN_eq];refine go_res (nx_ok hA h hne (at':=st.now.at_+1) (cells':=st.cells++List.replicate i.a.toNat ⟨0,0,0,0,[]⟩) (used':=st.used+i.a) (s':=st.now.s++(List.range i.a.toNat).map λk=>((st.cells.length+k:Nat):Int)) (succ_next (by omega) h.f.a.1) (by have:=h.f.a.1;omega) (λx hx=>?_) (by simp;omega) (by omega) ?_ (by rw[hm'];simp[moreR];omega) (by simp;omega)) rfl rfl (by show st.steps<=st.steps+1;omega)
   ·rcases List.mem_append.1 hx with hx|hx
    ·exact(h.b.cells x hx).mono (by simp)
    ·rw[List.eq_of_mem_replicate hx];exact hole_ok _ _
   ·refine(h.s.mono (by simp)).app λr hr=>?_;obtain⟨k,hk,rfl⟩:=List.mem_map.1 hr;have:=List.mem_range.1 hk;simp;omega
 ·exact absurd hm h8
 all_goals try
  rw[if_neg (by omega),if_neg (by omega),if_neg (by omega),if_neg (by omega),if_neg (by omega),if_neg (by omega),if_neg (by omega),if_neg (by omega),if_neg (by omega),if_neg (by omega),if_neg (by omega),if_neg (by omega),if_neg (by omega)];simp[needR]at w1;unfold rReck;simp only[hca];split
  ·exact rEnd_res 3 (by decide) r1 r2 r3 r4
  ·split
   ·exact rEnd_res 6 (by decide) r1 r2 r3 r4
   ·have hmk:=make_res hA h hne (by omega) (rkC i.op (cAt st ((st.now.s[st.now.s.length-2]?).getD 0)).n (cAt st ((st.now.s[st.now.s.length-1]?).getD 0)).n) (s':=st.now.s.take (st.now.s.length-2)) (h.s.take _) (by rw[hm'];simp[moreR];omega) (by simp) ⟨by unfold rkC;simp only;split<;>omega,by unfold rkC;simp only;split<;>simp,by unfold rkC;simp only;split<;>simp,by unfold rkC;simp only;split<;>simp,by simp[rkC],by simp[rkC],rk_rg _ _ _⟩;cases hr:rRoomB 1 (rNext st) with
    |false=>rw[hr]at hmk;exact hmk
    |true=>rw[hr]at hmk;exact hmk
 ·rw[if_neg (by omega),if_neg (by omega),if_neg (by omega),if_neg (by omega),if_neg (by omega),if_neg (by omega),if_neg (by omega),if_neg (by omega),if_pos (by omega)];simp[needR]at w1;have:=a1 (by omega);exact make_res hA h hne (by omega) _ (s':=st.now.s.take (st.now.s.length-(i.a % 256).toNat)) (h.s.take _) (by rw[hm'];simp[moreR];omega) (by simp) ⟨by simp,by simp,by simp,by simp,λr hr=>by have:=(h.s.drop _) r hr;omega,by simp;omega,by simp only;omega⟩
 ·rw[if_neg (by omega),if_neg (by omega),if_neg (by omega),if_neg (by omega),if_neg (by omega),if_neg (by omega),if_neg (by omega),if_neg (by omega),if_neg (by omega),if_pos (by omega)];simp[needR]at w1;have:=a1 (by omega);unfold rSplit;simp only[hca,hsn];split
  ·exact rEnd_res 3 (by decide) r1 r2 r3 r4
  ·rename_i hsp
   have htop:0<=(st.now.s.getLast?).getD 0∧(st.now.s.getLast?).getD 0<(st.cells.length:Int):=by
    rw[List.getLast?_eq_getElem?];exact h.s.at (by omega)
   obtain⟨ti,te,tc⟩:=cAt_ok h.b htop;have hfl:((cAt st ((st.now.s.getLast?).getD 0)).fields.length:Int)=i.a:=by omega
   exact stk_res hA h hne (by omega) ((by rw[List.dropLast_eq_take];exact h.s.take _:RefOk _ st.now.s.dropLast).app tc.f) (by rw[hm'];simp[moreR];omega) (by simp;omega)
 ·rw[if_neg (by omega),if_neg (by omega),if_neg (by omega),if_neg (by omega),if_neg (by omega),if_neg (by omega),if_neg (by omega),if_neg (by omega),if_neg (by omega),if_neg (by omega),if_pos (by omega)];unfold rFork;simp only[hca,hsn];split
  ·exact rEnd_res 3 (by decide) r1 r2 r3 r4
  ·split
   ·rename_i x hx
    have hxm:x∈i.alts:=List.mem_of_find?_eq_some hx;obtain⟨-,hal⟩:=insL_good hA.f;have hto:=hal x hxm;have hsu:x.to.toNat∈succs i st.now.at_.toNat:=by
     unfold succs;rw[if_neg (by omega),if_neg (by omega),if_pos (by omega)];exact List.mem_map.2 ⟨x,hxm,rfl⟩
    exact go_res (nx_ok hA h hne (at':=x.to) (cells':=st.cells) (used':=st.used) (s':=st.now.s) hsu hto.2.2.1 h.b.cells h.b.nc ⟨Int.le_refl _,h.b.used.2⟩ h.s (by rw[hm'];simp[moreR]) (by omega)) rfl rfl (by show st.steps<=st.steps+1;omega)
   ·exact rEnd_res 4 (by decide) r1 r2 r3 r4
 ·rw[if_neg (by omega),if_neg (by omega),if_neg (by omega),if_neg (by omega),if_neg (by omega),if_neg (by omega),if_neg (by omega),if_neg (by omega),if_neg (by omega),if_neg (by omega),if_neg (by omega),if_pos (by omega)];have ha:=a1 (by omega);have hsu:i.a.toNat∈succs i st.now.at_.toNat:=by
   unfold succs;rw[if_neg (by omega),if_pos (by omega)];simp
  exact go_res (nx_ok hA h hne (at':=i.a) (cells':=st.cells) (used':=st.used) (s':=st.now.s) hsu ha.1 h.b.cells h.b.nc ⟨Int.le_refl _,h.b.used.2⟩ h.s (by rw[hm'];simp[moreR]) (by omega)) rfl rfl (by show st.steps<=st.steps+1;omega)
 ·rw[if_neg (by omega),if_neg (by omega),if_neg (by omega),if_neg (by omega),if_neg (by omega),if_neg (by omega),if_neg (by omega),if_neg (by omega),if_neg (by omega),if_neg (by omega),if_neg (by omega),if_neg (by omega),if_pos (by omega)];exact rEnd_res 4 (by decide) r1 r2 r3 r4
end
end Go.Proofs.YtdpodpjdcfjfgaaGreatDoor

import Derived.Test.YtlanckgcjijefaaGreatDoorTxt5J
import Derived.Test.YtlanckgcjijefaaGreatDoorOwnJ
set_option maxRecDepth 100000
set_option maxHeartbeats 8000000
namespace Go.Proofs.YtlanckgcjijefaaGreatDoor
open Go.RowKit Go.Sort
structure StrAt (w:World) (v:Value) (l:List ByteArray):Prop where
 it:∃p c,v=.slice p l.length c∧∀i (hi:i<l.length),∃g o,p=some ⟨g,o,none⟩∧w.cell? ⟨g,o+i,none⟩=some (.string l[i])
theorem StrAt.of_row{w:World}{v:Value}{l:List ByteArray}(h:w.ownsRow 0 9 1 v l.length (l.map .string)):StrAt w v l:=by
 rcases row_at h with⟨rfl,hn⟩|⟨g,cap,rfl,-,hc⟩
 ·obtain rfl:l=[]:=List.eq_nil_of_length_eq_zero hn;exact⟨none,0,rfl,λi hi=>absurd hi (by simp)⟩
 ·refine⟨_,cap,rfl,λi hi=>⟨g,0,rfl,?_⟩⟩;rw[Nat.zero_add,hc i (by omega),List.getElem?_map,List.getElem?_eq_getElem hi];rfl
def inB(s:ByteArray)(l:List ByteArray)(k:Nat):Bool:=(l.drop k).any λr=>decide (r=s)
theorem inB_step(s:ByteArray)(l:List ByteArray){k:Nat}(hk:k<l.length):inB s l k=(decide (l[k]=s)||inB s l (k+1)):=by
 unfold inB;rw[List.drop_eq_getElem_cons hk,List.any_cons]
theorem inB_end(s:ByteArray)(l:List ByteArray):inB s l l.length=false:=by unfold inB;rw[List.drop_length];rfl
theorem in_any(s:ByteArray)(l:List ByteArray)(v:Value)(w:World)(h:StrAt w v l)(hl:l.length<=100000):Calls Tryz.prog 27 #[.string s,v] w λe w'=>e=.returned (.bool (inB s l 0))∧w'=w:=by
 obtain⟨p,c,rfl,hc⟩:=h.it;have HC:=hid hc;clear h hc;go_enter Tryz.func27,Tryz.ntmps27;go_wp2;go_loopw [5] (λkv wr=>∃k:Nat,k<=l.length∧kv=.int .i64 (k:Int)∧wr=w∧Hid (inB s l 0=inB s l k)) (λkv _=>l.length-(intOf kv).toNat)
 case atStart=>exact⟨0,Nat.zero_le _,rfl,rfl,rfl⟩
 case round=>
  obtain⟨k,hk,rfl,hww,HI⟩:=hrel;replace hww:=hww.symm
  subst hww;by_cases hlt:k<l.length
  ·have h0:(0:Int)<=(k:Int):=by omega
   have h1:(k:Int)<(l.length:Int):=by omega
   obtain⟨g,o,rfl,c0⟩:=HC.out k hlt;have HS:=hid (inB_step s l hlt);obtain⟨rk,hrk⟩:∃r,l[k]=r:=⟨_,rfl⟩;rw[hrk]at c0 HS;clear hrk;go_wp2
   ·rename_i he
    have e:rk=s:=toL_inj (by simpa using he);go_ret;refine⟨?_,rfl⟩;rw[HI.out,HS.out,e];simp
   ·rename_i he
    have hne:¬rk=s:=λh=>by rw[h]at he;simp at he
    exact⟨⟨k+1,by omega,by go_num,by first|rfl|trivial,by show _=_;rw[HI.out,HS.out];simp[hne]⟩,by simp[intOf];omega⟩
  ·obtain rfl:k=l.length:=by omega
   have hge:¬(l.length:Int)<(l.length:Int):=by omega
   go_wp2;go_ret;refine⟨?_,rfl⟩;rw[HI.out,inB_end];rfl
theorem Tryz.strI:(Tryz.prog.info? 9).map (λi=>(i.zero,i.size,i.bytes))=some (some (.string ⟨#[]⟩),1,16):=by kernel_rfl
theorem Tryz.intI:(Tryz.prog.info? 3).map (λi=>(i.zero,i.size,i.bytes))=some (some (.int .i64 0),1,8):=by kernel_rfl
abbrev Nms:=List (ByteArray×Nat)
structure NRows (w:World) (base:Nat) (lv pv:Value) (got:Nms):Prop where
 l:w.ownsRow base 9 1 lv got.length (got.map λx=>.string x.1)
 p:w.ownsRow base 3 1 pv got.length (got.map λx=>.int .i64 (x.2:Int))
 ne:lv.ownBlock=none∨lv.ownBlock≠pv.ownBlock
theorem row_ef{T base:Nat}{w w':World}{e:TypeId}{size n:Nat}{v:Value}{xs:List Value}(h:w.ownsRow base e size v n xs)(hE:EF T w w')(hT:T<base):w'.ownsRow base e size v n xs:=
 row_fr h λq hq=>hE.block q (h.lt q (mem_vB.1 hq)).2 (λe=>by have:=(h.lt q (mem_vB.1 hq)).1;omega)
theorem NRows.ef{T base:Nat}{w w':World}{lv pv:Value}{got:Nms}(h:NRows w base lv pv got)(hE:EF T w w')(hT:T<base):NRows w' base lv pv got:=⟨row_ef h.l hE hT,row_ef h.p hE hT,h.ne⟩
theorem NRows.str{base:Nat}{w:World}{lv pv:Value}{got:Nms}(h:NRows w base lv pv got):StrAt w lv (got.map (·.1)):=by
 refine StrAt.of_row ?_;have h1:=h.l;rw[List.length_map,List.map_map];exact⟨h1.1,h1.2.imp id λ⟨g,cap,cur,h2,h3,h4⟩=>⟨g,cap,cur,h2,Nat.zero_le _,h4⟩⟩
theorem NRows.ne2{base:Nat}{w:World}{lv pv:Value}{got:Nms}(h:NRows w base lv pv got):pv.ownBlock=none∨pv.ownBlock≠lv.ownBlock:=by
 rcases h.ne with h1|h1
 ·cases hp:pv.ownBlock with
  |none=>exact Or.inl rfl
  |some g=>right;rw[h1];simp
 ·exact Or.inr (Ne.symm h1)
theorem NRows.mid{base:Nat}{W w6:World}{lv pv:Value}{got:Nms}(h:NRows W base lv pv got)(o:Obj)(hg:(W.alloc o).grownBy w6 lv.ownBlock):w6.ownsRow base 3 1 pv got.length (got.map λx=>.int .i64 (x.2:Int)):=
 World.ownsRow.kept (World.ownsRow.alloc h.p o) hg h.ne2
theorem NRows.push{base:Nat}{W w6 w7:World}{lv pv:Value}{got:Nms}{g1 k1 g2 k2:Nat}{x:ByteArray×Nat}(h:NRows W base lv pv got)(hb:base<=W.heap.size)(o1 o2:Obj)
 (hg1:(W.alloc o1).grownBy w6 lv.ownBlock) (ha1:lv.ownBlock=some g1∨g1=W.heap.size+1) (ho1:w6.ownsRow base 9 1 (.slice (some ⟨g1,0,none⟩) (got.length+1) k1) (got.length+1) ((got.map λx=>.string x.1)++[.string x.1]))
 (hg2:(w6.alloc o2).grownBy w7 pv.ownBlock) (ha2:pv.ownBlock=some g2∨g2=w6.heap.size+1) (ho2:w7.ownsRow base 3 1 (.slice (some ⟨g2,0,none⟩) (got.length+1) k2) (got.length+1) ((got.map λx=>.int .i64 (x.2:Int))++[.int .i64 (x.2:Int)])):
 NRows w7 base (.slice (some ⟨g1,0,none⟩) (got.length+1) k1) (.slice (some ⟨g2,0,none⟩) (got.length+1) k2) (got++[x])∧Below base W w7:=by
 have hs1:(W.alloc o1).heap.size=W.heap.size+1:=by simp
 have hs2:(w6.alloc o2).heap.size=w6.heap.size+1:=by simp
 have hz1:=hg1.size;have hz2:=hg2.size;have hl:∀g,lv.ownBlock=some g->base<=g∧g<W.heap.size:=λg hg=>h.l.lt g hg;have hp:∀g,pv.ownBlock=some g->base<=g∧g<W.heap.size:=λg hg=>h.p.lt g hg;have hlt1:g1<w6.heap.size:=(ho1.lt g1 rfl).2;have hne:∀g,pv.ownBlock=some g->g≠g1:=λg hg e=>by
  subst e;rcases ha1 with h1|h1
  ·rcases h.ne2 with h2|h2
   ·rw[h2]at hg;cases hg
   ·exact h2 (by rw[hg,h1])
  ·have:=hp g hg;omega
 have hg12:g1≠g2:=λe=>by
  subst e;rcases ha2 with h1|h1
  ·exact hne g1 h1 rfl
  ·omega
 refine⟨⟨?_,?_,Or.inr ?_⟩,?_⟩
 ·rw[List.length_append,List.map_append];refine World.ownsRow.kept (World.ownsRow.alloc ho1 o2) hg2 (Or.inr λe=>?_);exact hne g1 e.symm rfl
 ·rw[List.length_append,List.map_append];exact ho2
 ·show some g1≠some g2;simpa using hg12
 ·refine⟨?_,?_,?_,by omega,λk hk=>?_⟩
  ·rw[hg2.os];show w6.os=_;rw[hg1.os];rfl
  ·rw[hg2.tape];show w6.tape=_;rw[hg1.tape];rfl
  ·rw[hg2.output];show w6.output=_;rw[hg1.output];rfl
  ·rw[hg2.block k (by omega) (λe=>by have:=hp k e.symm;omega),heap_alloc_old w6 o2 (by omega),hg1.block k (by omega) (λe=>by have:=hl k e.symm;omega),heap_alloc_old W o1 (by omega)]
def pNamesL(s:ByteArray):Nat->Nms->Nat->Pr Nms
 |0,_,p=>.error (2,p)
 |f+1,got,p=>if tokT s p=⟨#[41]⟩ then .ok (got,nxt s p) else pb (pName s p) λx q=>if inB x.1 (got.map (·.1)) 0=true then .error (5,x.2) else pNamesL s f (got++[x]) q
def pNames(s:ByteArray)(p:Nat):Pr Nms:=pb (pWant s ⟨#[40]⟩ p) λ_ q=>pNamesL s (s.size+1) [] q
theorem pName_skp(s:ByteArray)(p:Nat):pName s (skp s p)=pName s p:=by unfold pName;rw[tokT_skp,tokA_skp,nxt_skp]
theorem wordB_empty:wordB ⟨#[]⟩=false:=by unfold wordB;rw[show(decide (0<(⟨#[]⟩:ByteArray).size))=false from rfl];simp
theorem pName_gt{s:ByteArray}{p q:Nat}{x:ByteArray×Nat}(hp:p<=s.size)(h:pName s p=.ok (x,q)):p<q∧q<=s.size∧x=(tokT s p,tokA s p)∧q=nxt s p:=by
 unfold pName at h;split at h
 ·rename_i hw
  simp only[Except.ok.injEq,Prod.mk.injEq]at h;obtain⟨rfl,rfl⟩:=h;refine⟨?_,nxt_le hp,rfl,rfl⟩;refine nxt_gt ?_;rcases Nat.lt_or_ge (tokA s p) s.size with h1|h1
  ·exact h1
  ·exfalso;have h2:tokT s p=⟨#[]⟩:=by
    apply ByteArray.ext;apply Array.eq_empty_of_size_eq_zero;have h3:=tokT_size (s:=s) hp;have h4:=nxt_le hp;show(tokT s p).size=0;omega
   rw[h2,wordB_empty]at hw;cases hw
 ·cases h
theorem ef_below{T:Nat}{w w1 w2:World}(h:EF T w w1)(hb:Below w.heap.size w1 w2):EF T w w2:=
 ⟨hb.os.trans h.os,hb.tape.trans h.tape,hb.output.trans h.output,Nat.le_trans h.size hb.size,λk hk hn=>(hb.block k hk).trans (h.block k hk hn)⟩
structure NmSt (T:Nat) (s:ByteArray) (nest pl:Nat) (nm iv dv:Value) (w:World) (r0:Pr Nms) (wr:World) (lv pv:Value):Prop where
 ef:EF T w wr
 it:(∃got q f,s.size+1<=f+q∧q<=s.size∧got.length<=q∧TX wr T s q nest 0 pl nm iv dv∧NRows wr w.heap.size lv pv got∧r0=pNamesL s f got q)∨
  (∃c a q,c≠0∧q<=s.size∧TX wr T s q nest c a nm iv dv∧r0=.error (c,a))
 one:(∃a n c,lv=.slice a n c)∧∃a n c,pv=.slice a n c
def NamesRes(T:Nat)(s:ByteArray)(r:Pr Nms)(nest pl:Nat)(nm iv dv:Value)(w:World)(e:Ending)(w':World):Prop:=
 EF T w w'∧Ans T s r nest pl nm iv dv w'∧∃lv pv,e=.returned (.tuple #[lv,pv])∧((∃a n c,lv=.slice a n c)∧∃a n c,pv=.slice a n c)∧∀got q,r=.ok (got,q)->NRows w' w.heap.size lv pv got∧got.length<=2000
theorem txNames_any{T:Nat}{s:ByteArray}{p nest pl:Nat}{nm iv dv:Value}{w:World}(h:TX w T s p nest 0 pl nm iv dv)(hs:s.size<=2000)(hp:p<=s.size):
 Calls Tryz.prog 46 #[.pointer (some ⟨T,0,none⟩)] w λe w'=>NamesRes T s (pNames s p) nest pl nm iv dv w e w':=by
 have HWA:=hid (txWant_any (t:=⟨#[40]⟩) h hs hp);obtain⟨r0,hr0⟩:∃r,pNames s p=r:=⟨_,rfl⟩;have HR0:=hid hr0;rw[hr0];have hTw:T<w.heap.size:=h.lt;clear h hr0;go_enter Tryz.func46,Tryz.ntmps46;go_wp2_with (first
  |(go_at_call 19;refine HWA.out.mono ?_;rintro e w1 ⟨rfl,hU⟩;have HU:=hid hU;clear hU HWA))
 have HST:Hid (NmSt T s nest pl nm iv dv w r0 w1 (.slice none 0 0) (.slice none 0 0)):=by
  refine⟨HU.out.1,?_,⟨_,_,_,rfl⟩,⟨_,_,_,rfl⟩⟩;have h2:=HU.out.2;have h3:=HR0.out;unfold pNames at h3;match hw:pWant s ⟨#[40]⟩ p,h2,h3 with
  |.ok (_,q),h2,h3=>
   exact Or.inl ⟨[],q,s.size+1,by omega,h2.2,Nat.zero_le _,h2.1,⟨World.ownsRow_nil _ _ _ _,World.ownsRow_nil _ _ _ _,Or.inl rfl⟩,h3.symm⟩
  |.error (c,a),h2,h3=>
   obtain⟨q,h4,h5⟩:=h2;refine Or.inr ⟨c,a,q,?_,h5,h4,h3.symm⟩;unfold pWant at hw;split at hw
   ·cases hw
   ·cases hw;decide
 obtain⟨si,hsi,hss⟩:=Option.map_eq_some_iff.1 Tryz.strI;simp only[Prod.mk.injEq]at hss;obtain⟨hs0,hs1,hs2⟩:=hss;obtain⟨ii,hii,hiis⟩:=Option.map_eq_some_iff.1 Tryz.intI;simp only[Prod.mk.injEq]at hiis;obtain⟨hi0,hi1,hi2⟩:=hiis;go_loopw [4,5] (λlv pv wr=>Hid (NmSt T s nest pl nm iv dv w r0 wr lv pv)) (λ_ _ wr=>match wr.cell? ⟨T,3,none⟩,wr.cell? ⟨T,1,none⟩ with|some (.int _ e),some (.int _ q)=>if e=0 then s.size+1-q.toNat else 0|_,_=>0)
 case atStart=>exact HST.out
 case round=>
  rename World=>wr
  have HK:=hid hrel.out;clear hrel;rcases HK.out.it with⟨got,q,f,hf,hq,hgl,hT,hR,hr⟩|⟨c,a,q,hc,hq,hT,hr⟩
  ·have HT:=hid hT;have HR:=hid hR;have HRR:=hid hr;obtain⟨d0,d1,d2,d3,d4,-,-,-,-⟩:=hT;clear hR hr;have HPK:=hid (txPeek_any HT.out hs hq);obtain⟨tt,htt⟩:∃t,tokT s q=t:=⟨_,rfl⟩;have HTT:=hid htt;unfold TakeRes at HPK;rw[htt]at HPK;clear htt;have hsk:=skp_le hq;by_cases hcl:tt=⟨#[41]⟩
   ·have HRES:Hid (r0=.ok (got,nxt s q)):=by
     obtain⟨f',rfl⟩:∃f',f=f'+1:=⟨f-1,by omega⟩;show _=_;rw[HRR.out,pNamesL,HTT.out,if_pos hcl]
    have HTK:=hid (λw1 (h:TX w1 T s (skp s q) nest 0 pl nm iv dv)=>txTake_any h hs hsk);subst hcl;go_wp2_with (first
     |(go_at_call 22;refine HPK.out.mono ?_;rintro e w2 ⟨rfl,hT2,hE2⟩;have HT2:=hid hT2;have HE2:=hid hE2;clear hT2 hE2 HPK)
     |(go_at_call 21;refine(HTK.out _ HT2.out).mono ?_;rintro e w3 ⟨rfl,hT3,hE3⟩;have HT3:=hid hT3;have HE3:=hid hE3;clear hT3 hE3))
    go_ret2
    have hE:=(HK.out.ef.trans HE2.out).trans HE3.out;refine⟨hE,?_,_,_,rfl,HK.out.one,λgot' q' hx=>?_⟩
    ·rw[HRES.out];have h:=HT3.out;rw[nxt_skp]at h;exact⟨h,nxt_le hq⟩
    ·rw[HRES.out]at hx;cases hx;exact⟨(HR.out.ef HE2.out hTw).ef HE3.out hTw,by omega⟩
   ·have HNM:=hid (λw1 (h:TX w1 T s (skp s q) nest 0 pl nm iv dv)=>txName_any h hs hsk);rw[tokT_skp,tokA_skp,pName_skp,HTT.out]at HNM;have hcl2:¬tt.toList=[41]:=λh=>hcl (toL_inj (by rw[h,ByteArray.toList_eq]));have hcl3:(tt.toList==[41])=false:=by rw[beq_eq_false_iff_ne];exact hcl2
    obtain⟨ib,hib⟩:∃b,inB tt (got.map (·.1)) 0=b:=⟨_,rfl⟩;obtain⟨pn,hpn⟩:∃r,pName s q=r:=⟨_,rfl⟩;have HPN:=hid hpn;have HIB:=hid hib;rw[hpn]at HNM;clear hpn;have HST2:Hid (r0=pb pn λx q=>if inB x.1 (got.map (·.1)) 0=true then .error (5,x.2) else pNamesL s (f-1) (got++[x]) q):=by
     obtain⟨f',rfl⟩:∃f',f=f'+1:=⟨f-1,by omega⟩;show _=_;rw[HRR.out,pNamesL,HTT.out,if_neg hcl,HPN.out];rfl
    match pn,HNM,HPN,HST2 with
    |.error (c,a),HNM,HPN,HST2=>
     have hca:c=2∧a=tokA s q:=by
      have h:=HPN.out;unfold pName at h;split at h
      ·cases h
      ·cases h;exact⟨rfl,rfl⟩
     obtain⟨rfl,rfl⟩:=hca;cases ib
     ·
      have HIN:=hid (λw1 (h:StrAt w1 u4 (got.map (·.1)))=>in_any tt (got.map (·.1)) u4 w1 h (by simp;omega));rw[hib]at HIN;go_wp2_with (first
       |(go_at_call 22;refine HPK.out.mono ?_;rintro e w2 ⟨rfl,hT2,hE2⟩;have HT2:=hid hT2;have HE2:=hid hE2;clear hT2 hE2 HPK)
       |(go_at_call 20;refine(HNM.out _ HT2.out).mono ?_;rintro e w3 ⟨rfl,hE3,q3,hT3,hq3⟩;have HT3:=hid hT3;have HE3:=hid hE3;have HR3:=hid ((HR.out.ef HE2.out hTw).ef hE3 hTw);have hz3:w.heap.size<=w3.heap.size:=Nat.le_trans (Nat.le_trans HK.out.ef.size HE2.out.size) hE3.size;clear hT3 hE3 HNM)
       |(go_at_call 27;refine(HIN.out _ HR3.out.str).mono ?_;rintro e w4 ⟨rfl,hww⟩;replace hww:=hww.symm;subst hww;clear HIN)
       |(at_builtin;refine wpList_append_lies _ rfl _ _ _ rfl w.heap.size 9 si _ 1 16 Tryz.underlying48 hsi hs0 hs1 hs2 rfl (by omega) u4 got.length (got.map λx=>.string x.1) rfl (World.ownsRow.alloc HR3.out.l _) ⟨w3.heap.size,0,none⟩ 1 1 [.string tt] rfl rfl (news_one _ _ _ _ rfl) (by intro u hu;simp at hu;subst hu;rfl) (by omega) (by unfold maxLen;omega) (by omega) (by simp;omega) (w3.heap.size+1) (by simp) ?_;intro g1 k1 w6 hown1 hgrow1 hat1 hlt1;have HM6:=hid (HR3.out.mid _ hgrow1);have HO1:=hid hown1;have HG1:=hid hgrow1;have HA1:=hid hat1;have hz6:=hgrow1.size;simp at hz6;clear hown1 hgrow1 hat1)
       |(at_builtin;refine wpList_append_lies _ rfl _ _ _ rfl w.heap.size 3 ii _ 1 8 Tryz.underlying49 hii hi0 hi1 hi2 rfl (by omega) u5 got.length (got.map λx=>.int .i64 (x.2:Int)) rfl (World.ownsRow.alloc HM6.out _) ⟨w6.heap.size,0,none⟩ 1 1 [.int .i64 (tokA s q:Int)] rfl rfl (news_one _ _ _ _ rfl) (by intro u hu;simp at hu;subst hu;rfl) (by omega) (by unfold maxLen;omega) (by omega) (by simp;omega) (w6.heap.size+1) (by simp) ?_;intro g2 k2 w7 hown2 hgrow2 hat2 hlt2;have HO2:=hid hown2;have HG2:=hid hgrow2;have HA2:=hid hat2;clear hown2 hgrow2 hat2))
      ·have HPU:=hid (HR3.out.push (x:=(tt,tokA s q)) hz3 _ _ HG1.out HA1.out HO1.out HG2.out HA2.out HO2.out);have hTX:=HT3.out.of_block (HPU.out.2.block T hTw);refine⟨⟨ef_below ((HK.out.ef.trans HE2.out).trans HE3.out) HPU.out.2,Or.inr ⟨2,tokA s q,q3,by omega,hq3,hTX,by rw[HST2.out];rfl⟩,⟨_,_,_,rfl⟩,⟨_,_,_,rfl⟩⟩,?_⟩;rw[hTX.c3,hTX.c1,d3,d1];simp;omega
     ·
      have HIN:=hid (λw1 (h:StrAt w1 u4 (got.map (·.1)))=>in_any tt (got.map (·.1)) u4 w1 h (by simp;omega));rw[hib]at HIN;have HFL:=hid (λw1 q3 (h:TX w1 T s q3 nest 2 (tokA s q) nm iv dv)=>txFail_later (c:=5) (q:=(tokA s q:Int)) h (by omega));go_wp2_with (first
       |(go_at_call 22;refine HPK.out.mono ?_;rintro e w2 ⟨rfl,hT2,hE2⟩;have HT2:=hid hT2;have HE2:=hid hE2;clear hT2 hE2 HPK)
       |(go_at_call 20;refine(HNM.out _ HT2.out).mono ?_;rintro e w3 ⟨rfl,hE3,q3,hT3,hq3⟩;have HT3:=hid hT3;have HE3:=hid hE3;have HR3:=hid ((HR.out.ef HE2.out hTw).ef hE3 hTw);have hz3:w.heap.size<=w3.heap.size:=Nat.le_trans (Nat.le_trans HK.out.ef.size HE2.out.size) hE3.size;clear hT3 hE3 HNM)
       |(go_at_call 27;refine(HIN.out _ HR3.out.str).mono ?_;rintro e w4 ⟨rfl,hww⟩;replace hww:=hww.symm;subst hww;clear HIN)
       |(go_at_call 23;refine(HFL.out _ _ HT3.out).mono ?_;rintro e w5 ⟨rfl,hT5,hE5⟩;have HT5:=hid hT5;have HE5:=hid hE5;have HR5:=hid (HR3.out.ef hE5 hTw);have hz5:w.heap.size<=w5.heap.size:=Nat.le_trans hz3 hE5.size;clear hT5 hE5 HFL)
       |(at_builtin;refine wpList_append_lies _ rfl _ _ _ rfl w.heap.size 9 si _ 1 16 Tryz.underlying48 hsi hs0 hs1 hs2 rfl (by omega) u4 got.length (got.map λx=>.string x.1) rfl (World.ownsRow.alloc HR5.out.l _) ⟨w5.heap.size,0,none⟩ 1 1 [.string tt] rfl rfl (news_one _ _ _ _ rfl) (by intro u hu;simp at hu;subst hu;rfl) (by omega) (by unfold maxLen;omega) (by omega) (by simp;omega) (w5.heap.size+1) (by simp) ?_;intro g1 k1 w6 hown1 hgrow1 hat1 hlt1;have HM6:=hid (HR5.out.mid _ hgrow1);have HO1:=hid hown1;have HG1:=hid hgrow1;have HA1:=hid hat1;have hz6:=hgrow1.size;simp at hz6;clear hown1 hgrow1 hat1)
       |(at_builtin;refine wpList_append_lies _ rfl _ _ _ rfl w.heap.size 3 ii _ 1 8 Tryz.underlying49 hii hi0 hi1 hi2 rfl (by omega) u5 got.length (got.map λx=>.int .i64 (x.2:Int)) rfl (World.ownsRow.alloc HM6.out _) ⟨w6.heap.size,0,none⟩ 1 1 [.int .i64 (tokA s q:Int)] rfl rfl (news_one _ _ _ _ rfl) (by intro u hu;simp at hu;subst hu;rfl) (by omega) (by unfold maxLen;omega) (by omega) (by simp;omega) (w6.heap.size+1) (by simp) ?_;intro g2 k2 w7 hown2 hgrow2 hat2 hlt2;have HO2:=hid hown2;have HG2:=hid hgrow2;have HA2:=hid hat2;clear hown2 hgrow2 hat2))
      ·have HPU:=hid (HR5.out.push (x:=(tt,tokA s q)) hz5 _ _ HG1.out HA1.out HO1.out HG2.out HA2.out HO2.out);have hTX:=HT5.out.of_block (HPU.out.2.block T hTw);refine⟨⟨ef_below (((HK.out.ef.trans HE2.out).trans HE3.out).trans HE5.out) HPU.out.2,Or.inr ⟨2,tokA s q,q3,by omega,hq3,hTX,by rw[HST2.out];rfl⟩,⟨_,_,_,rfl⟩,⟨_,_,_,rfl⟩⟩,?_⟩;rw[hTX.c3,hTX.c1,d3,d1];simp;omega
    |.ok (x,q1),HNM,HPN,HST2=>
     obtain⟨hq0,hq1,hxe,hqe⟩:=pName_gt hq HPN.out;rw[HTT.out]at hxe;subst hxe hqe;cases ib
     ·
      have HIN:=hid (λw1 (h:StrAt w1 u4 (got.map (·.1)))=>in_any tt (got.map (·.1)) u4 w1 h (by simp;omega));rw[hib]at HIN;go_wp2_with (first
       |(go_at_call 22;refine HPK.out.mono ?_;rintro e w2 ⟨rfl,hT2,hE2⟩;have HT2:=hid hT2;have HE2:=hid hE2;clear hT2 hE2 HPK)
       |(go_at_call 20;refine(HNM.out _ HT2.out).mono ?_;rintro e w3 ⟨rfl,hE3,hT3,hq3⟩;have HT3:=hid hT3;have HE3:=hid hE3;have HR3:=hid ((HR.out.ef HE2.out hTw).ef hE3 hTw);have hz3:w.heap.size<=w3.heap.size:=Nat.le_trans (Nat.le_trans HK.out.ef.size HE2.out.size) hE3.size;clear hT3 hE3 HNM)
       |(go_at_call 27;refine(HIN.out _ HR3.out.str).mono ?_;rintro e w4 ⟨rfl,hww⟩;replace hww:=hww.symm;subst hww;clear HIN)
       |(at_builtin;refine wpList_append_lies _ rfl _ _ _ rfl w.heap.size 9 si _ 1 16 Tryz.underlying48 hsi hs0 hs1 hs2 rfl (by omega) u4 got.length (got.map λx=>.string x.1) rfl (World.ownsRow.alloc HR3.out.l _) ⟨w3.heap.size,0,none⟩ 1 1 [.string tt] rfl rfl (news_one _ _ _ _ rfl) (by intro u hu;simp at hu;subst hu;rfl) (by omega) (by unfold maxLen;omega) (by omega) (by simp;omega) (w3.heap.size+1) (by simp) ?_;intro g1 k1 w6 hown1 hgrow1 hat1 hlt1;have HM6:=hid (HR3.out.mid _ hgrow1);have HO1:=hid hown1;have HG1:=hid hgrow1;have HA1:=hid hat1;have hz6:=hgrow1.size;simp at hz6;clear hown1 hgrow1 hat1)
       |(at_builtin;refine wpList_append_lies _ rfl _ _ _ rfl w.heap.size 3 ii _ 1 8 Tryz.underlying49 hii hi0 hi1 hi2 rfl (by omega) u5 got.length (got.map λx=>.int .i64 (x.2:Int)) rfl (World.ownsRow.alloc HM6.out _) ⟨w6.heap.size,0,none⟩ 1 1 [.int .i64 (tokA s q:Int)] rfl rfl (news_one _ _ _ _ rfl) (by intro u hu;simp at hu;subst hu;rfl) (by omega) (by unfold maxLen;omega) (by omega) (by simp;omega) (w6.heap.size+1) (by simp) ?_;intro g2 k2 w7 hown2 hgrow2 hat2 hlt2;have HO2:=hid hown2;have HG2:=hid hgrow2;have HA2:=hid hat2;clear hown2 hgrow2 hat2))
      ·have HPU:=hid (HR3.out.push (x:=(tt,tokA s q)) hz3 _ _ HG1.out HA1.out HO1.out HG2.out HA2.out HO2.out);have hTX:=HT3.out.of_block (HPU.out.2.block T hTw);refine⟨⟨ef_below ((HK.out.ef.trans HE2.out).trans HE3.out) HPU.out.2,Or.inl ⟨got++[(tt,tokA s q)],nxt s q,f-1,by omega,hq3,by rw[List.length_append,List.length_singleton];omega,hTX,HPU.out.1,by rw[HST2.out,pb_ok,if_neg (by rw[HIB.out];decide)]⟩,⟨_,_,_,rfl⟩,⟨_,_,_,rfl⟩⟩,?_⟩;rw[hTX.c3,hTX.c1,d3,d1];simp;omega
     ·
      have HIN:=hid (λw1 (h:StrAt w1 u4 (got.map (·.1)))=>in_any tt (got.map (·.1)) u4 w1 h (by simp;omega));rw[hib]at HIN;have HFL:=hid (λw1 (h:TX w1 T s (nxt s q) nest 0 pl nm iv dv)=>txFail_first (c:=5) (q:=tokA s q) h);go_wp2_with (first
       |(go_at_call 22;refine HPK.out.mono ?_;rintro e w2 ⟨rfl,hT2,hE2⟩;have HT2:=hid hT2;have HE2:=hid hE2;clear hT2 hE2 HPK)
       |(go_at_call 20;refine(HNM.out _ HT2.out).mono ?_;rintro e w3 ⟨rfl,hE3,hT3,hq3⟩;have HT3:=hid hT3;have HE3:=hid hE3;have HR3:=hid ((HR.out.ef HE2.out hTw).ef hE3 hTw);have hz3:w.heap.size<=w3.heap.size:=Nat.le_trans (Nat.le_trans HK.out.ef.size HE2.out.size) hE3.size;clear hT3 hE3 HNM)
       |(go_at_call 27;refine(HIN.out _ HR3.out.str).mono ?_;rintro e w4 ⟨rfl,hww⟩;replace hww:=hww.symm;subst hww;clear HIN)
       |(go_at_call 23;refine(HFL.out _ HT3.out).mono ?_;rintro e w5 ⟨rfl,hT5,hE5⟩;have HT5:=hid hT5;have HE5:=hid hE5;have HR5:=hid (HR3.out.ef hE5 hTw);have hz5:w.heap.size<=w5.heap.size:=Nat.le_trans hz3 hE5.size;clear hT5 hE5 HFL)
       |(at_builtin;refine wpList_append_lies _ rfl _ _ _ rfl w.heap.size 9 si _ 1 16 Tryz.underlying48 hsi hs0 hs1 hs2 rfl (by omega) u4 got.length (got.map λx=>.string x.1) rfl (World.ownsRow.alloc HR5.out.l _) ⟨w5.heap.size,0,none⟩ 1 1 [.string tt] rfl rfl (news_one _ _ _ _ rfl) (by intro u hu;simp at hu;subst hu;rfl) (by omega) (by unfold maxLen;omega) (by omega) (by simp;omega) (w5.heap.size+1) (by simp) ?_;intro g1 k1 w6 hown1 hgrow1 hat1 hlt1;have HM6:=hid (HR5.out.mid _ hgrow1);have HO1:=hid hown1;have HG1:=hid hgrow1;have HA1:=hid hat1;have hz6:=hgrow1.size;simp at hz6;clear hown1 hgrow1 hat1)
       |(at_builtin;refine wpList_append_lies _ rfl _ _ _ rfl w.heap.size 3 ii _ 1 8 Tryz.underlying49 hii hi0 hi1 hi2 rfl (by omega) u5 got.length (got.map λx=>.int .i64 (x.2:Int)) rfl (World.ownsRow.alloc HM6.out _) ⟨w6.heap.size,0,none⟩ 1 1 [.int .i64 (tokA s q:Int)] rfl rfl (news_one _ _ _ _ rfl) (by intro u hu;simp at hu;subst hu;rfl) (by omega) (by unfold maxLen;omega) (by omega) (by simp;omega) (w6.heap.size+1) (by simp) ?_;intro g2 k2 w7 hown2 hgrow2 hat2 hlt2;have HO2:=hid hown2;have HG2:=hid hgrow2;have HA2:=hid hat2;clear hown2 hgrow2 hat2))
      ·have HPU:=hid (HR5.out.push (x:=(tt,tokA s q)) hz5 _ _ HG1.out HA1.out HO1.out HG2.out HA2.out HO2.out);have hTX:=HT5.out.of_block (HPU.out.2.block T hTw);refine⟨⟨ef_below (((HK.out.ef.trans HE2.out).trans HE3.out).trans HE5.out) HPU.out.2,Or.inr ⟨5,tokA s q,nxt s q,by omega,hq3,hTX,by rw[HST2.out,pb_ok,if_pos HIB.out]⟩,⟨_,_,_,rfl⟩,⟨_,_,_,rfl⟩⟩,?_⟩;rw[hTX.c3,hTX.c1,d3,d1];simp;omega
  ·have HT:=hid hT;have he1:((c:Int)==0)=false:=by rw[beq_eq_false_iff_ne];omega
   obtain⟨d0,d1,d2,d3,d4,-,-,-,-⟩:=hT;go_wp2;all_goals first
    |(exfalso;omega)
    |(go_ret2
      refine⟨HK.out.ef,?_,_,_,rfl,HK.out.one,λgot' q' hx=>?_⟩
      ·rw[hr];exact⟨q,HT.out,hq⟩
      ·rw[hr]at hx;cases hx)
inductive Ex where
 |num (n:Int)
 |name (g:Bool) (t:ByteArray) (pl:Nat)
 |call (parts:List Ex)
 |lets (r:Bool) (ns:Nms) (es:List Ex) (body:Ex)
 |con (tag:Nat) (fs:List Ex)
 |case (e:Ex) (brs:List (Nat×Nms×Ex))
 |op (k:Nat) (l r:Ex)
def tOpen:ByteArray:=⟨#[40]⟩
def tClose:ByteArray:=⟨#[41]⟩
def tLet:ByteArray:=⟨#[108,101,116]⟩
def tLetrec:ByteArray:=⟨#[108,101,116,114,101,99]⟩
def tCon:ByteArray:=⟨#[99,111,110]⟩
def tCase:ByteArray:=⟨#[99,97,115,101]⟩
def signs:List ByteArray:=[⟨#[43]⟩,⟨#[45]⟩,⟨#[42]⟩,⟨#[47]⟩,⟨#[61]⟩,⟨#[60]⟩]
def signOf(t:ByteArray):Option Nat:=signs.findIdx? λr=>decide (t=r)
def pAtom(s:ByteArray)(p:Nat):Pr Ex:=
 if wordB (tokT s p)=true then .ok (.name false (tokT s p) (tokA s p),nxt s p) else
  match wholeP (tokT s p) with
  |some v=>.ok (.num v,nxt s p)
  |none=>.error (2,tokA s p)
section
variable (s:ByteArray) (E:Nat->Pr Ex)
def pMore:Nat->List Ex->Nat->Pr (List Ex)
 |0,_,p=>.error (2,p)
 |f+1,got,p=>if tokT s p=tClose then .ok (got,skp s p) else pb (E p) λe q=>pMore f (got++[e]) q
def pFields:Nat->List Ex->Nat->Pr (List Ex)
 |0,_,p=>.error (2,p)
 |f+1,got,p=>if tokT s p=tClose then .ok (got,skp s p) else if got.length=20 then .error (3,tokA s p) else pb (E p) λe q=>pFields f (got++[e]) q
def pBinds:Nat->Nms->List Ex->Nat->Pr (Nms×List Ex)
 |0,_,_,p=>.error (2,p)
 |f+1,ns,es,p=>pb (pWant s tOpen p) λ_ q1=>pb (pName s q1) λx q2=>if inB x.1 (ns.map (·.1)) 0=true then .error (5,x.2) else
  pb (E q2) λe q3=>pb (pWant s tClose q3) λ_ q4=>if tokT s q4=tClose then .ok ((ns++[x],es++[e]),skp s q4) else pBinds f (ns++[x]) (es++[e]) q4
def pBrs:Nat->List (Nat×Nms×Ex)->Nat->Pr (List (Nat×Nms×Ex))
 |0,_,p=>.error (2,p)
 |f+1,got,p=>pb (pWant s tOpen p) λ_ q1=>pb (pTag s 255 q1) λx q2=>if got.any (λb=>decide (b.1=x.1))=true then .error (5,x.2) else
  pb (pNames s q2) λns q3=>pb (E q3) λe q4=>pb (pWant s tClose q4) λ_ q5=>if tokT s q5=tClose then .ok (got++[(x.1,ns,e)],skp s q5) else pBrs f (got++[(x.1,ns,e)]) q5
def pLets(r:Bool)(p:Nat):Pr Ex:=pb (pWant s tOpen p) λ_ q1=>pb (pBinds s E (s.size+1) [] [] q1) λx q2=>pb (pWant s tClose q2) λ_ q3=>pb (E q3) λb q4=>.ok (.lets r x.1 x.2 b,q4)
def pCon(p:Nat):Pr Ex:=pb (pTag s 255 p) λt q1=>pb (pFields s E (s.size+1) [] q1) λfs q2=>.ok (.con t.1 fs,q2)
def pCase(p:Nat):Pr Ex:=pb (E p) λe q1=>pb (pBrs s E (s.size+1) [] q1) λl q2=>.ok (.case e l,q2)
def pCall(p:Nat):Pr Ex:=pb (E p) λx q1=>pb (E q1) λy q2=>pb (pMore s E (s.size+1) [x,y] q2) λl q3=>.ok (.call l,q3)
def pForm(p:Nat):Pr Ex:=
 match signOf (tokT s p) with
 |some k=>pb (E (nxt s p)) λl q1=>pb (E q1) λr q2=>.ok (.op k l r,q2)
 |none=>
  if tokT s p=tLet then pLets s E false (nxt s p)
  else if tokT s p=tLetrec then pLets s E true (nxt s p)
  else if tokT s p=tCon then pCon s E (nxt s p)
  else if tokT s p=tCase then pCase s E (nxt s p)
  else pCall s E p
end
def pE(s:ByteArray):Nat->Nat->Pr Ex
 |0,p=>if tokT s p=tOpen then .error (3,tokA s p) else pAtom s p
 |d+1,p=>if tokT s p=tOpen then pb (pForm s (pE s d) (nxt s p)) λe q=>pb (pWant s tClose q) λ_ q2=>.ok (e,q2) else pAtom s p
theorem pb_inv{α β:Type}{x:Pr α}{f:α->Nat->Pr β}{b:β}{q:Nat}(h:pb x f=.ok (b,q)):∃a q1,x=.ok (a,q1)∧f a q1=.ok (b,q):=by
 match x,h with
 |.ok (a,q1),h=>exact⟨a,q1,rfl,h⟩
 |.error e,h=>cases h
def Fwd{α:Type}(s:ByteArray)(r:Nat->Pr α)(k:Nat):Prop:=∀p,p<=s.size->∀a q,r p=.ok (a,q)->p+k<=q∧q<=s.size
theorem tok_in{s:ByteArray}{p:Nat}(hp:p<=s.size)(h:tokT s p≠⟨#[]⟩):p+1<=nxt s p∧nxt s p<=s.size:=by
 refine⟨?_,nxt_le hp⟩;refine nxt_gt ?_;rcases Nat.lt_or_ge (tokA s p) s.size with h1|h1
 ·exact h1
 ·exfalso;apply h;apply ByteArray.ext;apply Array.eq_empty_of_size_eq_zero;have h3:=tokT_size (s:=s) hp;have h4:=nxt_le hp;show(tokT s p).size=0;omega
theorem fwd_want{s t:ByteArray}(ht:t≠⟨#[]⟩):Fwd s (pWant s t) 1:=by
 intro p hp a q h;unfold pWant at h;split at h
 ·rename_i he
  cases h;exact tok_in hp (by rw[he];exact ht)
 ·cases h
theorem fwd_name{s:ByteArray}:Fwd s (pName s) 1:=λp hp x q h=>by
 obtain⟨h1,h2,-⟩:=pName_gt hp h;exact⟨h1,h2⟩
theorem wholeP_empty:wholeP ⟨#[]⟩=none:=by
 unfold wholeP;rw[if_pos (Or.inl (by unfold absP negB;rfl))]
theorem fwd_tag{s:ByteArray}{m:Nat}:Fwd s (pTag s m) 1:=by
 intro p hp x q h;have hne:tokT s p≠⟨#[]⟩:=λhe=>by
  unfold pTag at h;rw[he,wholeP_empty]at h;cases h
 unfold pTag at h;split at h
 ·split at h
  ·cases h;exact tok_in hp hne
  ·cases h
 ·cases h
theorem fwd_atom{s:ByteArray}:Fwd s (pAtom s) 1:=by
 intro p hp x q h;have hne:tokT s p≠⟨#[]⟩:=λhe=>by
  unfold pAtom at h;rw[he,wholeP_empty,wordB_empty]at h;simp at h
 unfold pAtom at h;split at h
 ·cases h;exact tok_in hp hne
 ·split at h
  ·cases h;exact tok_in hp hne
  ·cases h
theorem fwd_namesL{s:ByteArray}:∀(f:Nat) (got:Nms),Fwd s (pNamesL s f got) 1
 |0,_=>λp _ a q h=>by rw[pNamesL]at h;cases h
 |f+1,got=>λp hp a q h=>by
  rw[pNamesL]at h;split at h
  ·rename_i he
   cases h;exact tok_in hp (by rw[he];decide)
  ·obtain⟨x,q1,h1,h2⟩:=pb_inv h;have k1:=fwd_name p hp x q1 h1;split at h2
   ·cases h2
   ·have k2:=fwd_namesL f _ q1 k1.2 a q h2;omega
theorem fwd_names{s:ByteArray}:Fwd s (pNames s) 2:=by
 intro p hp a q h;obtain⟨x,q1,h1,h2⟩:=pb_inv h;have k1:=fwd_want (by decide) p hp x q1 h1;have k2:=fwd_namesL _ _ q1 k1.2 a q h2;omega
section
variable {s:ByteArray} {E:Nat->Pr Ex} (hE:Fwd s E 1)
include hE
theorem fwd_more:∀(f:Nat) (got:List Ex),Fwd s (pMore s E f got) 0
 |0,_=>λp _ a q h=>by rw[pMore]at h;cases h
 |f+1,got=>λp hp a q h=>by
  rw[pMore]at h;split at h
  ·cases h;exact⟨skp_ge s p,skp_le hp⟩
  ·obtain⟨x,q1,h1,h2⟩:=pb_inv h;have k1:=hE p hp x q1 h1;have k2:=fwd_more f _ q1 k1.2 a q h2;omega
theorem fwd_fields:∀(f:Nat) (got:List Ex),Fwd s (pFields s E f got) 0
 |0,_=>λp _ a q h=>by rw[pFields]at h;cases h
 |f+1,got=>λp hp a q h=>by
  rw[pFields]at h;split at h
  ·cases h;exact⟨skp_ge s p,skp_le hp⟩
  ·split at h
   ·cases h
   ·obtain⟨x,q1,h1,h2⟩:=pb_inv h;have k1:=hE p hp x q1 h1;have k2:=fwd_fields f _ q1 k1.2 a q h2;omega
theorem fwd_binds:∀(f:Nat) (ns:Nms) (es:List Ex),Fwd s (pBinds s E f ns es) 4
 |0,_,_=>λp _ a q h=>by rw[pBinds]at h;cases h
 |f+1,ns,es=>λp hp a q h=>by
  rw[pBinds]at h;obtain⟨x1,q1,h1,h⟩:=pb_inv h;have k1:=fwd_want (by decide) p hp x1 q1 h1;obtain⟨x2,q2,h2,h⟩:=pb_inv h;have k2:=fwd_name q1 k1.2 x2 q2 h2;split at h
  ·cases h
  ·obtain⟨x3,q3,h3,h⟩:=pb_inv h;have k3:=hE q2 k2.2 x3 q3 h3;obtain⟨x4,q4,h4,h⟩:=pb_inv h;have k4:=fwd_want (by decide) q3 k3.2 x4 q4 h4;split at h
   ·cases h;have k6:=skp_ge s q4;have k7:=skp_le k4.2;omega
   ·have k5:=fwd_binds f _ _ q4 k4.2 a q h;omega
theorem fwd_brs:∀(f:Nat) (got:List (Nat×Nms×Ex)),Fwd s (pBrs s E f got) 5
 |0,_=>λp _ a q h=>by rw[pBrs]at h;cases h
 |f+1,got=>λp hp a q h=>by
  rw[pBrs]at h;obtain⟨x1,q1,h1,h⟩:=pb_inv h;have k1:=fwd_want (by decide) p hp x1 q1 h1;obtain⟨x2,q2,h2,h⟩:=pb_inv h;have k2:=fwd_tag q1 k1.2 x2 q2 h2;split at h
  ·cases h
  ·obtain⟨x3,q3,h3,h⟩:=pb_inv h;have k3:=fwd_names q2 k2.2 x3 q3 h3;obtain⟨x4,q4,h4,h⟩:=pb_inv h;have k4:=hE q3 k3.2 x4 q4 h4;obtain⟨x5,q5,h5,h⟩:=pb_inv h;have k5:=fwd_want (by decide) q4 k4.2 x5 q5 h5;split at h
   ·cases h;have k7:=skp_ge s q5;have k8:=skp_le k5.2;omega
   ·have k6:=fwd_brs f _ q5 k5.2 a q h;omega
theorem fwd_lets(r:Bool):Fwd s (pLets s E r) 1:=by
 intro p hp a q h;obtain⟨x1,q1,h1,h⟩:=pb_inv h;have k1:=fwd_want (by decide) p hp x1 q1 h1;obtain⟨x2,q2,h2,h⟩:=pb_inv h;have k2:=fwd_binds hE _ _ _ q1 k1.2 x2 q2 h2;obtain⟨x3,q3,h3,h⟩:=pb_inv h;have k3:=fwd_want (by decide) q2 k2.2 x3 q3 h3;obtain⟨x4,q4,h4,h⟩:=pb_inv h;have k4:=hE q3 k3.2 x4 q4 h4;cases h;omega
theorem fwd_con:Fwd s (pCon s E) 1:=by
 intro p hp a q h;obtain⟨x1,q1,h1,h⟩:=pb_inv h;have k1:=fwd_tag p hp x1 q1 h1;obtain⟨x2,q2,h2,h⟩:=pb_inv h;have k2:=fwd_fields hE _ _ q1 k1.2 x2 q2 h2;cases h;omega
theorem fwd_case:Fwd s (pCase s E) 1:=by
 intro p hp a q h;obtain⟨x1,q1,h1,h⟩:=pb_inv h;have k1:=hE p hp x1 q1 h1;obtain⟨x2,q2,h2,h⟩:=pb_inv h;have k2:=fwd_brs hE _ _ q1 k1.2 x2 q2 h2;cases h;omega
theorem fwd_call:Fwd s (pCall s E) 1:=by
 intro p hp a q h;obtain⟨x1,q1,h1,h⟩:=pb_inv h;have k1:=hE p hp x1 q1 h1;obtain⟨x2,q2,h2,h⟩:=pb_inv h;have k2:=hE q1 k1.2 x2 q2 h2;obtain⟨x3,q3,h3,h⟩:=pb_inv h;have k3:=fwd_more hE _ _ q2 k2.2 x3 q3 h3;cases h;omega
theorem fwd_form:Fwd s (pForm s E) 1:=by
 intro p hp a q h;have hn:=nxt_le hp;have hg:=nxt_ge s p;have hg2:=skp_ge s p;have hg3:p<=nxt s p:=Nat.le_trans hg2 hg;unfold pForm at h;split at h
 ·obtain⟨x1,q1,h1,h⟩:=pb_inv h;have k1:=hE _ hn x1 q1 h1;obtain⟨x2,q2,h2,h⟩:=pb_inv h;have k2:=hE q1 k1.2 x2 q2 h2;cases h;omega
 ·split at h
  ·have k:=fwd_lets hE _ _ hn a q h;omega
  ·split at h
   ·have k:=fwd_lets hE _ _ hn a q h;omega
   ·split at h
    ·have k:=fwd_con hE _ hn a q h;omega
    ·split at h
     ·have k:=fwd_case hE _ hn a q h;omega
     ·exact fwd_call hE p hp a q h
end
theorem fwd_E(s:ByteArray):∀d,Fwd s (pE s d) 1
 |0=>λp hp a q h=>by
  rw[pE]at h;split at h
  ·cases h
  ·exact fwd_atom p hp a q h
 |d+1=>λp hp a q h=>by
  rw[pE]at h;split at h
  ·rename_i he
   have k0:=tok_in hp (by rw[he];decide);obtain⟨x1,q1,h1,h⟩:=pb_inv h;have k1:=fwd_form (fwd_E s d) _ k0.2 x1 q1 h1;obtain⟨x2,q2,h2,h⟩:=pb_inv h;have k2:=fwd_want (by decide) q1 k1.2 x2 q2 h2;cases h;omega
  ·exact fwd_atom p hp a q h
def NZ{α:Type}(r:Nat->Pr α):Prop:=∀p c a,r p=.error (c,a)->c≠0
def Skp{α:Type}(s:ByteArray)(r:Nat->Pr α):Prop:=∀p,r (skp s p)=r p
theorem pb_einv{α β:Type}{x:Pr α}{f:α->Nat->Pr β}{c a:Nat}(h:pb x f=.error (c,a)):x=.error (c,a)∨∃y q,x=.ok (y,q)∧f y q=.error (c,a):=by
 match x,h with
 |.ok (y,q),h=>exact Or.inr ⟨y,q,rfl,h⟩
 |.error e,h=>exact Or.inl (by rw[pb_err]at h;cases h;rfl)
theorem nz_want(s t:ByteArray):NZ (pWant s t):=by
 intro p c a h;unfold pWant at h;split at h<;>cases h;decide
theorem nz_name(s:ByteArray):NZ (pName s):=by
 intro p c a h;unfold pName at h;split at h<;>cases h;decide
theorem nz_tag(s:ByteArray)(m:Nat):NZ (pTag s m):=by
 intro p c a h;unfold pTag at h;split at h
 ·split at h<;>cases h;decide
 ·cases h;decide
theorem nz_atom(s:ByteArray):NZ (pAtom s):=by
 intro p c a h;unfold pAtom at h;split at h
 ·cases h
 ·split at h<;>cases h;decide
theorem nz_namesL(s:ByteArray):∀(f:Nat) (got:Nms),NZ (pNamesL s f got)
 |0,_=>λp c a h=>by rw[pNamesL]at h;cases h;decide
 |f+1,got=>λp c a h=>by
  rw[pNamesL]at h;split at h
  ·cases h
  ·rcases pb_einv h with h1|⟨y,q,h1,h2⟩
   ·exact nz_name s p c a h1
   ·split at h2
    ·cases h2;decide
    ·exact nz_namesL s f _ q c a h2
theorem nz_names(s:ByteArray):NZ (pNames s):=by
 intro p c a h;rcases pb_einv h with h1|⟨y,q,h1,h2⟩
 ·exact nz_want s _ p c a h1
 ·exact nz_namesL s _ _ q c a h2
theorem skp_want(s t:ByteArray):Skp s (pWant s t):=by intro p;unfold pWant;rw[tokT_skp,nxt_skp,tokA_skp]
theorem skp_atom(s:ByteArray):Skp s (pAtom s):=by intro p;unfold pAtom;rw[tokT_skp,nxt_skp,tokA_skp]
section
variable {s:ByteArray} {E:Nat->Pr Ex} (hZ:NZ E)
include hZ
theorem nz_more:∀(f:Nat) (got:List Ex),NZ (pMore s E f got)
 |0,_=>λp c a h=>by rw[pMore]at h;cases h;decide
 |f+1,got=>λp c a h=>by
  rw[pMore]at h;split at h
  ·cases h
  ·rcases pb_einv h with h1|⟨y,q,h1,h2⟩
   ·exact hZ p c a h1
   ·exact nz_more f _ q c a h2
theorem nz_fields:∀(f:Nat) (got:List Ex),NZ (pFields s E f got)
 |0,_=>λp c a h=>by rw[pFields]at h;cases h;decide
 |f+1,got=>λp c a h=>by
  rw[pFields]at h;split at h
  ·cases h
  ·split at h
   ·cases h;decide
   ·rcases pb_einv h with h1|⟨y,q,h1,h2⟩
    ·exact hZ p c a h1
    ·exact nz_fields f _ q c a h2
theorem nz_binds:∀(f:Nat) (ns:Nms) (es:List Ex),NZ (pBinds s E f ns es)
 |0,_,_=>λp c a h=>by rw[pBinds]at h;cases h;decide
 |f+1,ns,es=>λp c a h=>by
  rw[pBinds]at h;rcases pb_einv h with h1|⟨y1,q1,h1,h⟩
  ·exact nz_want s _ p c a h1
  rcases pb_einv h with h1|⟨y2,q2,h1,h⟩
  ·exact nz_name s q1 c a h1
  split at h
  ·cases h;decide
  rcases pb_einv h with h1|⟨y3,q3,h1,h⟩
  ·exact hZ q2 c a h1
  rcases pb_einv h with h1|⟨y4,q4,h1,h⟩
  ·exact nz_want s _ q3 c a h1
  split at h
  ·cases h
  ·exact nz_binds f _ _ q4 c a h
theorem nz_brs:∀(f:Nat) (got:List (Nat×Nms×Ex)),NZ (pBrs s E f got)
 |0,_=>λp c a h=>by rw[pBrs]at h;cases h;decide
 |f+1,got=>λp c a h=>by
  rw[pBrs]at h;rcases pb_einv h with h1|⟨y1,q1,h1,h⟩
  ·exact nz_want s _ p c a h1
  rcases pb_einv h with h1|⟨y2,q2,h1,h⟩
  ·exact nz_tag s _ q1 c a h1
  split at h
  ·cases h;decide
  rcases pb_einv h with h1|⟨y3,q3,h1,h⟩
  ·exact nz_names s q2 c a h1
  rcases pb_einv h with h1|⟨y4,q4,h1,h⟩
  ·exact hZ q3 c a h1
  rcases pb_einv h with h1|⟨y5,q5,h1,h⟩
  ·exact nz_want s _ q4 c a h1
  split at h
  ·cases h
  ·exact nz_brs f _ q5 c a h
theorem nz_lets(r:Bool):NZ (pLets s E r):=by
 intro p c a h;rcases pb_einv h with h1|⟨y1,q1,h1,h⟩
 ·exact nz_want s _ p c a h1
 rcases pb_einv h with h1|⟨y2,q2,h1,h⟩
 ·exact nz_binds hZ _ _ _ q1 c a h1
 rcases pb_einv h with h1|⟨y3,q3,h1,h⟩
 ·exact nz_want s _ q2 c a h1
 rcases pb_einv h with h1|⟨y4,q4,h1,h⟩
 ·exact hZ q3 c a h1
 cases h
theorem nz_con:NZ (pCon s E):=by
 intro p c a h;rcases pb_einv h with h1|⟨y1,q1,h1,h⟩
 ·exact nz_tag s _ p c a h1
 rcases pb_einv h with h1|⟨y2,q2,h1,h⟩
 ·exact nz_fields hZ _ _ q1 c a h1
 cases h
theorem nz_case:NZ (pCase s E):=by
 intro p c a h;rcases pb_einv h with h1|⟨y1,q1,h1,h⟩
 ·exact hZ p c a h1
 rcases pb_einv h with h1|⟨y2,q2,h1,h⟩
 ·exact nz_brs hZ _ _ q1 c a h1
 cases h
theorem nz_call:NZ (pCall s E):=by
 intro p c a h;rcases pb_einv h with h1|⟨y1,q1,h1,h⟩
 ·exact hZ p c a h1
 rcases pb_einv h with h1|⟨y2,q2,h1,h⟩
 ·exact hZ q1 c a h1
 rcases pb_einv h with h1|⟨y3,q3,h1,h⟩
 ·exact nz_more hZ _ _ q2 c a h1
 cases h
theorem nz_form:NZ (pForm s E):=by
 intro p c a h;unfold pForm at h;split at h
 ·rcases pb_einv h with h1|⟨y1,q1,h1,h⟩
  ·exact hZ _ c a h1
  rcases pb_einv h with h1|⟨y2,q2,h1,h⟩
  ·exact hZ q1 c a h1
  cases h
 ·split at h
  ·exact nz_lets hZ _ _ c a h
  ·split at h
   ·exact nz_lets hZ _ _ c a h
   ·split at h
    ·exact nz_con hZ _ c a h
    ·split at h
     ·exact nz_case hZ _ c a h
     ·exact nz_call hZ _ c a h
end
theorem nz_E(s:ByteArray):∀d,NZ (pE s d)
 |0=>λp c a h=>by
  rw[pE]at h;split at h
  ·cases h;decide
  ·exact nz_atom s p c a h
 |d+1=>λp c a h=>by
  rw[pE]at h;split at h
  ·rcases pb_einv h with h1|⟨y1,q1,h1,h⟩
   ·exact nz_form (nz_E s d) _ c a h1
   rcases pb_einv h with h1|⟨y2,q2,h1,h⟩
   ·exact nz_want s _ q1 c a h1
   cases h
  ·exact nz_atom s p c a h
theorem skp_E(s:ByteArray):∀d,Skp s (pE s d)
 |0=>λp=>by rw[pE,pE,tokT_skp,tokA_skp,skp_atom s p]
 |d+1=>λp=>by rw[pE,pE,tokT_skp,nxt_skp,skp_atom s p]
section
variable {s:ByteArray} {E:Nat->Pr Ex} (hK:Skp s E)
include hK
end
theorem skp_binds{s:ByteArray}{E:Nat->Pr Ex}:∀(f:Nat) (ns:Nms) (es:List Ex) (p:Nat),0<f->pBinds s E f ns es (skp s p)=pBinds s E f ns es p
 |f+1,ns,es,p,_=>by rw[pBinds,pBinds,skp_want s _ p]
theorem skp_brs{s:ByteArray}{E:Nat->Pr Ex}:∀(f:Nat) (got:List (Nat×Nms×Ex)) (p:Nat),0<f->pBrs s E f got (skp s p)=pBrs s E f got p
 |f+1,got,p,_=>by rw[pBrs,pBrs,skp_want s _ p]
structure XN (w:World) (B:Nat) (kd n:Int) (nm:ByteArray) (pl:Int) (bv bav pv av:Value):Prop where
 c0:w.cell? ⟨B,0,none⟩=some (.int .i64 kd)
 c1:w.cell? ⟨B,1,none⟩=some (.int .i64 n)
 c2:w.cell? ⟨B,2,none⟩=some (.string nm)
 c3:w.cell? ⟨B,3,none⟩=some (.int .i64 pl)
 c4:w.cell? ⟨B,4,none⟩=some (bv)
 c5:w.cell? ⟨B,5,none⟩=some (bav)
 c6:w.cell? ⟨B,6,none⟩=some (pv)
 c7:w.cell? ⟨B,7,none⟩=some (av)
 f:∀j,j<8->w.frozen? ⟨B,j,none⟩=false
 ty:∃c,w.heap[B]?=some (.cells c 81 (0,0))
theorem xn_ty{w:World}{B:Nat}(h:∃c,w.heap[B]?=some (.cells c 81 (0,0)))(j:Nat)(u:Value):∃c,(w.setCell ⟨B,j,none⟩ u).heap[B]?=some (.cells c 81 (0,0)):=by
 obtain⟨c,hc⟩:=h;exact⟨_,heap_setCell_same w B j c _ u hc⟩
section
variable {w w':World} {B:Nat} {kd n:Int} {nm:ByteArray} {pl:Int} {bv bav pv av:Value}
theorem XN.lt(h:XN w B kd n nm pl bv bav pv av):B<w.heap.size:=block_lt_of_cell h.c0
theorem XN.of_block(h:XN w B kd n nm pl bv bav pv av)(e:w'.heap[B]?=w.heap[B]?):XN w' B kd n nm pl bv bav pv av:=by
 have hc:∀j,w'.cell? ⟨B,j,none⟩=w.cell? ⟨B,j,none⟩:=λj=>World.cell?_of_block (a:=⟨B,j,none⟩) e;refine⟨?_,?_,?_,?_,?_,?_,?_,?_,λj hj=>?_,by rw[e];exact h.ty⟩
 ·rw[hc];exact h.c0
 ·rw[hc];exact h.c1
 ·rw[hc];exact h.c2
 ·rw[hc];exact h.c3
 ·rw[hc];exact h.c4
 ·rw[hc];exact h.c5
 ·rw[hc];exact h.c6
 ·rw[hc];exact h.c7
 ·rw[World.frozen?_of_block (a:=⟨B,j,none⟩) e];exact h.f j hj
theorem XN.keep(h:XN w B kd n nm pl bv bav pv av)(hb:Below w.heap.size w w'):XN w' B kd n nm pl bv bav pv av:=h.of_block (hb.block B h.lt)
theorem XN.ef{T:Nat}(h:XN w B kd n nm pl bv bav pv av)(hE:EF T w w')(hne:B≠T):XN w' B kd n nm pl bv bav pv av:=h.of_block (hE.block B h.lt hne)
theorem XN.setKind(h:XN w B kd n nm pl bv bav pv av)(x:Int):XN (w.setCell ⟨B,0,none⟩ (.int .i64 x)) B x n nm pl bv bav pv av:=by
 have ho:∀j,j≠0->(w.setCell ⟨B,0,none⟩ (.int .i64 x)).cell? ⟨B,j,none⟩=w.cell? ⟨B,j,none⟩:=λj hj=>World.cell?_setCell_other _ _ _ _ (off_ne (Ne.symm hj));refine⟨World.cell?_setCell_same _ _ _ h.c0,?_,?_,?_,?_,?_,?_,?_,λj hj=>by rw[World.frozen?_setCell];exact h.f j hj,xn_ty h.ty _ _⟩
 ·rw[ho _ (by omega)];exact h.c1
 ·rw[ho _ (by omega)];exact h.c2
 ·rw[ho _ (by omega)];exact h.c3
 ·rw[ho _ (by omega)];exact h.c4
 ·rw[ho _ (by omega)];exact h.c5
 ·rw[ho _ (by omega)];exact h.c6
 ·rw[ho _ (by omega)];exact h.c7
theorem XN.setN(h:XN w B kd n nm pl bv bav pv av)(x:Int):XN (w.setCell ⟨B,1,none⟩ (.int .i64 x)) B kd x nm pl bv bav pv av:=by
 have ho:∀j,j≠1->(w.setCell ⟨B,1,none⟩ (.int .i64 x)).cell? ⟨B,j,none⟩=w.cell? ⟨B,j,none⟩:=λj hj=>World.cell?_setCell_other _ _ _ _ (off_ne (Ne.symm hj));refine⟨?_,World.cell?_setCell_same _ _ _ h.c1,?_,?_,?_,?_,?_,?_,λj hj=>by rw[World.frozen?_setCell];exact h.f j hj,xn_ty h.ty _ _⟩
 ·rw[ho _ (by omega)];exact h.c0
 ·rw[ho _ (by omega)];exact h.c2
 ·rw[ho _ (by omega)];exact h.c3
 ·rw[ho _ (by omega)];exact h.c4
 ·rw[ho _ (by omega)];exact h.c5
 ·rw[ho _ (by omega)];exact h.c6
 ·rw[ho _ (by omega)];exact h.c7
theorem XN.setBv(h:XN w B kd n nm pl bv bav pv av)(x:Value):XN (w.setCell ⟨B,4,none⟩ x) B kd n nm pl x bav pv av:=by
 have ho:∀j,j≠4->(w.setCell ⟨B,4,none⟩ x).cell? ⟨B,j,none⟩=w.cell? ⟨B,j,none⟩:=λj hj=>World.cell?_setCell_other _ _ _ _ (off_ne (Ne.symm hj));refine⟨?_,?_,?_,?_,World.cell?_setCell_same _ _ _ h.c4,?_,?_,?_,λj hj=>by rw[World.frozen?_setCell];exact h.f j hj,xn_ty h.ty _ _⟩
 ·rw[ho _ (by omega)];exact h.c0
 ·rw[ho _ (by omega)];exact h.c1
 ·rw[ho _ (by omega)];exact h.c2
 ·rw[ho _ (by omega)];exact h.c3
 ·rw[ho _ (by omega)];exact h.c5
 ·rw[ho _ (by omega)];exact h.c6
 ·rw[ho _ (by omega)];exact h.c7
theorem XN.setBav(h:XN w B kd n nm pl bv bav pv av)(x:Value):XN (w.setCell ⟨B,5,none⟩ x) B kd n nm pl bv x pv av:=by
 have ho:∀j,j≠5->(w.setCell ⟨B,5,none⟩ x).cell? ⟨B,j,none⟩=w.cell? ⟨B,j,none⟩:=λj hj=>World.cell?_setCell_other _ _ _ _ (off_ne (Ne.symm hj));refine⟨?_,?_,?_,?_,?_,World.cell?_setCell_same _ _ _ h.c5,?_,?_,λj hj=>by rw[World.frozen?_setCell];exact h.f j hj,xn_ty h.ty _ _⟩
 ·rw[ho _ (by omega)];exact h.c0
 ·rw[ho _ (by omega)];exact h.c1
 ·rw[ho _ (by omega)];exact h.c2
 ·rw[ho _ (by omega)];exact h.c3
 ·rw[ho _ (by omega)];exact h.c4
 ·rw[ho _ (by omega)];exact h.c6
 ·rw[ho _ (by omega)];exact h.c7
theorem XN.setPv(h:XN w B kd n nm pl bv bav pv av)(x:Value):XN (w.setCell ⟨B,6,none⟩ x) B kd n nm pl bv bav x av:=by
 have ho:∀j,j≠6->(w.setCell ⟨B,6,none⟩ x).cell? ⟨B,j,none⟩=w.cell? ⟨B,j,none⟩:=λj hj=>World.cell?_setCell_other _ _ _ _ (off_ne (Ne.symm hj));refine⟨?_,?_,?_,?_,?_,?_,World.cell?_setCell_same _ _ _ h.c6,?_,λj hj=>by rw[World.frozen?_setCell];exact h.f j hj,xn_ty h.ty _ _⟩
 ·rw[ho _ (by omega)];exact h.c0
 ·rw[ho _ (by omega)];exact h.c1
 ·rw[ho _ (by omega)];exact h.c2
 ·rw[ho _ (by omega)];exact h.c3
 ·rw[ho _ (by omega)];exact h.c4
 ·rw[ho _ (by omega)];exact h.c5
 ·rw[ho _ (by omega)];exact h.c7
theorem XN.setAv(h:XN w B kd n nm pl bv bav pv av)(x:Value):XN (w.setCell ⟨B,7,none⟩ x) B kd n nm pl bv bav pv x:=by
 have ho:∀j,j≠7->(w.setCell ⟨B,7,none⟩ x).cell? ⟨B,j,none⟩=w.cell? ⟨B,j,none⟩:=λj hj=>World.cell?_setCell_other _ _ _ _ (off_ne (Ne.symm hj));refine⟨?_,?_,?_,?_,?_,?_,?_,World.cell?_setCell_same _ _ _ h.c7,λj hj=>by rw[World.frozen?_setCell];exact h.f j hj,xn_ty h.ty _ _⟩
 ·rw[ho _ (by omega)];exact h.c0
 ·rw[ho _ (by omega)];exact h.c1
 ·rw[ho _ (by omega)];exact h.c2
 ·rw[ho _ (by omega)];exact h.c3
 ·rw[ho _ (by omega)];exact h.c4
 ·rw[ho _ (by omega)];exact h.c5
 ·rw[ho _ (by omega)];exact h.c6
end
def Kids{α β:Type}(E:Nat->Nat->α->β->Prop):Nat->Nat->List (α×Nat×Nat)->List β->Prop
 |lo,hi,[],[]=>lo<=hi
 |lo,hi,(v,x,y)::l,e::es=>lo<=x∧x<=y∧E x y v e∧Kids E y hi l es
 |_,_,_,_=>False
section
variable {α β:Type} {E E':Nat->Nat->α->β->Prop}
theorem Kids.le:∀{lo hi:Nat} {l:List (α×Nat×Nat)} {es:List β},Kids E lo hi l es->lo<=hi
 |_,_,[],[],h=>h
 |_,_,(v,x,y)::l,e::es,h=>by
  obtain⟨h1,h2,-,h4⟩:=h;have:=Kids.le h4;omega
 |_,_,[],_::_,h=>h.elim
 |_,_,_::_,[],h=>h.elim
theorem Kids.len:∀{lo hi:Nat} {l:List (α×Nat×Nat)} {es:List β},Kids E lo hi l es->l.length=es.length
 |_,_,[],[],_=>rfl
 |_,_,(v,x,y)::l,e::es,h=>by simp[Kids.len h.2.2.2]
 |_,_,[],_::_,h=>h.elim
 |_,_,_::_,[],h=>h.elim
theorem Kids.mono:∀{lo hi:Nat} {l:List (α×Nat×Nat)} {es:List β},Kids E lo hi l es->(∀x y v e,(v,x,y)∈l->lo<=x->y<=hi->E x y v e->E' x y v e)->Kids E' lo hi l es
 |_,_,[],[],h,_=>h
 |_,_,(v,x,y)::l,e::es,h,f=>by
  obtain⟨h1,h2,h3,h4⟩:=h;have h5:=Kids.le h4;exact⟨h1,h2,f x y v e List.mem_cons_self h1 h5 h3,Kids.mono h4 λx' y' v' e' hm hx hy=>f x' y' v' e' (List.mem_cons_of_mem _ hm) (by omega) hy⟩
 |_,_,[],_::_,h,_=>h.elim
 |_,_,_::_,[],h,_=>h.elim
theorem Kids.up:∀{lo hi hi':Nat} {l:List (α×Nat×Nat)} {es:List β},Kids E lo hi l es->hi<=hi'->Kids E lo hi' l es
 |_,_,_,[],[],h,hh=>Nat.le_trans h hh
 |_,_,_,(_,_,_)::_,_::_,h,hh=>⟨h.1,h.2.1,h.2.2.1,Kids.up h.2.2.2 hh⟩
 |_,_,_,[],_::_,h,_=>h.elim
 |_,_,_,_::_,[],h,_=>h.elim
theorem Kids.snoc:∀{lo hi:Nat} {l:List (α×Nat×Nat)} {es:List β} {x y hi':Nat} {v:α} {e:β},Kids E lo hi l es->hi<=x->x<=y->y<=hi'->E x y v e->Kids E lo hi' (l++[(v,x,y)]) (es++[e])
 |_,_,[],[],_,_,_,_,_,h,h1,h2,h3,h4=>⟨Nat.le_trans h h1,h2,h4,h3⟩
 |_,_,(_,_,_)::_,_::_,_,_,_,_,_,h,h1,h2,h3,h4=>⟨h.1,h.2.1,h.2.2.1,Kids.snoc h.2.2.2 h1 h2 h3 h4⟩
 |_,_,[],_::_,_,_,_,_,_,h,_,_,_,_=>h.elim
 |_,_,_::_,[],_,_,_,_,_,h,_,_,_,_=>h.elim
end
def xK:Ex->Int
 |.num _=>0
 |.name g _ _=>if g=true then 2 else 1
 |.call _=>3
 |.lets r _ _ _=>if r=true then 5 else 4
 |.con _ _=>6
 |.case _ _=>7
 |.op _ _ _=>8
def xN:Ex->Int
 |.num n=>n
 |.con t _=>(t:Int)
 |.op k _ _=>9+(k:Int)
 |_=>0
def xNm:Ex->ByteArray
 |.name _ t _=>t
 |_=>⟨#[]⟩
def xPl:Ex->Int
 |.name _ _ pl=>(pl:Int)
 |_=>0
def xBd:Ex->Nms
 |.lets _ ns _ _=>ns
 |_=>[]
def xPs:Ex->List Ex
 |.call ps=>ps
 |.lets _ _ es b=>es++[b]
 |.con _ fs=>fs
 |.case e _=>[e]
 |.op _ l r=>[l,r]
 |_=>[]
def xAl:Ex->List (Nat×Nms×Ex)
 |.case _ brs=>brs
 |_=>[]
def AltR(E:Nat->Nat->Value->Ex->Prop)(w:World)(x y:Nat)(v:Value×Value×Value)(b:Nat×Nms×Ex):Prop:=
 NRows w x v.1 v.2.1 b.2.1∧∃m,x<=m∧m<=y∧(∀g,v.1.ownBlock=some g->g<m)∧(∀g,v.2.1.ownBlock=some g->g<m)∧E m y v.2.2 b.2.2
def altRow(ka:List ((Value×Value×Value)×Nat×Nat))(al:List (Nat×Nms×Ex)):List Value:=
 (List.zip ka al).flatMap λx=>[.int .i64 (x.2.1:Int),x.1.1.1,x.1.1.2.1,x.1.1.2.2]
structure NodeR (E:Nat->Nat->Value->Ex->Prop) (w:World) (B hi:Nat) (bd:Nms) (ps:List Ex) (al:List (Nat×Nms×Ex)) (bv bav pv av:Value) (kp:List (Value×Nat×Nat)) (ka:List ((Value×Value×Value)×Nat×Nat)) (m:Nat):Prop where
 nr:NRows w (B+1) bv bav bd
 pr:w.ownsRow (B+1) 50 1 pv ps.length (kp.map (·.1))
 pk:Kids E (B+1) m kp ps
 ar:w.ownsRow (B+1) 84 4 av al.length (altRow ka al)
 ak:Kids (AltR E w) m hi ka al
def RX:Nat->World->Nat->Nat->Value->Ex->Prop
 |0,_,_,_,_,_=>False
 |d+1,w,a,b,v,e=>∃B bv bav pv av kp ka m,v=.pointer (some ⟨B,0,none⟩)∧a<=B∧b<=w.heap.size∧XN w B (xK e) (xN e) (xNm e) (xPl e) bv bav pv av∧
  (∀u∈[bv,bav,pv,av],∀g,u.ownBlock=some g->g<b)∧NodeR (RX d w) w B b (xBd e) (xPs e) (xAl e) bv bav pv av kp ka m
def SameB(a b:Nat)(w w':World):Prop:=∀k,a<=k->k<b->w'.heap[k]?=w.heap[k]?
theorem SameB.sub{a b a' b':Nat}{w w':World}(h:SameB a b w w')(ha:a<=a')(hb:b'<=b):SameB a' b' w w':=λk h1 h2=>h k (by omega) (by omega)
theorem row_same{w w':World}{base a b:Nat}{e:TypeId}{size n:Nat}{v:Value}{xs:List Value}(h:w.ownsRow base e size v n xs)(hs:SameB a b w w')(ha:a<=base)(hb:∀g,v.ownBlock=some g->g<b):w'.ownsRow base e size v n xs:=
 row_fr h λq hq=>hs q (by have:=(h.lt q (mem_vB.1 hq)).1;omega) (hb q (mem_vB.1 hq))
theorem NRows.same{w w':World}{base a b:Nat}{lv pv:Value}{got:Nms}(h:NRows w base lv pv got)(hs:SameB a b w w')(ha:a<=base)(h1:∀g,lv.ownBlock=some g->g<b)(h2:∀g,pv.ownBlock=some g->g<b):NRows w' base lv pv got:=
 ⟨row_same h.l hs ha h1,row_same h.p hs ha h2,h.ne⟩
theorem AltR.same{E E':Nat->Nat->Value->Ex->Prop}{w w':World}{x y:Nat}{v:Value×Value×Value}{b:Nat×Nms×Ex}(h:AltR E w x y v b)(hs:SameB x y w w')(hE:∀m,x<=m->E m y v.2.2 b.2.2->E' m y v.2.2 b.2.2):AltR E' w' x y v b:=by
 obtain⟨h1,m,h2,h3,h4,h5,h6⟩:=h;exact⟨h1.same hs (Nat.le_refl _) (λg hg=>by have:=h4 g hg;omega) (λg hg=>by have:=h5 g hg;omega),m,h2,h3,h4,h5,hE m h2 h6⟩
theorem RX.lt{d:Nat}{w:World}{a b:Nat}{v:Value}{e:Ex}(h:RX d w a b v e):a<b∧b<=w.heap.size:=by
 match d,h with
 |d+1,h=>
  obtain⟨B,bv,bav,pv,av,kp,ka,m,rfl,h1,h2,h3,h4,h5⟩:=h;have k1:=Kids.le h5.pk;have k2:=Kids.le h5.ak;omega
theorem RX.same:∀{d:Nat} {w w':World} {a b:Nat} {v:Value} {e:Ex},RX d w a b v e->SameB a b w w'->b<=w'.heap.size->RX d w' a b v e
 |0,_,_,_,_,_,_,h,_,_=>h
 |d+1,w,w',a,b,v,e,h,hs,hz=>by
  obtain⟨B,bv,bav,pv,av,kp,ka,m,rfl,h1,h2,h3,h4,h5⟩:=h;have k1:=Kids.le h5.pk;have k2:=Kids.le h5.ak;refine⟨B,bv,bav,pv,av,kp,ka,m,rfl,h1,hz,h3.of_block (hs B h1 (by omega)),h4,?_,?_,?_,?_,?_⟩
  ·exact h5.nr.same hs (by omega) (h4 bv (by simp)) (h4 bav (by simp))
  ·exact row_same h5.pr hs (by omega) (h4 pv (by simp))
  ·exact Kids.mono h5.pk λx y v e _ hx hy hE=>RX.same hE (hs.sub (by omega) (by omega)) (by omega)
  ·exact row_same h5.ar hs (by omega) (h4 av (by simp))
  ·exact Kids.mono h5.ak λx y v e _ hx hy hE=>AltR.same hE (hs.sub (by omega) (by omega)) λm' hm' h6=>RX.same h6 (hs.sub (by omega) (by omega)) (by omega)
theorem RX.wide:∀{d:Nat} {w:World} {a a' b b':Nat} {v:Value} {e:Ex},RX d w a b v e->a'<=a->b<=b'->b'<=w.heap.size->RX d w a' b' v e
 |0,_,_,_,_,_,_,_,h,_,_,_=>h
 |d+1,w,a,a',b,b',v,e,h,ha,hb,hz=>by
  obtain⟨B,bv,bav,pv,av,kp,ka,m,rfl,h1,h2,h3,h4,h5⟩:=h;exact⟨B,bv,bav,pv,av,kp,ka,m,rfl,by omega,hz,h3,λu hu g hg=>by have:=h4 u hu g hg;omega,h5.nr,h5.pr,h5.pk,h5.ar,h5.ak.up hb⟩
theorem close_dec(tt:ByteArray):(!(tt.toList==[41]))=!decide (tt=tClose):=by
 have h1:tClose.toList=[41]:=by rw[ByteArray.toList_eq];rfl
 by_cases e:tt=tClose
 ·subst e;rw[h1];rfl
 ·have e2:(tt.toList==[41])=false:=by
   rw[beq_eq_false_iff_ne,<-h1];exact λh=>e (toL_inj h)
  rw[e2];simp[e]
def decClose(s:ByteArray)(p:Nat):Bool:=!decide (tokT s p=tClose)
theorem txMore_ok{T:Nat}{s:ByteArray}{p nest pl:Nat}{nm iv dv:Value}{w:World}(h:TX w T s p nest 0 pl nm iv dv)(hs:s.size<=2000)(hp:p<=s.size):
 Calls Tryz.prog 74 #[.pointer (some ⟨T,0,none⟩)] w λe w'=>e=.returned (.bool (decClose s p))∧TX w' T s (skp s p) nest 0 pl nm iv dv∧EF T w w':=by
 have HS:=hid (txPeek_any h hs hp);obtain⟨tt,htt⟩:∃tt,tokT s p=tt:=⟨_,rfl⟩;have HTT:Hid (decClose s p=!decide (tt=tClose)):=by show _=_;unfold decClose;rw[htt]
 unfold TakeRes at HS;rw[htt]at HS;clear h htt;go_enter Tryz.func74,Tryz.ntmps74;go_wp2_with (first
  |(go_at_call 22;refine HS.out.mono ?_;rintro e w1 ⟨rfl,hT,hE⟩;have HT:=hid hT;have HE:=hid hE;obtain⟨d0,d1,d2,d3,d4,-,-,-,-⟩:=hT;clear hE HS))
 go_ret;refine⟨?_,HT.out,HE.out⟩;rw[HTT.out];exact ret_bool (close_dec tt)
theorem txMore_err{T:Nat}{s:ByteArray}{p nest err pl:Nat}{nm iv dv:Value}{w:World}(h:TX w T s p nest err pl nm iv dv)(he:err≠0)(hs:s.size<=2000)(hp:p<=s.size):
 Calls Tryz.prog 74 #[.pointer (some ⟨T,0,none⟩)] w λe w'=>e=.returned (.bool false)∧TX w' T s (skp s p) nest err pl nm iv dv∧EF T w w':=by
 have HS:=hid (txPeek_any h hs hp);unfold TakeRes at HS;have he1:((err:Int)==0)=false:=by rw[beq_eq_false_iff_ne];omega
 clear h;go_enter Tryz.func74,Tryz.ntmps74;go_wp2_with (first
  |(go_at_call 22;refine HS.out.mono ?_;rintro e w1 ⟨rfl,hT,hE⟩;have HT:=hid hT;have HE:=hid hE;obtain⟨d0,d1,d2,d3,d4,-,-,-,-⟩:=hT;clear hE HS))
 all_goals first
  |(exfalso;omega)
  |(go_ret
    exact⟨rfl,HT.out,HE.out⟩)
def fg{α:Type}(r:Pr α):Pr Unit:=match r with|.ok (_,q)=>.ok ((),q)|.error e=>.error e
theorem ans_fg{α β:Type}{T:Nat}{s:ByteArray}{r:Pr α}{r':Pr β}{nest pl:Nat}{nm iv dv:Value}{w:World}(h:Ans T s r nest pl nm iv dv w)(e:fg r'=fg r):Ans T s r' nest pl nm iv dv w:=by
 match r,r',h,e with
 |.ok (_,q),.ok (_,q'),h,e=>cases e;exact h
 |.ok (_,q),.error _,h,e=>cases e
 |.error _,.ok (_,q'),h,e=>cases e
 |.error _,.error _,h,e=>cases e;exact h
theorem ans_ef{α:Type}{T:Nat}{s:ByteArray}{r:Pr α}{nest pl:Nat}{nm iv dv:Value}{w w':World}(h:Ans T s r nest pl nm iv dv w)(hb:∀k,w.heap.size<=k∨w'.heap[T]?=w.heap[T]?):Ans T s r nest pl nm iv dv w':=by
 match r,h with
 |.ok (_,q),h=>exact⟨h.1.of_block ((hb T).resolve_left (by have:=h.1.lt;omega)),h.2⟩
 |.error (c,a),h=>
  obtain⟨q,h1,h2⟩:=h;exact⟨q,h1.of_block ((hb T).resolve_left (by have:=h1.lt;omega)),h2⟩
def mr{α:Type}(s:ByteArray)(r:Pr α):Bool:=match r with|.ok (_,q)=>decClose s q|.error _=>false
def skR{α:Type}(s:ByteArray)(r:Pr α):Pr α:=match r with|.ok (a,q)=>.ok (a,skp s q)|.error e=>.error e
def NZr{α:Type}(r:Pr α):Prop:=∀c a,r=.error (c,a)->c≠0
theorem mr_inv{α:Type}{s:ByteArray}{r:Pr α}(h:mr s r=true):∃a q,r=.ok (a,q)∧tokT s q≠tClose:=by
 match r,h with
 |.ok (a,q),h=>exact⟨a,q,rfl,by simpa[mr,decClose]using h⟩
theorem mr_no{α:Type}{s:ByteArray}{a:α}{q:Nat}(h:mr s (.ok (a,q):Pr α)=false):tokT s q=tClose:=by
 simpa[mr,decClose]using h
theorem txMore_any{α:Type}{T:Nat}{s:ByteArray}{r:Pr α}{nest pl:Nat}{nm iv dv:Value}{w:World}(h:Ans T s r nest pl nm iv dv w)(hz:NZr r)(hs:s.size<=2000):
 Calls Tryz.prog 74 #[.pointer (some ⟨T,0,none⟩)] w λe w'=>e=.returned (.bool (mr s r))∧Ans T s (skR s r) nest pl nm iv dv w'∧EF T w w':=by
 match r,h,hz with
 |.ok (a,q),h,_=>
  refine(txMore_ok h.1 hs h.2).mono ?_;rintro e w' ⟨h1,h2,h3⟩;exact⟨h1,⟨h2,skp_le h.2⟩,h3⟩
 |.error (c,a),h,hz=>
  obtain⟨q,h1,h2⟩:=h;refine(txMore_err h1 (hz c a rfl) hs h2).mono ?_;rintro e w' ⟨k1,k2,k3⟩;exact⟨k1,⟨_,k2,skp_le h2⟩,k3⟩
end Go.Proofs.YtlanckgcjijefaaGreatDoor

import Derived.Test.YtlanckgcjijefaaGreatDoorLx6J
import Derived.Deep.RegionHeldLaw
set_option maxRecDepth 100000
set_option maxHeartbeats 8000000
namespace Go.Proofs.YtlanckgcjijefaaGreatDoor
open Go.RowKit Go.Sort
theorem lkP_drop{E:List ByteArray->Ex->Nat×Nat->Nat×Nat}{names inner:List ByteArray}{rc:Bool}{ps:List Ex}{k:Nat}(hk:k<ps.length)(st:Nat×Nat):lkP E names inner rc (ps.drop k) st=lkP E names inner rc (ps.drop (k+1)) (E (if (rc||decide (k+1=ps.length))=true then inner else names) ps[k] st):=by
 rw[List.drop_eq_getElem_cons hk,lkP];congr 2
 have h:(ps.drop (k+1)).isEmpty=decide (k+1=ps.length):=by
  by_cases he:k+1=ps.length
  ·rw[decide_eq_true he,List.isEmpty_iff,List.drop_eq_nil_iff];omega
  ·rw[decide_eq_false he,<-Bool.not_eq_true,List.isEmpty_iff,List.drop_eq_nil_iff];omega
 rw[h]
theorem row_lo{w:World}{base e size n:Nat}{v:Value}{xs:List Value}(h:w.ownsRow base e size v n xs):w.ownsRow 0 e size v n xs:=by
 refine⟨h.1,?_⟩;rcases h.2 with h1|⟨g,cap,cur,h1,-,h3⟩
 ·exact Or.inl h1
 ·exact Or.inr ⟨g,cap,cur,h1,Nat.zero_le _,h3⟩
theorem below_drew2{B:Nat}{a w:World}(h:Below B a w):Below B a w.drew:=⟨h.os,h.tape,h.output,h.size,h.block⟩
def AltS(B ga l:Nat)(av n na bd:Value)(w:World):Prop:=w.cell? ⟨B,7,none⟩=some av∧w.cell? ⟨ga,l*4+1,none⟩=some n∧w.cell? ⟨ga,l*4+2,none⟩=some na∧w.cell? ⟨ga,l*4+3,none⟩=some bd
theorem altRow_at3{ka:List ((Value×Value×Value)×Nat×Nat)}{al:List (Nat×Nms×Ex)}(h:ka.length=al.length)(i:Nat)(hi:i<al.length)(hi2:i<ka.length):(altRow ka al)[i*4+1]?=some ka[i].1.1∧(altRow ka al)[i*4+2]?=some ka[i].1.2.1∧(altRow ka al)[i*4+3]?=some ka[i].1.2.2:=by
 have hz:i<(List.zip ka al).length:=by simp;omega
 have h1:=(flat4_at (λx:(((Value×Value×Value)×Nat×Nat)×(Nat×Nms×Ex))=>(.int .i64 (x.2.1:Int):Value)) (λx=>x.1.1.1) (λx=>x.1.1.2.1) (λx=>x.1.1.2.2) (List.zip ka al) i hz).2;simp only[List.getElem_zip]at h1;exact h1
theorem altS_of{w:World}{B ga ac:Nat}{kn n:Int}{t:ByteArray}{pl:Int}{bv bav pv:Value}{ka:List ((Value×Value×Value)×Nat×Nat)}{al:List (Nat×Nms×Ex)}(hx:XN w B kn n t pl bv bav pv (.slice (some ⟨ga,0,none⟩) al.length ac))(hr:w.ownsRow (B+1) 84 4 (.slice (some ⟨ga,0,none⟩) al.length ac) al.length (altRow ka al))(hk:ka.length=al.length){l:Nat}(hl:l<al.length)(hl2:l<ka.length):AltS B ga l (.slice (some ⟨ga,0,none⟩) al.length ac) ka[l].1.1 ka[l].1.2.1 ka[l].1.2.2 w:=by
 have h3:=altRow_at3 hk l hl hl2;obtain⟨-,-,-,-,-,-,-,c7,-⟩:=hx;refine⟨c7,?_,?_,?_⟩
 ·rw[hr.cellAt (l*4+1) (by omega)];exact h3.1
 ·rw[hr.cellAt (l*4+2) (by omega)];exact h3.2.1
 ·rw[hr.cellAt (l*4+3) (by omega)];exact h3.2.2
theorem lkA_drop{E:List ByteArray->Ex->Nat×Nat->Nat×Nat}{names:List ByteArray}{al:List (Nat×Nms×Ex)}{l:Nat}(hl:l<al.length)(st:Nat×Nat):lkA E names (al.drop l) st=lkA E names (al.drop (l+1)) (E (names++al[l].2.1.map (·.1)) al[l].2.2 (lkKnown st names.length al[l].2.1)):=by
 rw[List.drop_eq_getElem_cons hl,lkA]
section
variable {T a b B m d:Nat} {s:ByteArray} {p nest:Nat} {nm iv dv:Value} {imps:Imps} {defs:Defs} {kd:List ((Value×Value×Value)×Nat×Nat)} {names:List ByteArray} {nv:Value} {inner:List ByteArray} {inv:Value} {ps:List Ex} {kp:List (Value×Nat×Nat)} {al:List (Nat×Nms×Ex)} {ka:List ((Value×Value×Value)×Nat×Nat)} {kn n:Int} {t:ByteArray} {pl:Int} {bv bav pv:Value} {ga ac:Nat} {w wr:World} {l:Nat} {st:Nat×Nat}
theorem LkSt.alt(hC:LookC T s imps defs kd p nest nm iv dv d)(h:LkSt T a b B m d s p nest nm iv dv imps defs kd names nv inner inv ps kp al ka kn n t pl bv bav pv (.slice (some ⟨ga,0,none⟩) al.length ac) w wr ps.length l st)(hA:LkAt T a b B m kp ka nv inv)(hkp:kp.length=ps.length)(hka:ka.length=al.length)(hlt:l<al.length)(hl:names.length+2001*(d+1)<=100000)(hB:al[l].2.1.length<=2000∧(XBnd d al[l].2.2∧XLen d al[l].2.2)):
 ∃nb na bd,AltS B ga l (.slice (some ⟨ga,0,none⟩) al.length ac) nb na bd wr∧∀X,Below wr.heap.size wr X->Calls Tryz.prog 12 #[.pointer (some ⟨T,0,none⟩),nv,nb,na] X λe w4=>∃v4,e=.returned v4∧AltS B ga l (.slice (some ⟨ga,0,none⟩) al.length ac) nb na bd w4∧
  Calls Tryz.prog 11 #[.pointer (some ⟨T,0,none⟩),bd,v4] w4 λe' w5=>e'=.returned (.tuple #[])∧AltS B ga l (.slice (some ⟨ga,0,none⟩) al.length ac) nb na bd w5∧
   LkSt T a b B m d s p nest nm iv dv imps defs kd names nv inner inv ps kp al ka kn n t pl bv bav pv (.slice (some ⟨ga,0,none⟩) al.length ac) w w5 ps.length (l+1) (lkE (λt=>inB t (knownOf imps defs) 0) d (names++al[l].2.1.map (·.1)) al[l].2.2 (lkKnown st names.length al[l].2.1)):=by
 have hl2:l<ka.length:=by omega
 have hT:=hA.hT;have ha:=hA.ha;have hmb:=hA.mb;have ham:=hA.am l hl2;obtain⟨r1,m',r2,r3,r4,r5,r6⟩:=h.ak l hl2 hlt (Nat.le_refl _);refine⟨ka[l].1.1,ka[l].1.2.1,ka[l].1.2.2,altS_of h.xn h.ar hka hlt hl2,λX hbX=>?_⟩;have hX:EF T wr X:=EF.of_below hbX;have q1:LF T a b wr X:=LF.of_ef hX;have hTX:TX X T s p nest st.1 st.2 nm iv dv:=h.tx.keep hbX;refine(txKnown_any hTX (q1.row0 h.nr (by decide) hA.hn) (q1.nrows r1 (by omega)) (by omega) (by omega) hB.1).mono ?_;rintro e w4 ⟨hE4,hT4,v4,rfl,hr4⟩;have hE:=hX.trans hE4;have q2:LF T a b wr w4:=LF.of_ef hE;have q3:LF T m' ka[l].2.2 wr w4:=LF.of_ef hE;have hTl:T<wr.heap.size:=h.tx.lt;have xn4:=q3.xn h.xn (by omega) (by omega);have ar4:=q2.row h.ar (by decide) (by omega);have hz:=hX.size;refine⟨v4,rfl,altS_of xn4 ar4 hka hlt hl2,?_⟩;have hlen:(names++al[l].2.1.map (·.1)).length=names.length+al[l].2.1.length:=by simp
 have hx4:RX d w4 m' ka[l].2.2 ka[l].1.2.2 al[l].2.2:=r6.same (λk k1 k2=>hE.block k (by have:=r6.lt;omega) (by omega)) (Nat.le_trans r6.lt.2 hE.size);have hv4:v4.ownBlock≠some T:=λe=>by have:=(hr4.lt T e).1;omega
 refine(hC w4 m' ka[l].2.2 ka[l].1.2.2 al[l].2.2 (names++al[l].2.1.map (·.1)) v4 _ hx4 hB.2 (by omega) hT4 (q2.row h.ir (by decide) (by omega)) (q2.row h.dr (by decide) (by omega)) (by rw[hlen];exact row_lo hr4) hv4 (by rw[hlen];have:=hB.1;omega)).mono ?_;rintro e' w5 ⟨rfl,hL5,hT5⟩;have q4:LF T m' ka[l].2.2 wr w5:=q3.trans hL5;have hst:=h.step (x:=m') (y:=ka[l].2.2) (k2:=ps.length) (l2:=l+1) hA q4 hT5 (by omega) (by omega) (Nat.le_refl _) (by omega) (λj j1 j2=>by omega) (λj j1 j2=>Or.inr (hA.aa l j (by omega) j1));exact⟨rfl,altS_of hst.xn hst.ar hka hlt hl2,hst⟩
end
theorem look_node{T a b B m d:Nat}{s t:ByteArray}{p nest:Nat}{st:Nat×Nat}{nm iv dv bv bav pv av nv:Value}{pl n kn:Int}{names:List ByteArray}{w:World}{imps:Imps}{defs:Defs}{kd:List ((Value×Value×Value)×Nat×Nat)}{ps:List Ex}{kp:List (Value×Nat×Nat)}{al:List (Nat×Nms×Ex)}{ka:List ((Value×Value×Value)×Nat×Nat)}(hC:LookC T s imps defs kd p nest nm iv dv d)(hS:LkSt T a b B m d s p nest nm iv dv imps defs kd names nv names nv ps kp al ka kn n t pl bv bav pv av w w 0 0 st)(hA:LkAt T a b B m kp ka nv nv)(hkp:kp.length=ps.length)(hka:ka.length=al.length)
 (hl:names.length+2001*(d+1)<=100000) (hB:∀x∈ps,XBnd d x∧XLen d x) (hB2:∀x∈al,x.2.1.length<=2000∧(XBnd d x.2.2∧XLen d x.2.2)) (b1:(kn==1)=false) (b4:(kn==4)=false) (b5:(kn==5)=false) (hps:ps.length<=100000) (hal:al.length<=100000):
 Calls Tryz.prog 11 #[.pointer (some ⟨T,0,none⟩),.pointer (some ⟨B,0,none⟩),nv] w λe' w'=>e'=.returned (.tuple #[])∧LF T a b w w'∧TX w' T s p nest (lkA (lkE (λt=>inB t (knownOf imps defs) 0) d) names al (lkP (lkE (λt=>inB t (knownOf imps defs) 0) d) names names false ps st)).1 (lkA (lkE (λt=>inB t (knownOf imps defs) 0) d) names al (lkP (lkE (λt=>inB t (knownOf imps defs) 0) d) names names false ps st)).2 nm iv dv:=by
 have HKP:=hid hkp;have HKA:=hid hka;have HL:=hid hl;have HAL:=hid hal;clear hkp hka hal;have HIN:=hid (in_any t names nv w (row_strs hS.nr) (by omega));have HS:=hid hS;have HA:=hid hA;have HC:=hid hC;have HB:=hid hB;have HB2:=hid hB2;obtain⟨pp,pc,rfl⟩:=row_slice hS.pr;obtain⟨ap,ac,rfl⟩:=row_slice hS.ar;obtain⟨c0,c1,c2,c3,c4,c5,c6,c7,-⟩:=hS.xn;obtain⟨S,hSS⟩:∃S,lkP (lkE (λt=>inB t (knownOf imps defs) 0) d) names names false ps st=S:=⟨_,rfl⟩;have HSS:=hid hSS;rw[hSS];obtain⟨bb,hbb⟩:∃x,inB t names 0=x:=⟨_,rfl⟩;rw[hbb]at HIN;clear hS hA hC hB hB2 hSS hbb hl;go_enter Tryz.func11,Tryz.ntmps11;go_wp2_with (first
  |(go_at_call 27;refine HIN.out.mono ?_;rintro e w4 ⟨rfl,hww⟩;replace hww:=hww.symm;subst hww;clear HIN))
 clear c0 c1 c2 c3 c4 c5 c6 c7;go_loopw [9] (λkv wr=>∃k:Nat,k<=ps.length∧kv=.int .i64 (k:Int)∧∃st',Hid (LkSt T a b B m d s p nest nm iv dv imps defs kd names nv names nv ps kp al ka kn n t pl bv bav (.slice pp ps.length pc) (.slice ap al.length ac) w wr k 0 st'∧lkP (lkE (λt=>inB t (knownOf imps defs) 0) d) names names false (ps.drop k) st'=S)) (λkv _=>ps.length-(intOf kv).toNat)
 case atStart=>exact⟨0,Nat.zero_le _,rfl,st,HS.out,HSS.out⟩
 case round=>
  obtain⟨k,hk,rfl,st',HK⟩:=hrel;rename World=>wr
  obtain⟨c0,c1,c2,c3,c4,c5,c6,c7,-⟩:=HK.out.1.xn;by_cases hlt:k<ps.length
  ·have g0:(0:Int)<=(k:Int):=by omega
   have g1:(k:Int)<(ps.length:Int):=by omega
   obtain⟨gp,rfl⟩:∃g,pp=some ⟨g,0,none⟩:=by
    obtain⟨g,cap,e,-⟩:=HK.out.1.pr.form (by omega);exact⟨g,by cases e;rfl⟩
   have ce:wr.cell? ⟨gp,k,none⟩=some (kp[k]'(by have:=HKP.out;omega)).1:=by
    rw[HK.out.1.pr.cellAt k (by omega)];have hkk:k<kp.length:=by have:=HKP.out;omega
    rw[List.getElem?_map,List.getElem?_eq_getElem hkk];rfl
   have HCL:=hid (HC.out wr (kp[k]'(by have:=HKP.out;omega)).2.1 (kp[k]'(by have:=HKP.out;omega)).2.2 (kp[k]'(by have:=HKP.out;omega)).1 ps[k] names nv st' (HK.out.1.pk k (by have:=HKP.out;omega) hlt (Nat.le_refl _)) (HB.out _ (List.getElem_mem _)) (by have:=HA.out.pm k (by have:=HKP.out;omega);have:=HA.out.hT;have:=HA.out.ha;omega) HK.out.1.tx HK.out.1.ir HK.out.1.dr HK.out.1.nr HA.out.hn (by have:=HL.out;omega));have HNX:Hid (lkP (lkE (λt=>inB t (knownOf imps defs) 0) d) names names false (ps.drop (k+1)) (lkE (λt=>inB t (knownOf imps defs) 0) d names ps[k] st')=S):=by
    have h:=HK.out.2;rw[lkP_drop hlt]at h;show _=_;rw[<-h];congr 1
    split<;>rfl
   obtain⟨cv,hcv⟩:∃v,(kp[k]'(by have:=HKP.out;omega)).1=v:=⟨_,rfl⟩;rw[hcv]at ce HCL;clear hcv;have hk3:k<100000:=by omega
   clear hps b1 b4;cases hq:((k:Int)==wrap64 ((ps.length:Int)-1)) with
   |true=>
    go_wp2_with (first
     |(go_at_call 11;refine HCL.out.mono ?_;rintro e w5 ⟨rfl,hL5,hT5⟩;have HL5:=hid hL5;have HT5:=hid hT5;clear hL5 hT5))
    refine⟨⟨k+1,by omega,by go_num,_,HK.out.1.step (k2:=k+1) (l2:=0) HA.out HL5.out HT5.out (by have:=HA.out.pm k (by have:=HKP.out;omega);omega) (by have:=HA.out.pm k (by have:=HKP.out;omega);have:=HA.out.mb;omega) (by omega) (by omega) (λj j1 j2=>Or.inr (HA.out.pp k j (by omega) j1)) (λj j1 j2=>Or.inr (by have:=HA.out.pm k (by have:=HKP.out;omega);have:=HA.out.am j j1;omega)),HNX.out⟩,by simp[intOf];omega⟩
   |false=>
    go_wp2_with (first
     |(go_at_call 11;refine HCL.out.mono ?_;rintro e w5 ⟨rfl,hL5,hT5⟩;have HL5:=hid hL5;have HT5:=hid hT5;clear hL5 hT5))
    refine⟨⟨k+1,by omega,by go_num,_,HK.out.1.step (k2:=k+1) (l2:=0) HA.out HL5.out HT5.out (by have:=HA.out.pm k (by have:=HKP.out;omega);omega) (by have:=HA.out.pm k (by have:=HKP.out;omega);have:=HA.out.mb;omega) (by omega) (by omega) (λj j1 j2=>Or.inr (HA.out.pp k j (by omega) j1)) (λj j1 j2=>Or.inr (by have:=HA.out.pm k (by have:=HKP.out;omega);have:=HA.out.am j j1;omega)),HNX.out⟩,by simp[intOf];omega⟩
  ·have hge:¬(k:Int)<(ps.length:Int):=by omega
   obtain rfl:k=ps.length:=by omega
   have HSE:Hid (st'=S):=by have h:=HK.out.2;rw[List.drop_length]at h;exact h
   have hal:=HAL.out;clear hps;go_wp2;go_loopw [10] (λkv wr=>∃l:Nat,l<=al.length∧kv=.int .i64 (l:Int)∧∃st2,Hid (LkSt T a b B m d s p nest nm iv dv imps defs kd names nv names nv ps kp al ka kn n t pl bv bav (.slice pp ps.length pc) (.slice ap al.length ac) w wr ps.length l st2∧lkA (lkE (λt=>inB t (knownOf imps defs) 0) d) names (al.drop l) st2=lkA (lkE (λt=>inB t (knownOf imps defs) 0) d) names al S)) (λkv _=>al.length-(intOf kv).toNat)
   case atStart=>exact⟨0,Nat.zero_le _,rfl,st',HK.out.1,by rw[List.drop_zero,HSE.out]⟩
   case round=>
    clear c0 c1 c2 c3 c4 c5 c6 c7 HK;obtain⟨l,hl,rfl,st2,HK2⟩:=hrel;rename World=>wl
    obtain⟨c0,c1,c2,c3,c4,c5,c6,c7,-⟩:=HK2.out.1.xn;by_cases hlt2:l<al.length
    ·have g0:(0:Int)<=(l:Int):=by omega
     have g1:(l:Int)<(al.length:Int):=by omega
     have hl3:l<100000:=by omega
     obtain⟨ga,rfl⟩:∃g,ap=some ⟨g,0,none⟩:=by
      obtain⟨g,cap,e,-⟩:=HK2.out.1.ar.form (by omega);exact⟨g,by cases e;rfl⟩
     obtain⟨nb,na,bd,hS,hK⟩:=HK2.out.1.alt HC.out HA.out HKP.out HKA.out hlt2 HL.out (HB2.out _ (List.getElem_mem _));have HKN:=hid (hK wl.drew (below_drew2 (Below.refl _ _)));have HNX:Hid (lkA (lkE (λt=>inB t (knownOf imps defs) 0) d) names (al.drop (l+1)) (lkE (λt=>inB t (knownOf imps defs) 0) d (names++al[l].2.1.map (·.1)) al[l].2.2 (lkKnown st2 names.length al[l].2.1))=lkA (lkE (λt=>inB t (knownOf imps defs) 0) d) names al S):=by
      have h:=HK2.out.2;rw[lkA_drop hlt2]at h;exact h
     obtain⟨s0,s1,s2,s3⟩:=hS;have t0:wl.drew.cell? ⟨B,7,none⟩=_:=s0;have t1:wl.drew.cell? ⟨ga,l*4+1,none⟩=_:=s1;have t2:wl.drew.cell? ⟨ga,l*4+2,none⟩=_:=s2;have t3:wl.drew.cell? ⟨ga,l*4+3,none⟩=_:=s3;clear hK hal;go_upto_region 18 with(fail)
     go_region_held_law (λw'=>w'.cell? ⟨B,7,none⟩=some (.slice (some ⟨ga,0,none⟩) al.length ac)∧w'.cell? ⟨ga,l*4+1,none⟩=some nb∧w'.cell? ⟨ga,l*4+2,none⟩=some na∧w'.cell? ⟨ga,l*4+3,none⟩=some bd) (exact⟨by assumption,by assumption,by assumption,by assumption⟩)
      (first
       |(go_at_call 12;refine HKN.out.mono ?_;rintro e w4 ⟨v4,rfl,⟨y0,y1,y2,y3⟩,hlk⟩;have HLK:=hid hlk;clear hlk)
       |(go_at_call 11;refine HLK.out.mono ?_;rintro e w5 ⟨rfl,⟨z0,z1,z2,z3⟩,hs5⟩;have HS5:=hid hs5;clear hs5))
     go_wp2;exact⟨⟨l+1,by omega,by go_num,_,HS5.out,HNX.out⟩,by simp[intOf];omega⟩
    ·have hge:¬(l:Int)<(al.length:Int):=by omega
     obtain rfl:l=al.length:=by omega
     have HFIN:Hid (st2=lkA (lkE (λt=>inB t (knownOf imps defs) 0) d) names al S):=by have h:=HK2.out.2;rw[List.drop_length]at h;exact h
     go_wp2;refine bE ?_;rw[<-HFIN.out];exact⟨rfl,HK2.out.1.lf,HK2.out.1.tx⟩
theorem LkSt.inner{T a b B m d:Nat}{s:ByteArray}{p nest:Nat}{nm iv dv:Value}{imps:Imps}{defs:Defs}{kd:List ((Value×Value×Value)×Nat×Nat)}{names:List ByteArray}{nv:Value}{inner:List ByteArray}{inv:Value}{ps:List Ex}{kp:List (Value×Nat×Nat)}{al:List (Nat×Nms×Ex)}{ka:List ((Value×Value×Value)×Nat×Nat)}{kn n:Int}{t:ByteArray}{pl:Int}{bv bav pv av:Value}{w w1:World}{st st1:Nat×Nat}
 (h:LkSt T a b B m d s p nest nm iv dv imps defs kd names nv names nv ps kp al ka kn n t pl bv bav pv av w w 0 0 st) (hA:LkAt T a b B m kp ka nv nv) (hE:EF T w w1) (hT:TX w1 T s p nest st1.1 st1.2 nm iv dv) (hr:w1.ownsRow 0 9 1 inv inner.length (inner.map .string)):
 LkSt T a b B m d s p nest nm iv dv imps defs kd names nv inner inv ps kp al ka kn n t pl bv bav pv av w w1 0 0 st1:=by
 have hmb:=hA.mb;have h2:=h.step (x:=b) (y:=b) (k2:=0) (l2:=0) hA (LF.of_ef hE) hT (by omega) (Nat.le_refl _) (Nat.le_refl _) (Nat.le_refl _) (λj j1 _=>Or.inl (by have:=hA.pm j j1;omega)) (λj j1 _=>Or.inl (by have:=hA.am j j1;omega));exact⟨h2.lf,h2.tx,h2.xn,h2.pr,h2.ar,h2.pk,h2.ak,h2.ir,h2.dr,h2.nr,hr⟩
theorem look_lets{T a b B m d:Nat}{s t:ByteArray}{p nest:Nat}{st:Nat×Nat}{nm iv dv bv bav pv av nv:Value}{pl n:Int}{names:List ByteArray}{w:World}{imps:Imps}{defs:Defs}{kd:List ((Value×Value×Value)×Nat×Nat)}{ps:List Ex}{kp:List (Value×Nat×Nat)}{bd:Nms}(rc:Bool)(hC:LookC T s imps defs kd p nest nm iv dv d)(hS:LkSt T a b B m d s p nest nm iv dv imps defs kd names nv names nv ps kp [] [] (if rc=true then 5 else 4) n t pl bv bav pv av w w 0 0 st)(hA:LkAt T a b B m kp [] nv nv)(hNR:NRows w (B+1) bv bav bd)(hkp:kp.length=ps.length)
 (hl:names.length+2001*(d+1)<=100000) (hbd:bd.length<=2000) (hB:∀x∈ps,XBnd d x∧XLen d x) (hps:ps.length<=100000):
 Calls Tryz.prog 11 #[.pointer (some ⟨T,0,none⟩),.pointer (some ⟨B,0,none⟩),nv] w λe' w'=>e'=.returned (.tuple #[])∧LF T a b w w'∧TX w' T s p nest (lkP (lkE (λt=>inB t (knownOf imps defs) 0) d) names (names++bd.map (·.1)) rc ps (lkKnown st names.length bd)).1 (lkP (lkE (λt=>inB t (knownOf imps defs) 0) d) names (names++bd.map (·.1)) rc ps (lkKnown st names.length bd)).2 nm iv dv:=by
 have HKP:=hid hkp;have HL:=hid hl;clear hkp;obtain⟨inner,hinn⟩:∃i,names++bd.map (·.1)=i:=⟨_,rfl⟩;have hil:inner.length=names.length+bd.length:=by rw[<-hinn];simp
 have HIL:=hid hil;have hTw:T<w.heap.size:=hS.tx.lt;have hTa:=hA.hT;have haB:=hA.ha;obtain⟨st1,hst1⟩:∃x,lkKnown st names.length bd=x:=⟨_,rfl⟩;have HKN:Hid (Calls Tryz.prog 12 #[.pointer (some ⟨T,0,none⟩),nv,bv,bav] w.drew λe w1=>∃inv,e=.returned inv∧inv.ownBlock≠some T∧LkSt T a b B m d s p nest nm iv dv imps defs kd names nv inner inv ps kp [] [] (if rc=true then 5 else 4) n t pl bv bav pv av w w1 0 0 st1):=by
  have hED:EF T w w.drew:=EF.of_below (below_drew2 (Below.refl _ _));have qD:LF T a b w w.drew:=LF.of_ef hED;refine(txKnown_any hS.tx.drew (qD.row0 hS.nr (by decide) hA.hn) (qD.nrows hNR (by omega)) (by omega) (by omega) hbd).mono ?_;rintro e w1 ⟨hE1,hT1,inv,rfl,hr1⟩;rw[hst1]at hT1;have hzd:w.heap.size<=w.drew.heap.size:=Nat.le_refl _;refine⟨inv,rfl,λe=>by have:=(hr1.lt T e).1;omega,hS.inner hA (hED.trans hE1) hT1 ?_⟩;rw[hil,<-hinn];exact row_lo hr1
 have HIN:Hid (∀w1,w1.ownsRow 0 9 1 nv names.length (names.map .string)->Calls Tryz.prog 27 #[.string t,nv] w1 λe w'=>e=.returned (.bool (inB t names 0))∧w'=w1):=λw1 h1=>in_any t names nv w1 (row_strs h1) (by omega);have HA:=hid hA;have HC:=hid hC;have HB:=hid hB;obtain⟨pp,pc,rfl⟩:=row_slice hS.pr;obtain⟨ap,ac,rfl⟩:=row_slice hS.ar;obtain⟨c0,c1,c2,c3,c4,c5,c6,c7,-⟩:=hS.xn;obtain⟨S,hSS⟩:∃S,lkP (lkE (λt=>inB t (knownOf imps defs) 0) d) names inner rc ps st1=S:=⟨_,rfl⟩;have HSS:=hid hSS;rw[hinn,hst1,hSS];obtain⟨bb,hbb⟩:∃x,inB t names 0=x:=⟨_,rfl⟩;rw[hbb]at HIN;clear hS hA hC hB hSS hbb hl hinn hst1 hil hNR;cases rc with
 |true=>
  simp only[if_true]at HKN c0;go_enter Tryz.func11,Tryz.ntmps11;have d4:w.drew.cell? ⟨B,4,none⟩=_:=c4;have d5:w.drew.cell? ⟨B,5,none⟩=_:=c5;go_upto_region 2 with(fail)
  go_region_held_law (λw'=>w'.cell? ⟨B,4,none⟩=some bv∧w'.cell? ⟨B,5,none⟩=some bav) (exact⟨by assumption,by assumption⟩)
   (first
    |(go_at_call 12;refine HKN.out.mono ?_;rintro e w1 ⟨inv,rfl,hiT,hS1⟩;have HS1:=hid hS1;obtain⟨x0,x1,x2,x3,x4,x5,x6,x7,-⟩:=hS1.xn;have HIN1:=hid (HIN.out _ hS1.nr);clear hS1))
  clear c0 c1 c2 c3 c4 c5 c6 c7 d4 d5 HIN HKN;go_wp2_with (first
   |(go_at_call 27;refine HIN1.out.mono ?_;rintro e w4 ⟨rfl,hww⟩;replace hww:=hww.symm;subst hww;clear HIN1))
  clear x0 x1 x2 x3 x4 x5 x6 x7;have HIT:=hid hiT;clear hiT;go_loopw [9] (λkv wr=>∃k:Nat,k<=ps.length∧kv=.int .i64 (k:Int)∧∃st',Hid (LkSt T a b B m d s p nest nm iv dv imps defs kd names nv inner inv ps kp [] [] 5 n t pl bv bav (.slice pp ps.length pc) (.slice ap 0 ac) w wr k 0 st'∧lkP (lkE (λt=>inB t (knownOf imps defs) 0) d) names inner true (ps.drop k) st'=S)) (λkv _=>ps.length-(intOf kv).toNat)
  case atStart=>exact⟨0,Nat.zero_le _,rfl,st1,HS1.out,HSS.out⟩
  case round=>
   clear HS1;obtain⟨k,hk,rfl,st',HK⟩:=hrel;rename World=>wr
   obtain⟨c0,c1,c2,c3,c4,c5,c6,c7,-⟩:=HK.out.1.xn;by_cases hlt:k<ps.length
   ·have g0:(0:Int)<=(k:Int):=by omega
    have g1:(k:Int)<(ps.length:Int):=by omega
    obtain⟨gp,rfl⟩:∃g,pp=some ⟨g,0,none⟩:=by
     obtain⟨g,cap,e,-⟩:=HK.out.1.pr.form (by omega);exact⟨g,by cases e;rfl⟩
    have ce:wr.cell? ⟨gp,k,none⟩=some (kp[k]'(by have:=HKP.out;omega)).1:=by
     rw[HK.out.1.pr.cellAt k (by omega)];have hkk:k<kp.length:=by have:=HKP.out;omega
     rw[List.getElem?_map,List.getElem?_eq_getElem hkk];rfl
    have HCO:=hid (HC.out wr (kp[k]'(by have:=HKP.out;omega)).2.1 (kp[k]'(by have:=HKP.out;omega)).2.2 (kp[k]'(by have:=HKP.out;omega)).1 ps[k] names nv st' (HK.out.1.pk k (by have:=HKP.out;omega) hlt (Nat.le_refl _)) (HB.out _ (List.getElem_mem _)) (by have:=HA.out.pm k (by have:=HKP.out;omega);have:=HA.out.hT;have:=HA.out.ha;omega) HK.out.1.tx HK.out.1.ir HK.out.1.dr HK.out.1.nr HA.out.hn (by have:=HL.out;omega));have HCI:=hid (HC.out wr (kp[k]'(by have:=HKP.out;omega)).2.1 (kp[k]'(by have:=HKP.out;omega)).2.2 (kp[k]'(by have:=HKP.out;omega)).1 ps[k] inner inv st' (HK.out.1.pk k (by have:=HKP.out;omega) hlt (Nat.le_refl _)) (HB.out _ (List.getElem_mem _)) (by have:=HA.out.pm k (by have:=HKP.out;omega);have:=HA.out.hT;have:=HA.out.ha;omega) HK.out.1.tx HK.out.1.ir HK.out.1.dr HK.out.1.ir2 HIT.out (by have:=HL.out;have:=HIL.out;omega));have HNX:Hid (lkP (lkE (λt=>inB t (knownOf imps defs) 0) d) names inner true (ps.drop (k+1)) ((lkE (λt=>inB t (knownOf imps defs) 0) d) (if (true||decide (k+1=ps.length))=true then inner else names) ps[k] st')=S):=by
     have h:=HK.out.2;rw[lkP_drop hlt]at h;exact h
    obtain⟨cv,hcv⟩:∃v,(kp[k]'(by have:=HKP.out;omega)).1=v:=⟨_,rfl⟩;rw[hcv]at ce HCO HCI;clear hcv;have hk3:k<100000:=by omega
    have HWR:Hid (wrap64 ((ps.length:Int)-1)=(ps.length:Int)-1):=by
     show wrap64 _=_;unfold wrap64;omega
    have HAI:Hid (LkAt T a b B m kp [] nv inv):=⟨HA.out.hT,HA.out.ha,HA.out.pm,HA.out.am,HA.out.pp,HA.out.aa,HA.out.mb,HA.out.hn,HIT.out⟩;clear hps hbd;simp only[Bool.true_or,if_true]at HNX;go_wp2_with (first
     |(go_at_call 11;refine HCI.out.mono ?_;rintro e w5 ⟨rfl,hL5,hT5⟩;have HL5:=hid hL5;have HT5:=hid hT5;clear hL5 hT5))
    exact⟨⟨k+1,by omega,by go_num,_,HK.out.1.step (k2:=k+1) (l2:=0) HAI.out HL5.out HT5.out (by have:=HA.out.pm k (by have:=HKP.out;omega);omega) (by have:=HA.out.pm k (by have:=HKP.out;omega);have:=HA.out.mb;omega) (by omega) (by omega) (λj j1 j2=>Or.inr (HA.out.pp k j (by omega) j1)) (λj j1 j2=>by simp at j1),HNX.out⟩,by simp[intOf];omega⟩
   ·have hge:¬(k:Int)<(ps.length:Int):=by omega
    obtain rfl:k=ps.length:=by omega
    have HSE:Hid (st'=S):=by have h:=HK.out.2;rw[List.drop_length]at h;exact h
    clear hps hbd;go_wp2;go_loopw [10] (λkv wr2=>kv=.int .i64 0∧wr2=wr) (λ_ _=>0)
    case atStart=>exact⟨rfl,rfl⟩
    case round=>
     obtain⟨rfl,hww⟩:=hrel;replace hww:=hww.symm
     subst hww;go_wp2;refine bE ?_;rw[<-HSE.out];exact⟨rfl,HK.out.1.lf,HK.out.1.tx⟩
 |false=>
  simp only[if_false,Bool.false_eq_true]at HKN c0;go_enter Tryz.func11,Tryz.ntmps11;have d4:w.drew.cell? ⟨B,4,none⟩=_:=c4;have d5:w.drew.cell? ⟨B,5,none⟩=_:=c5;go_upto_region 2 with(fail)
  go_region_held_law (λw'=>w'.cell? ⟨B,4,none⟩=some bv∧w'.cell? ⟨B,5,none⟩=some bav) (exact⟨by assumption,by assumption⟩)
   (first
    |(go_at_call 12;refine HKN.out.mono ?_;rintro e w1 ⟨inv,rfl,hiT,hS1⟩;have HS1:=hid hS1;obtain⟨x0,x1,x2,x3,x4,x5,x6,x7,-⟩:=hS1.xn;have HIN1:=hid (HIN.out _ hS1.nr);clear hS1))
  clear c0 c1 c2 c3 c4 c5 c6 c7 d4 d5 HIN HKN;go_wp2_with (first
   |(go_at_call 27;refine HIN1.out.mono ?_;rintro e w4 ⟨rfl,hww⟩;replace hww:=hww.symm;subst hww;clear HIN1))
  clear x0 x1 x2 x3 x4 x5 x6 x7;have HIT:=hid hiT;clear hiT;go_loopw [9] (λkv wr=>∃k:Nat,k<=ps.length∧kv=.int .i64 (k:Int)∧∃st',Hid (LkSt T a b B m d s p nest nm iv dv imps defs kd names nv inner inv ps kp [] [] 4 n t pl bv bav (.slice pp ps.length pc) (.slice ap 0 ac) w wr k 0 st'∧lkP (lkE (λt=>inB t (knownOf imps defs) 0) d) names inner false (ps.drop k) st'=S)) (λkv _=>ps.length-(intOf kv).toNat)
  case atStart=>exact⟨0,Nat.zero_le _,rfl,st1,HS1.out,HSS.out⟩
  case round=>
   clear HS1;obtain⟨k,hk,rfl,st',HK⟩:=hrel;rename World=>wr
   obtain⟨c0,c1,c2,c3,c4,c5,c6,c7,-⟩:=HK.out.1.xn;by_cases hlt:k<ps.length
   ·have g0:(0:Int)<=(k:Int):=by omega
    have g1:(k:Int)<(ps.length:Int):=by omega
    obtain⟨gp,rfl⟩:∃g,pp=some ⟨g,0,none⟩:=by
     obtain⟨g,cap,e,-⟩:=HK.out.1.pr.form (by omega);exact⟨g,by cases e;rfl⟩
    have ce:wr.cell? ⟨gp,k,none⟩=some (kp[k]'(by have:=HKP.out;omega)).1:=by
     rw[HK.out.1.pr.cellAt k (by omega)];have hkk:k<kp.length:=by have:=HKP.out;omega
     rw[List.getElem?_map,List.getElem?_eq_getElem hkk];rfl
    have HCO:=hid (HC.out wr (kp[k]'(by have:=HKP.out;omega)).2.1 (kp[k]'(by have:=HKP.out;omega)).2.2 (kp[k]'(by have:=HKP.out;omega)).1 ps[k] names nv st' (HK.out.1.pk k (by have:=HKP.out;omega) hlt (Nat.le_refl _)) (HB.out _ (List.getElem_mem _)) (by have:=HA.out.pm k (by have:=HKP.out;omega);have:=HA.out.hT;have:=HA.out.ha;omega) HK.out.1.tx HK.out.1.ir HK.out.1.dr HK.out.1.nr HA.out.hn (by have:=HL.out;omega));have HCI:=hid (HC.out wr (kp[k]'(by have:=HKP.out;omega)).2.1 (kp[k]'(by have:=HKP.out;omega)).2.2 (kp[k]'(by have:=HKP.out;omega)).1 ps[k] inner inv st' (HK.out.1.pk k (by have:=HKP.out;omega) hlt (Nat.le_refl _)) (HB.out _ (List.getElem_mem _)) (by have:=HA.out.pm k (by have:=HKP.out;omega);have:=HA.out.hT;have:=HA.out.ha;omega) HK.out.1.tx HK.out.1.ir HK.out.1.dr HK.out.1.ir2 HIT.out (by have:=HL.out;have:=HIL.out;omega));have HNX:Hid (lkP (lkE (λt=>inB t (knownOf imps defs) 0) d) names inner false (ps.drop (k+1)) ((lkE (λt=>inB t (knownOf imps defs) 0) d) (if (false||decide (k+1=ps.length))=true then inner else names) ps[k] st')=S):=by
     have h:=HK.out.2;rw[lkP_drop hlt]at h;exact h
    obtain⟨cv,hcv⟩:∃v,(kp[k]'(by have:=HKP.out;omega)).1=v:=⟨_,rfl⟩;rw[hcv]at ce HCO HCI;clear hcv;have hk3:k<100000:=by omega
    have HWR:Hid (wrap64 ((ps.length:Int)-1)=(ps.length:Int)-1):=by
     show wrap64 _=_;unfold wrap64;omega
    have HAI:Hid (LkAt T a b B m kp [] nv inv):=⟨HA.out.hT,HA.out.ha,HA.out.pm,HA.out.am,HA.out.pp,HA.out.aa,HA.out.mb,HA.out.hn,HIT.out⟩;clear hps hbd;cases hq:((k:Int)==wrap64 ((ps.length:Int)-1)) with
    |true=>
     have hlast:k+1=ps.length:=by
      have h1:=hq;rw[HWR.out,beq_iff_eq]at h1;omega
     rw[decide_eq_true hlast]at HNX;simp only[Bool.or_true,if_true]at HNX;clear hlast HCO;go_wp2_with (first
      |(go_at_call 11;refine HCI.out.mono ?_;rintro e w5 ⟨rfl,hL5,hT5⟩;have HL5:=hid hL5;have HT5:=hid hT5;clear hL5 hT5))
     exact⟨⟨k+1,by omega,by go_num,_,HK.out.1.step (k2:=k+1) (l2:=0) HAI.out HL5.out HT5.out (by have:=HA.out.pm k (by have:=HKP.out;omega);omega) (by have:=HA.out.pm k (by have:=HKP.out;omega);have:=HA.out.mb;omega) (by omega) (by omega) (λj j1 j2=>Or.inr (HA.out.pp k j (by omega) j1)) (λj j1 j2=>by simp at j1),HNX.out⟩,by simp[intOf];omega⟩
    |false=>
     have hlast:¬k+1=ps.length:=by
      intro h2;have h1:=hq;rw[HWR.out,beq_eq_false_iff_ne]at h1;exact h1 (by omega)
     rw[decide_eq_false hlast]at HNX;simp only[Bool.or_false,Bool.false_eq_true,if_false]at HNX;clear hlast HCI;go_wp2_with (first
      |(go_at_call 11;refine HCO.out.mono ?_;rintro e w5 ⟨rfl,hL5,hT5⟩;have HL5:=hid hL5;have HT5:=hid hT5;clear hL5 hT5))
     exact⟨⟨k+1,by omega,by go_num,_,HK.out.1.step (k2:=k+1) (l2:=0) HAI.out HL5.out HT5.out (by have:=HA.out.pm k (by have:=HKP.out;omega);omega) (by have:=HA.out.pm k (by have:=HKP.out;omega);have:=HA.out.mb;omega) (by omega) (by omega) (λj j1 j2=>Or.inr (HA.out.pp k j (by omega) j1)) (λj j1 j2=>by simp at j1),HNX.out⟩,by simp[intOf];omega⟩
   ·have hge:¬(k:Int)<(ps.length:Int):=by omega
    obtain rfl:k=ps.length:=by omega
    have HSE:Hid (st'=S):=by have h:=HK.out.2;rw[List.drop_length]at h;exact h
    clear hps hbd;go_wp2;go_loopw [10] (λkv wr2=>kv=.int .i64 0∧wr2=wr) (λ_ _=>0)
    case atStart=>exact⟨rfl,rfl⟩
    case round=>
     obtain⟨rfl,hww⟩:=hrel;replace hww:=hww.symm
     subst hww;go_wp2;refine bE ?_;rw[<-HSE.out];exact⟨rfl,HK.out.1.lf,HK.out.1.tx⟩
theorem lk_start{T a b B m d:Nat}{s:ByteArray}{p nest:Nat}{nm iv dv:Value}{imps:Imps}{defs:Defs}{kd:List ((Value×Value×Value)×Nat×Nat)}{names:List ByteArray}{nv:Value}{bd:Nms}{ps:List Ex}{kp:List (Value×Nat×Nat)}{al:List (Nat×Nms×Ex)}{ka:List ((Value×Value×Value)×Nat×Nat)}{kn n:Int}{t:ByteArray}{pl:Int}{bv bav pv av:Value}{w:World}{st:Nat×Nat}
 (hX:XN w B kn n t pl bv bav pv av) (hN:NodeR (RX d w) w B b bd ps al bv bav pv av kp ka m) (hT:T<a) (ha:a<=B) (htx:TX w T s p nest st.1 st.2 nm iv dv) (hir:w.ownsRow (T+1) 77 2 iv imps.length (impRow imps)) (hdr:w.ownsRow (T+1) 52 4 dv defs.length (defRow kd defs)) (hnr:w.ownsRow 0 9 1 nv names.length (names.map .string)) (hnT:nv.ownBlock≠some T):
 LkSt T a b B m d s p nest nm iv dv imps defs kd names nv names nv ps kp al ka kn n t pl bv bav pv av w w 0 0 st∧LkAt T a b B m kp ka nv nv:=by
 have h1:=hN.pk.le;have h2:=hN.ak.le;refine⟨⟨LF.refl _ _ _ _,htx,hX,hN.pr,hN.ar,λj j1 j2 _=>hN.pk.get j j1 j2,λj j1 j2 _=>hN.ak.get j j1 j2,hir,hdr,hnr,hnr⟩,⟨hT,ha,λj j1=>hN.pk.mem _ (List.getElem_mem _),λj j1=>hN.ak.mem _ (List.getElem_mem _),λi j h0 j1=>hN.pk.apart i j h0 j1,λi j h0 j1=>hN.ak.apart i j h0 j1,⟨h1,h2⟩,hnT,hnT⟩⟩
theorem look_all{T:Nat}{s:ByteArray}{imps:Imps}{defs:Defs}{kd:List ((Value×Value×Value)×Nat×Nat)}{p nest:Nat}{nm iv dv:Value}(hkd:kd.length=defs.length)(hil:imps.length<=2000)(hdl:defs.length<=2000):∀d,LookC T s imps defs kd p nest nm iv dv d
 |0=>λ_ _ _ _ _ _ _ _ hx=>hx.elim
 |d+1=>by
  intro w a b v e names nv st hx hB hT htx hir hdr hnr hnT hl;have ih:=look_all (T:=T) (s:=s) (imps:=imps) (p:=p) (nest:=nest) (nm:=nm) (iv:=iv) (dv:=dv) hkd hil hdl d;have hlt:=hx.lt;obtain⟨B,bv,bav,pv,av,kp,ka,m,rfl,haB,hbw,hXN,hown,hN⟩:=hx;obtain⟨hS,hA⟩:=lk_start (st:=st) (names:=names) hXN hN hT haB htx hir hdr hnr hnT;have hkp:=hN.pk.len;have hka:=hN.ak.len;have hBb:B<b:=by have:=hA.mb;omega
  have hBp:∀x∈xPs e,XBnd d x∧XLen d x:=λx hx=>⟨hB.1.2.1 x hx,hB.2.2.1 x hx⟩;have hBa:∀x∈xAl e,x.2.1.length<=2000∧(XBnd d x.2.2∧XLen d x.2.2):=λx hx=>⟨(hB.1.2.2 x hx).1,(hB.1.2.2 x hx).2,hB.2.2.2 x hx⟩;have hps:(xPs e).length<=100000:=Nat.le_trans hB.2.1.1 (by decide);have hal:(xAl e).length<=100000:=Nat.le_trans hB.2.1.2.1 (by decide);have node:∀(b1:(xK e==1)=false) (b4:(xK e==4)=false) (b5:(xK e==5)=false) (hbd:xBd e=[]) (hrc:isRec e=false) (hnm:lkN (λt=>inB t (knownOf imps defs) 0) names e=id),Calls Tryz.prog 11 #[.pointer (some ⟨T,0,none⟩),.pointer (some ⟨B,0,none⟩),nv] w λe' w'=>e'=.returned (.tuple #[])∧LF T a b w w'∧TX w' T s p nest (lkE (λt=>inB t (knownOf imps defs) 0) (d+1) names e st).1 (lkE (λt=>inB t (knownOf imps defs) 0) (d+1) names e st).2 nm iv dv:=by
   intro b1 b4 b5 hbd hrc hnm;rw[lkE,hbd,hrc,hnm,List.map_nil,List.append_nil];exact look_node ih hS hA hkp hka hl hBp hBa b1 b4 b5 hps hal
  cases e with
  |num n=>exact node rfl rfl rfl rfl rfl rfl
  |call ps=>exact node rfl rfl rfl rfl rfl rfl
  |con tag fs=>exact node rfl rfl rfl rfl rfl rfl
  |case c brs=>exact node rfl rfl rfl rfl rfl rfl
  |op k l r=>exact node rfl rfl rfl rfl rfl rfl
  |lets r ns es body=>
   have hal0:ka=[]:=List.eq_nil_of_length_eq_zero (by rw[hka];rfl);subst hal0;exact look_lets r ih hS hA hN.nr hkp hl hB.1.1 hBp hps
  |name g t pl=>
   cases g with
   |true=>exact node rfl rfl rfl rfl rfl rfl
   |false=>
    show Calls _ _ _ _ λe' w'=>e'=.returned (.tuple #[])∧LF T a b w w'∧TX w' T s p nest (if inB t names 0=true then st else if inB t (knownOf imps defs) 0=true then st else lst st 4 pl).1 (if inB t names 0=true then st else if inB t (knownOf imps defs) 0=true then st else lst st 4 pl).2 nm iv dv;cases h1:inB t names 0 with
    |true=>
     rw[if_pos rfl];refine(look_local hXN hN.pr hN.ar hnr (by omega) (Or.inl ⟨rfl,h1⟩)).mono ?_;rintro e' w' ⟨rfl,rfl⟩;exact⟨rfl,LF.refl _ _ _ _,htx⟩
    |false=>
     rw[if_neg (by simp)];exact look_global hXN (by omega) haB hBb htx hir hdr hkd hil hdl hN.pr hN.ar hnr (by omega) h1
def rRound(G:ByteArray->Bool)(st:Nat×Nat)(x:ByteArray×Nms×Ex):Nat×Nat:=lkE G 31 (x.2.1.map (·.1)) x.2.2 (lkKnown st 0 x.2.1)
structure RdSt (T:Nat) (s:ByteArray) (q:Nat) (nm iv dv:Value) (imps:Imps) (defs:Defs) (kd:List ((Value×Value×Value)×Nat×Nat)) (w wr:World) (k:Nat) (st:Nat×Nat):Prop where
 lf:LF T (T+1) w.heap.size w wr
 tx:TX wr T s q 0 st.1 st.2 nm iv dv
 ir:wr.ownsRow (T+1) 77 2 iv imps.length (impRow imps)
 dr:wr.ownsRow (T+1) 52 4 dv defs.length (defRow kd defs)
 ak:∀j (h1:j<kd.length) (h2:j<defs.length),k<=j->DefR wr kd[j].2.1 kd[j].2.2 kd[j].1 defs[j]
theorem defRow_at4{kd:List ((Value×Value×Value)×Nat×Nat)}{l:Defs}(h:kd.length=l.length)(i:Nat)(hi:i<l.length)(hi2:i<kd.length):(defRow kd l)[i*4]?=some (.string l[i].1)∧(defRow kd l)[i*4+1]?=some kd[i].1.1∧(defRow kd l)[i*4+2]?=some kd[i].1.2.1∧(defRow kd l)[i*4+3]?=some kd[i].1.2.2:=by
 have hz:i<(List.zip kd l).length:=by simp;omega
 have h1:=flat4_at (λx:(((Value×Value×Value)×Nat×Nat)×(ByteArray×Nms×Ex))=>(.string x.2.1:Value)) (λx=>x.1.1.1) (λx=>x.1.1.2.1) (λx=>x.1.1.2.2) (List.zip kd l) i hz;simp only[List.getElem_zip]at h1;exact h1
section
variable {T:Nat} {s:ByteArray} {q:Nat} {nm iv dv:Value} {imps:Imps} {defs:Defs} {kd:List ((Value×Value×Value)×Nat×Nat)} {w wr:World} {k:Nat} {st:Nat×Nat}
theorem RdSt.start(hT:TX w T s q 0 0 st.2 nm iv dv)(h0:st.1=0)(hM:XMSt T w iv dv imps defs kd):RdSt T s q nm iv dv imps defs kd w w 0 st:=
 ⟨LF.refl _ _ _ _,by rw[h0];exact hT,hM.ir,hM.dr,λj j1 j2 _=>hM.dk.get j j1 j2⟩
theorem RdSt.cells{g dc:Nat}(h:RdSt T s q nm iv (.slice (some ⟨g,0,none⟩) defs.length dc) imps defs kd w wr k st)(hkd:kd.length=defs.length)(hlt:k<defs.length):∃np nn nc pp pn pc B,wr.cell? ⟨g,k*4,none⟩=some (.string defs[k].1)∧wr.cell? ⟨g,k*4+1,none⟩=some (.slice np nn nc)∧wr.cell? ⟨g,k*4+2,none⟩=some (.slice pp pn pc)∧wr.cell? ⟨g,k*4+3,none⟩=some (.pointer (some ⟨B,0,none⟩))∧(kd[k]'(by omega)).1=(.slice np nn nc,.slice pp pn pc,.pointer (some ⟨B,0,none⟩)):=by
 have hk2:k<kd.length:=by omega
 have h4:=defRow_at4 hkd k hlt hk2;obtain⟨r1,m',r2,r3,r4,r5,r6⟩:=h.ak k hk2 hlt (Nat.le_refl _);obtain⟨np,nc,e1⟩:=row_slice r1.l;obtain⟨pp,pc,e2⟩:=row_slice r1.p;obtain⟨B,bv,bav,pv,av,kp,ka,m,e3,-⟩:=r6;refine⟨np,_,nc,pp,_,pc,B,?_,?_,?_,?_,Prod.ext e1 (Prod.ext e2 e3)⟩
 ·rw[h.dr.cellAt (k*4) (by omega)];exact h4.1
 ·rw[h.dr.cellAt (k*4+1) (by omega)];exact h4.2.1.trans (congrArg some e1)
 ·rw[h.dr.cellAt (k*4+2) (by omega)];exact h4.2.2.1.trans (congrArg some e2)
 ·rw[h.dr.cellAt (k*4+3) (by omega)];exact h4.2.2.2.trans (congrArg some e3)
theorem RdSt.step(h:RdSt T s q nm iv dv imps defs kd w wr k st)(hkd:kd.length=defs.length)(hil:imps.length<=2000)(hdl:defs.length<=2000)(hlt:k<defs.length)(hk2:k<kd.length)(hdk:∀j (h1:j<kd.length),T+1<=kd[j].2.1∧kd[j].2.1<=kd[j].2.2∧kd[j].2.2<=w.heap.size)(hap:∀i j (h0:i<j) (h1:j<kd.length),kd[i].2.2<=kd[j].2.1)(hB:defs[k].2.1.length<=2000∧(XBnd 31 defs[k].2.2∧XLen 31 defs[k].2.2)){X:World}(hX:Below wr.heap.size wr X){D:Nat}(hD:wr.heap.size<=D)(hDX:D<X.heap.size):
 Calls Tryz.prog 12 #[.pointer (some ⟨T,0,none⟩),.slice none 0 0,kd[k].1.1,kd[k].1.2.1] X λe w4=>∃v4,e=.returned v4∧w4.heap[D]?=X.heap[D]?∧
  Calls Tryz.prog 11 #[.pointer (some ⟨T,0,none⟩),kd[k].1.2.2,v4] w4 λe' w5=>e'=.returned (.tuple #[])∧w5.heap[D]?=X.heap[D]?∧RdSt T s q nm iv dv imps defs kd w w5 (k+1) (rRound (λt=>inB t (knownOf imps defs) 0) st defs[k]):=by
 have hkk:=hdk k hk2;have hTl:T<wr.heap.size:=h.tx.lt;have hlw:=h.lf.size;obtain⟨r1,m',r2,r3,r4,r5,r6⟩:=h.ak k hk2 hlt (Nat.le_refl _);have hEX:EF T wr X:=EF.of_below hX;have q1:LF T (T+1) w.heap.size wr X:=LF.of_ef hEX;have hz:=hX.size;refine(txKnown_any (names:=[]) (h.tx.keep hX) (World.ownsRow_nil _ _ _ _) (q1.nrows r1 (by omega)) (by omega) (by simp) hB.1).mono ?_;rintro e w4 ⟨hE4,hT4,v4,rfl,hr4⟩;have hE:=hEX.trans hE4;have q2:LF T (T+1) w.heap.size wr w4:=LF.of_ef hE;have q3:LF T m' kd[k].2.2 wr w4:=LF.of_ef hE;refine⟨v4,rfl,hE4.block D hDX (by omega),?_⟩;have hlen:(([]:List ByteArray)++defs[k].2.1.map (·.1)).length=0+defs[k].2.1.length:=by simp
 have hx4:RX 31 w4 m' kd[k].2.2 kd[k].1.2.2 defs[k].2.2:=r6.same (λj k1 k2=>hE.block j (by have:=r6.lt;omega) (by omega)) (Nat.le_trans r6.lt.2 hE.size);have hv4:v4.ownBlock≠some T:=λe=>by have:=(hr4.lt T e).1;omega
 refine(look_all hkd hil hdl 31 w4 m' kd[k].2.2 kd[k].1.2.2 defs[k].2.2 ([]++defs[k].2.1.map (·.1)) v4 _ hx4 hB.2 (by omega) hT4 (q2.row h.ir (by decide) (by omega)) (q2.row h.dr (by decide) (by omega)) (by rw[hlen];exact row_lo hr4) hv4 (by rw[hlen];have:=hB.1;omega)).mono ?_;rintro e' w5 ⟨rfl,hL5,hT5⟩;have hz4:=hE4.size;have q4:LF T m' kd[k].2.2 wr w5:=q3.trans hL5;refine⟨rfl,?_,⟨h.lf.trans (q4.wide (by omega) (by omega)),?_,q4.row h.ir (by decide) (by omega),q4.row h.dr (by decide) (by omega),λj j1 j2 j3=>?_⟩⟩
 ·rw[hL5.block D (by omega) (by omega) (Or.inr (Or.inl (by omega)))];exact hE4.block D hDX (by omega)
 ·rw[List.nil_append]at hT5;exact hT5
 ·have hjj:=hdk j j1;have hkj:=hap k j (by omega) j1;refine(h.ak j j1 j2 (by omega)).same (λi i1 i2=>?_) (Nat.le_trans hjj.2.2 (Nat.le_trans h.lf.size q4.size));exact q4.block i (by omega) (by omega) (Or.inr (Or.inl (by omega)))
end
def rLook(imps:Imps)(defs:Defs)(st:Nat×Nat):Nat×Nat:=defs.foldl (rRound (λt=>inB t (knownOf imps defs) 0)) st
def rRead(s:ByteArray):Nat×Nat:=
 if 2000<s.size then (1,0) else
  match pModule s 0 with
  |.error e=>e
  |.ok (x,_)=>if (rLook x.2.1 x.2.2 (0,0)).1=0 then (0,0) else rLook x.2.1 x.2.2 (0,0)
theorem nz_def2{s:ByteArray}{known:List ByteArray}:NZ (pDef s known):=by
 intro p c a h;rcases pb_einv h with h1|⟨y,q,h1,h⟩
 ·exact nz_decl s _ p c a h1
 rcases pb_einv h with h1|⟨y2,q2,h1,h⟩
 ·exact nz_names s q c a h1
 rcases pb_einv h with h1|⟨y3,q3,h1,h⟩
 ·exact nz_E s 30 q2 c a h1
 cases h
theorem nz_global2{s:ByteArray}{im:Imps}{df:Defs}:NZ (pGlobal s im df):=by
 intro p c a h;unfold pGlobal at h;split at h
 ·rcases pb_einv h with h1|⟨y,q,h1,h⟩
  ·exact nz_decl s _ _ c a h1
  rcases pb_einv h with h1|⟨y2,q2,h1,h⟩
  ·exact nz_tag s _ q c a h1
  cases h
 ·split at h
  ·rcases pb_einv h with h1|⟨y,q,h1,h⟩
   ·exact nz_def2 _ c a h1
   cases h
  ·cases h;decide
theorem nz_loop{s:ByteArray}:∀(f:Nat) (im:Imps) (df:Defs),NZ (pLoop s f im df)
 |0,_,_=>λp c a h=>by rw[pLoop]at h;cases h;decide
 |f+1,im,df=>λp c a h=>by
  rw[pLoop]at h;split at h
  ·split at h<;>cases h;decide
  ·split at h
   ·rcases pb_einv h with h1|⟨y,q,h1,h⟩
    ·exact nz_global2 _ c a h1
    rcases pb_einv h with h1|⟨y2,q2,h1,h⟩
    ·exact nz_want s _ q c a h1
    exact nz_loop f _ _ q2 c a h
   ·cases h;decide
theorem nz_module{s:ByteArray}:NZ (pModule s):=by
 intro p c a h;rcases pb_einv h with h1|⟨y,q,h1,h⟩
 ·exact nz_want s _ p c a h1
 rcases pb_einv h with h1|⟨y2,q2,h1,h⟩
 ·exact nz_want s _ q c a h1
 rcases pb_einv h with h1|⟨y3,q3,h1,h⟩
 ·exact nz_name s q2 c a h1
 rcases pb_einv h with h1|⟨y4,q4,h1,h⟩
 ·exact nz_loop _ _ _ q3 c a h1
 cases h
end Go.Proofs.YtlanckgcjijefaaGreatDoor

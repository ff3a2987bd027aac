import Derived.Test.YtlanckgcjijefaaGreatDoorLy2J
import Derived.Test.YtlanckgcjijefaaGreatDoorLk4J
set_option maxRecDepth 100000
set_option maxHeartbeats 8000000
namespace Go.Proofs.YtlanckgcjijefaaGreatDoor
open Go.RowKit Go.Sort
theorem defs_ok{s:ByteArray}{y:ByteArray×Imps×Defs}{q:Nat}(hs:s.size<=2000)(h:pModule s 0=.ok (y,q)):∀x∈y.2.2,x.2.1.length<=2000∧(XBnd 31 x.2.2∧XLen 31 x.2.2):=by
 have hm:=pMod_module s 0;rw[h]at hm;match h1:pMod s 0 with
 |.error e=>rw[h1]at hm;cases hm
 |.ok (z,q')=>
  rw[h1]at hm;have hy:y=modT z:=by cases hm;rfl
  subst hy;have hi:=mod_inv hs (Nat.zero_le _) h1;intro x hx;obtain⟨d,hd,rfl⟩:=List.mem_map.1 hx;have:=hi.ok d hd;exact⟨this.2.2,this.1,this.2.1⟩
theorem foldl_drop{α β:Type}{f:β->α->β}{l:List α}{k:Nat}(hk:k<l.length)(b:β):(l.drop k).foldl f b=(l.drop (k+1)).foldl f (f b l[k]):=by
 rw[List.drop_eq_getElem_cons hk,List.foldl_cons]
theorem refRead_ok{s:ByteArray}{w:World}{nm:ByteArray}{im:Imps}{df:Defs}{q:Nat}(hl:¬2000<s.size)(h1:pModule s 0=.ok ((nm,im,df),q)):Calls Tryz.prog 5 #[.string s] w λe w'=>RRes s w e w':=by
 have HDO:=hid (defs_ok (by omega) h1);obtain⟨w0,hw0⟩:∃w0,w0=w.alloc (.cells #[.string ⟨#[]⟩,.slice none 0 0,.slice none 0 0] 28):=⟨_,rfl⟩;have hb0:Below w.heap.size w w0:=by rw[hw0];exact(Below.refl _ _).alloc (Nat.le_refl _) _
 have hz0:w0.heap.size=w.heap.size+1:=by rw[hw0];simp
 have hv0:V3 w0 w.heap.size (.string ⟨#[]⟩) (.slice none 0 0) (.slice none 0 0):=by
  subst hw0;exact⟨by simp,by simp,by simp,λj=>by simp⟩
 obtain⟨w1,hw1⟩:∃w1,w1=w0.alloc (.cells #[.string s,.int .i64 0,.int .i64 0,.int .i64 0,.int .i64 0,.string ⟨#[]⟩,.slice none 0 0,.slice none 0 0] 47):=⟨_,rfl⟩;have hb1:Below w0.heap.size w0 w1:=by rw[hw1];exact(Below.refl _ _).alloc (Nat.le_refl _) _
 have hbw:Below w.heap.size w w1:=hb0.trans (hb1.mono hb0.size);have hz1:w1.heap.size=w.heap.size+2:=by rw[hw1];simp[hz0]
 have hx1:TX w1 (w.heap.size+1) s 0 0 0 0 (.string ⟨#[]⟩) (.slice none 0 0) (.slice none 0 0):=by
  rw[hw1,<-hz0];exact⟨by simp,by simp,by simp,by simp,by simp,by simp,by simp,by simp,λj _=>by simp⟩
 have HT:=hid (rRead_ok hl h1);have i1:¬(2000:Int)<(s.size:Int):=by omega
 have HM:Hid (Calls Tryz.prog 10 #[.pointer (some ⟨w.heap.size+1,0,none⟩)] w1 λe w2=>e=.returned (.tuple #[])∧∃ip ic dp dc kd,Hid (Below w.heap.size w w2∧V3 w2 w.heap.size (.string ⟨#[]⟩) (.slice none 0 0) (.slice none 0 0)∧im.length+df.length<=2000∧XMSt (w.heap.size+1) w2 (.slice ip im.length ic) (.slice dp df.length dc) im df kd)∧TX w2 (w.heap.size+1) s q 0 0 0 (.string nm) (.slice ip im.length ic) (.slice dp df.length dc)):=by
  refine(txModule_any hx1 (by omega) (Nat.zero_le _)).mono ?_;rintro e w2 ⟨rfl,hn,h2⟩;rw[h1]at h2;obtain⟨iv,dv,kd,h2,-,hM,hl⟩:=h2;obtain⟨ip,ic,rfl⟩:=row_slice hM.ir;obtain⟨dp,dc,rfl⟩:=row_slice hM.dr;refine⟨rfl,ip,ic,dp,dc,kd,⟨below_nf hbw hn (by omega) (by omega),?_,hl,hM⟩,h2⟩;exact(hv0.keep hb1).of_block (hn.block _ (by omega) (by omega) (by omega))
 rw[hw1,hw0]at HM;clear hb0 hb1 hv0 hx1 hw1 hbw h1 hz1 hz0 hw0;go_enter Tryz.func5,Tryz.ntmps5;go_wp2_with (first
  |(go_at_call 10;refine HM.out.mono ?_;rintro e w2 ⟨rfl,ip,ic,dp,dc,kd,HB,hTX⟩;have HTX:=hid hTX;obtain⟨c0,c1,c2,c3,c4,c5,c6,c7,-⟩:=hTX))
 have HKD:Hid (kd.length=df.length):=HB.out.2.2.2.dk.len;have HR0:Hid (RdSt (w.heap.size+1) s q (.string nm) (.slice ip im.length ic) (.slice dp df.length dc) im df kd w2 w2 0 (0,0)):=RdSt.start HTX.out rfl HB.out.2.2.2;have hdl:df.length<=2000:=by have:=HB.out.2.2.1;omega
 clear HM HTX;go_loopw [6] (λkv wr=>∃k:Nat,k<=df.length∧kv=.int .i64 (k:Int)∧wr=w2) (λkv _=>df.length-(intOf kv).toNat)
 case atStart=>exact⟨0,Nat.zero_le _,rfl,rfl⟩
 case round=>
  obtain⟨k,hk,rfl,hww⟩:=hrel;replace hww:=hww.symm
  subst hww;by_cases hlt:k<df.length
  ·have g0:(0:Int)<=(k:Int):=by omega
   have g1:(k:Int)<(df.length:Int):=by omega
   have hk3:k<2000:=by omega
   obtain⟨g,rfl⟩:∃g,dp=some ⟨g,0,none⟩:=by
    obtain⟨g,cap,e,-⟩:=HR0.out.dr.form (by omega);exact⟨g,by cases e;rfl⟩
   have HRk:Hid (RdSt (w.heap.size+1) s q (.string nm) (.slice ip im.length ic) (.slice (some ⟨g,0,none⟩) df.length dc) im df kd w2 w2 k (0,0)):=⟨HR0.out.lf,HR0.out.tx,HR0.out.ir,HR0.out.dr,λj j1 j2 _=>HR0.out.ak j j1 j2 (Nat.zero_le _)⟩;obtain⟨np,nn,nc,pp,pn,pc,Bk,-,-,-,d3,-⟩:=HRk.out.cells HKD.out hlt;clear hdl;go_wp2;exact⟨⟨k+1,by omega,by go_num,by first|rfl|trivial⟩,by simp[intOf];omega⟩
  ·have hge:¬(k:Int)<(df.length:Int):=by omega
   obtain rfl:k=df.length:=by omega
   clear hdl;go_wp2;clear c0 c1 c2 c3 c4 c5 c6 c7;have HMM:Hid ((∀j (h1:j<kd.length),w.heap.size+1+1<=kd[j].2.1∧kd[j].2.1<=kd[j].2.2∧kd[j].2.2<=w2.heap.size)∧∀i j (h0:i<j) (h1:j<kd.length),kd[i].2.2<=kd[j].2.1):=⟨λj j1=>HB.out.2.2.2.dk.mem _ (List.getElem_mem _),λi j h0 j1=>HB.out.2.2.2.dk.apart i j h0 j1⟩;obtain⟨S,hSS⟩:∃S,rLook im df (0,0)=S:=⟨_,rfl⟩;have HSS:=hid hSS;rw[hSS]at HT;clear hSS;have hdl:df.length<=2000:=by have:=HB.out.2.2.1;omega
   have hz2:=HB.out.1.size;go_loopw [7] (λkv wr=>∃k:Nat,k<=df.length∧kv=.int .i64 (k:Int)∧∃st',Hid (RdSt (w.heap.size+1) s q (.string nm) (.slice ip im.length ic) (.slice dp df.length dc) im df kd w2 wr k st'∧(df.drop k).foldl (rRound (λt=>inB t (knownOf im df) 0)) st'=S)) (λkv _=>df.length-(intOf kv).toNat)
   case atStart=>exact⟨0,Nat.zero_le _,rfl,(0,0),HR0.out,HSS.out⟩
   case round=>
    clear HR0 HSS;obtain⟨k,hk,rfl,st',HK⟩:=hrel;rename World=>wr
    obtain⟨c0,c1,c2,c3,c4,c5,c6,c7,-⟩:=HK.out.1.tx;by_cases hlt:k<df.length
    ·have g0:(0:Int)<=(k:Int):=by omega
     have g1:(k:Int)<(df.length:Int):=by omega
     have hk3:k<2000:=by omega
     obtain⟨g,rfl⟩:∃g,dp=some ⟨g,0,none⟩:=by
      obtain⟨g,cap,e,-⟩:=HK.out.1.dr.form (by omega);exact⟨g,by cases e;rfl⟩
     have hkd2:k<kd.length:=by have:=HKD.out;omega
     obtain⟨np,nn,nc,pp,pn,pc,Bk,d0,d1,d2,d3,ek⟩:=HK.out.1.cells HKD.out hlt;obtain⟨X,hX⟩:∃X,X=(wr.alloc (.cells #[.string df[k].1,.slice np nn nc,.slice pp pn pc,.pointer (some ⟨Bk,0,none⟩)] 52)).drew:=⟨_,rfl⟩;have hbX:Below wr.heap.size wr X:=by rw[hX];exact below_drew2 ((Below.refl _ _).alloc (Nat.le_refl _) _)
     have HST:=hid (HK.out.1.step (X:=X) (D:=wr.heap.size) HKD.out (by have:=HB.out.2.2.1;omega) (by have:=HB.out.2.2.1;omega) hlt hkd2 HMM.out.1 HMM.out.2 (HDO.out _ (List.getElem_mem _)) hbX (Nat.le_refl _) (by rw[hX];simp));rw[ek]at HST;have x1:X.cell? ⟨wr.heap.size,1,none⟩=some (.slice np nn nc):=by rw[hX];simp
     have x2:X.cell? ⟨wr.heap.size,2,none⟩=some (.slice pp pn pc):=by rw[hX];simp
     have x3:X.cell? ⟨wr.heap.size,3,none⟩=some (.pointer (some ⟨Bk,0,none⟩)):=by rw[hX];simp
     have HNX:Hid ((df.drop (k+1)).foldl (rRound (λt=>inB t (knownOf im df) 0)) (rRound (λt=>inB t (knownOf im df) 0) st' df[k])=S):=by
      have h:=HK.out.2;rw[foldl_drop hlt]at h;exact h
     rw[hX]at HST x1 x2 x3;clear ek hX hbX hkd2 hdl hz2;obtain⟨dn,hdn⟩:∃n,df[k].1=n:=⟨_,rfl⟩;rw[hdn]at d0 HST x1 x2 x3;clear hdn;go_upto_region 15 with(fail)
     go_region_held_law (λw'=>w'.cell? ⟨wr.heap.size,1,none⟩=some (.slice np nn nc)∧w'.cell? ⟨wr.heap.size,2,none⟩=some (.slice pp pn pc)∧w'.cell? ⟨wr.heap.size,3,none⟩=some (.pointer (some ⟨Bk,0,none⟩))) (exact⟨by assumption,by assumption,by assumption⟩)
      (first
       |(go_at_call 12;refine HST.out.mono ?_;rintro e w4 ⟨v4,rfl,hD4,hlk⟩;have HLK:=hid hlk;have y1:=(World.cell?_of_block (a:=⟨wr.heap.size,1,none⟩) hD4).trans x1;have y2:=(World.cell?_of_block (a:=⟨wr.heap.size,2,none⟩) hD4).trans x2;have y3:=(World.cell?_of_block (a:=⟨wr.heap.size,3,none⟩) hD4).trans x3;clear hlk hD4)
       |(go_at_call 11;refine HLK.out.mono ?_;rintro e w5 ⟨rfl,hD5,hs5⟩;have HS5:=hid hs5;have z1:=(World.cell?_of_block (a:=⟨wr.heap.size,1,none⟩) hD5).trans x1;have z2:=(World.cell?_of_block (a:=⟨wr.heap.size,2,none⟩) hD5).trans x2;have z3:=(World.cell?_of_block (a:=⟨wr.heap.size,3,none⟩) hD5).trans x3;clear hs5 hD5))
     go_wp2;exact⟨⟨k+1,by omega,by go_num,_,HS5.out,HNX.out⟩,by simp[intOf];omega⟩
    ·have hge:¬(k:Int)<(df.length:Int):=by omega
     obtain rfl:k=df.length:=by omega
     have HSE:Hid (st'=S):=by have h:=HK.out.2;rw[List.drop_length]at h;exact h
     have HV:Hid (V3 wr w.heap.size (.string ⟨#[]⟩) (.slice none 0 0) (.slice none 0 0)):=HB.out.2.1.of_block (HK.out.1.lf.block _ HB.out.2.1.lt (by omega) (Or.inl (by omega)));have HBW:Hid (Below w.heap.size w wr):=below_lf HB.out.1 HK.out.1.lf (by omega) (by omega) (by omega);obtain⟨v0,v1,v2,vf⟩:=id HV.out;have f0:=vf 0;have f1:=vf 1;have f2:=vf 2;rw[<-HSE.out]at HT;obtain⟨sc,sa⟩:=st';simp only at c3 c4 HT;clear vf hdl hz2 HK HMM HB HKD HDO HSE;by_cases h0:sc=0
     ·subst h0;rw[if_pos rfl]at HT;replace c3:wr.cell? ⟨w.heap.size+1,3,none⟩=some (.int .i64 0):=c3
      go_wp2;obtain⟨s0,s1,s2,-⟩:=HV.out.put (.string nm) (.slice ip im.length ic) (.slice dp df.length dc);refine bodyPost_ret (v:=.tuple #[.agg #[.string nm,.slice ip im.length ic,.slice dp df.length dc],.int .i64 0,.int .i64 0]) (by simp[results,Tryz.results5,go_sem,s0,s1,s2]) rfl ?_;unfold RRes;rw[HT.out];exact⟨below_set2 (below_set2 (below_set2 HBW.out (Nat.le_refl _) _) (Nat.le_refl _) _) (Nat.le_refl _) _,_,_,_,_,_,_,_,rfl⟩
     ·rw[if_neg h0]at HT;have he1:((sc:Int)==0)=false:=by rw[beq_eq_false_iff_ne];omega
      go_upto_region 17 with(fail)
      go_region
      go_wp2;obtain⟨s0,s1,s2,-⟩:=HV.out.put (.string ⟨#[]⟩) (.slice none 0 0) (.slice none 0 0);refine bodyPost_ret (v:=.tuple #[.agg #[.string ⟨#[]⟩,.slice none 0 0,.slice none 0 0],.int .i64 (sc:Int),.int .i64 (sa:Int)]) (by simp[results,Tryz.results5,go_sem,s0,s1,s2]) rfl ?_;unfold RRes;rw[HT.out];exact⟨below_drew2 (below_set2 (below_set2 (below_set2 HBW.out (Nat.le_refl _) _) (Nat.le_refl _) _) (Nat.le_refl _) _),_,_,_,_,_,_,_,rfl⟩
theorem refRead_any(s:ByteArray)(w:World):Calls Tryz.prog 5 #[.string s] w λe w'=>RRes s w e w':=by
 by_cases hl:2000<s.size
 ·exact refRead_long hl
 ·match h:pModule s 0 with
  |.error (c,a)=>exact refRead_err hl h
  |.ok ((nm,im,df),q)=>exact refRead_ok hl h
end Go.Proofs.YtlanckgcjijefaaGreatDoor

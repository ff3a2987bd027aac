import Derived.Test.YtlanckgcjijefaaGreatDoorLy1J
import Derived.Test.YtlanckgcjijefaaGreatDoorPz4J
set_option maxRecDepth 100000
set_option maxHeartbeats 8000000
namespace Go.Proofs.YtlanckgcjijefaaGreatDoor
open Go.RowKit Go.Sort
theorem rRead_long{s:ByteArray}(h:2000<s.size):rRead s=(1,0):=by unfold rRead;rw[if_pos h]
theorem rRead_err{s:ByteArray}{e:Nat×Nat}(h:¬2000<s.size)(h1:pModule s 0=.error e):rRead s=e:=by unfold rRead;rw[if_neg h,h1]
theorem rRead_ok{s:ByteArray}{x:ByteArray×Imps×Defs}{q:Nat}(h:¬2000<s.size)(h1:pModule s 0=.ok (x,q)):rRead s=if (rLook x.2.1 x.2.2 (0,0)).1=0 then (0,0) else rLook x.2.1 x.2.2 (0,0):=by unfold rRead;rw[if_neg h,h1]
def RRes(s:ByteArray)(w:World)(e:Ending)(w':World):Prop:=Below w.heap.size w w'∧∃(nm:ByteArray) (ip:Option Addr) (n1 c1:Nat) (dp:Option Addr) (n2 c2:Nat),e=.returned (.tuple #[.agg #[.string nm,.slice ip n1 c1,.slice dp n2 c2],.int .i64 ((rRead s).1:Int),.int .i64 ((rRead s).2:Int)])
theorem below_set2{lo b j:Nat}{w w':World}(h:Below lo w w')(hb:lo<=b)(u:Value):Below lo w (w'.setCell ⟨b,j,none⟩ u):=
 ⟨h.os,h.tape,h.output,by simpa using h.size,λk hk=>by rw[Below.heap_setCell _ _ _ _ (show k≠b by omega)];exact h.block k hk⟩
theorem below_nf{T lo:Nat}{w w1 w2:World}(h:Below lo w w1)(hn:NF T T w1 w2)(hT:lo<=T)(hl:lo<=w1.heap.size):Below lo w w2:=
 ⟨hn.os.trans h.os,hn.tape.trans h.tape,hn.output.trans h.output,Nat.le_trans h.size hn.size,λk hk=>by rw[hn.block k (by omega) (by omega) (by omega)];exact h.block k hk⟩
theorem below_lf{T a b lo:Nat}{w w1 w2:World}(h:Below lo w w1)(hn:LF T a b w1 w2)(hT:lo<=T)(ha:T<a)(hl:lo<=w1.heap.size):Below lo w w2:=
 ⟨hn.os.trans h.os,hn.tape.trans h.tape,hn.output.trans h.output,Nat.le_trans h.size hn.size,λk hk=>by rw[hn.block k (by omega) (by omega) (Or.inl (by omega))];exact h.block k hk⟩
theorem refRead_long{s:ByteArray}{w:World}(hl:2000<s.size):Calls Tryz.prog 5 #[.string s] w λe w'=>RRes s w e w':=by
 obtain⟨w0,hw0⟩:∃w0,w0=w.alloc (.cells #[.string ⟨#[]⟩,.slice none 0 0,.slice none 0 0] 28):=⟨_,rfl⟩;have HB0:Hid (Below w.heap.size w w0):=by rw[hw0];exact(Below.refl _ _).alloc (Nat.le_refl _) _
 have HV0:Hid (V3 w0 w.heap.size (.string ⟨#[]⟩) (.slice none 0 0) (.slice none 0 0)):=by
  subst hw0;exact⟨by simp,by simp,by simp,λj=>by simp⟩
 have HT:Hid (rRead s=(1,0)):=rRead_long hl;have i1:(2000:Int)<(s.size:Int):=by omega
 obtain⟨v0,v1,v2,vf⟩:=id HV0.out;have f0:=vf 0;have f1:=vf 1;have f2:=vf 2;rw[hw0]at v0 v1 v2 f0 f1 f2;clear vf;go_enter Tryz.func5,Tryz.ntmps5;go_wp2;refine bodyPost_ret (v:=.tuple #[.agg #[.string ⟨#[]⟩,.slice none 0 0,.slice none 0 0],.int .i64 1,.int .i64 0]) (by simp[results,Tryz.results5,go_sem]) rfl ?_;rw[<-hw0];unfold RRes;rw[HT.out];exact⟨HB0.out,_,_,_,_,_,_,_,rfl⟩
theorem refRead_err{s:ByteArray}{w:World}{c a:Nat}(hl:¬2000<s.size)(h1:pModule s 0=.error (c,a)):Calls Tryz.prog 5 #[.string s] w λe w'=>RRes s w e w':=by
 obtain⟨w0,hw0⟩:∃w0,w0=w.alloc (.cells #[.string ⟨#[]⟩,.slice none 0 0,.slice none 0 0] 28):=⟨_,rfl⟩;have hb0:Below w.heap.size w w0:=by rw[hw0];exact(Below.refl _ _).alloc (Nat.le_refl _) _
 have hz0:w0.heap.size=w.heap.size+1:=by rw[hw0];simp
 have hv0:V3 w0 w.heap.size (.string ⟨#[]⟩) (.slice none 0 0) (.slice none 0 0):=by
  subst hw0;exact⟨by simp,by simp,by simp,λj=>by simp⟩
 obtain⟨w1,hw1⟩:∃w1,w1=w0.alloc (.cells #[.string s,.int .i64 0,.int .i64 0,.int .i64 0,.int .i64 0,.string ⟨#[]⟩,.slice none 0 0,.slice none 0 0] 47):=⟨_,rfl⟩;have hb1:Below w0.heap.size w0 w1:=by rw[hw1];exact(Below.refl _ _).alloc (Nat.le_refl _) _
 have hbw:Below w.heap.size w w1:=hb0.trans (hb1.mono hb0.size);have hz1:w1.heap.size=w.heap.size+2:=by rw[hw1];simp[hz0]
 have hx1:TX w1 (w.heap.size+1) s 0 0 0 0 (.string ⟨#[]⟩) (.slice none 0 0) (.slice none 0 0):=by
  rw[hw1,<-hz0];exact⟨by simp,by simp,by simp,by simp,by simp,by simp,by simp,by simp,λj _=>by simp⟩
 have hc:=nz_module 0 c a h1;have he1:((c:Int)==0)=false:=by rw[beq_eq_false_iff_ne];omega
 have HT:Hid (rRead s=(c,a)):=rRead_err hl h1;have i1:¬(2000:Int)<(s.size:Int):=by omega
 have HM:Hid (Calls Tryz.prog 10 #[.pointer (some ⟨w.heap.size+1,0,none⟩)] w1 λe w2=>e=.returned (.tuple #[])∧Hid (Below w.heap.size w w2∧V3 w2 w.heap.size (.string ⟨#[]⟩) (.slice none 0 0) (.slice none 0 0))∧∃q nm iv dp dn dc,TX w2 (w.heap.size+1) s q 0 c a nm iv (.slice dp dn dc)):=by
  refine(txModule_any hx1 (by omega) (Nat.zero_le _)).mono ?_;rintro e w2 ⟨rfl,hn,h2⟩;rw[h1]at h2;obtain⟨q,nm,iv,dp,dn,dc,h2,-⟩:=h2;refine⟨rfl,⟨below_nf hbw hn (by omega) (by omega),?_⟩,q,nm,iv,dp,dn,dc,h2⟩;exact(hv0.keep hb1).of_block (hn.block _ (by omega) (by omega) (by omega))
 rw[hw1,hw0]at HM;clear hb0 hb1 hv0 hx1 hw1 hbw h1 hz1 hz0 hw0;go_enter Tryz.func5,Tryz.ntmps5;go_wp2_with (first
  |(go_at_call 10;refine HM.out.mono ?_;rintro e w2 ⟨rfl,HB,q,nm,iv,dp,dn,dc,c0,c1,c2,c3,c4,c5,c6,c7,-⟩))
 go_loopw [6] (λkv wr=>kv=.int .i64 0∧wr=w2) (λ_ _=>0)
 case atStart=>exact⟨rfl,rfl⟩
 case round=>
  obtain⟨rfl,hww⟩:=hrel;replace hww:=hww.symm
  subst hww;obtain⟨v0,v1,v2,vf⟩:=HB.out.2;have f0:=vf 0;have f1:=vf 1;have f2:=vf 2;clear vf;by_cases hd:0<dn
  ·have g1:(0:Int)<(dn:Int):=by omega
   go_upto_region 17 with(fail)
   go_region
   go_wp2;obtain⟨s0,s1,s2,-⟩:=HB.out.2.put (.string ⟨#[]⟩) (.slice none 0 0) (.slice none 0 0);refine bodyPost_ret (v:=.tuple #[.agg #[.string ⟨#[]⟩,.slice none 0 0,.slice none 0 0],.int .i64 (c:Int),.int .i64 (a:Int)]) (by simp[results,Tryz.results5,go_sem,s0,s1,s2]) rfl ?_;unfold RRes;rw[HT.out];exact⟨below_drew2 (below_set2 (below_set2 (below_set2 HB.out.1 (Nat.le_refl _) _) (Nat.le_refl _) _) (Nat.le_refl _) _),_,_,_,_,_,_,_,rfl⟩
  ·have g1:¬(0:Int)<(dn:Int):=by omega
   go_upto_region 17 with(fail)
   go_region
   go_wp2;obtain⟨s0,s1,s2,-⟩:=HB.out.2.put (.string ⟨#[]⟩) (.slice none 0 0) (.slice none 0 0);refine bodyPost_ret (v:=.tuple #[.agg #[.string ⟨#[]⟩,.slice none 0 0,.slice none 0 0],.int .i64 (c:Int),.int .i64 (a:Int)]) (by simp[results,Tryz.results5,go_sem,s0,s1,s2]) rfl ?_;unfold RRes;rw[HT.out];exact⟨below_drew2 (below_set2 (below_set2 (below_set2 HB.out.1 (Nat.le_refl _) _) (Nat.le_refl _) _) (Nat.le_refl _) _),_,_,_,_,_,_,_,rfl⟩
end Go.Proofs.YtlanckgcjijefaaGreatDoor

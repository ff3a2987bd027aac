import Derived.Test.YtcpcplaeaimmpaaGreatDoorKaJ
set_option maxRecDepth 100000
set_option maxHeartbeats 4000000
namespace Go.Proofs.YtcpcplaeaimmpaaGreatDoor
open Go.RowKit Go.Sort
theorem flat5_set:∀(l:List (MCl×Value)) (r:Nat) (_:r<l.length) (y:MCl×Value),((((((l.flatMap mcC).set (r*5) (.int .u8 y.1.kind)).set (r*5+1) (.int .i64 y.1.n)).set (r*5+2) (.int .i32 y.1.left)).set (r*5+3) (.int .i32 y.1.right)).set (r*5+4) y.2)=(l.set r y).flatMap mcC
 |x::l,0,_,y=>by simp[mcC]
 |x::l,r+1,hr,y=>by
  rw[List.flatMap_cons,List.set_cons_succ,List.flatMap_cons,<-flat5_set l r (by simpa using hr) y];have e:∀(t:List Value) (j:Nat) (v:Value),(mcC x++t).set ((r+1)*5+j) v=mcC x++t.set (r*5+j) v:=λt j v=>by
   rw[List.set_append_right _ _ (by simp[mcC];omega)];congr 2
   simp[mcC];omega
  have e0:∀(t:List Value) (v:Value),(mcC x++t).set ((r+1)*5) v=mcC x++t.set (r*5) v:=λt v=>e t 0 v;rw[e0,e,e,e,e]
theorem MRes.drew{lo M Pb:Nat}{B:List Nat}{w:World}{st:MSt}{r:Value}{e:Ending}{w':World}(h:MRes lo M Pb B w st r e w'):MRes lo M Pb B w st r e w'.drew:=by
 obtain⟨h1,h2,B',h3,h4⟩:=h;exact⟨h1,h2.then (Below.refl _ _).drew,B',h3.keep (Below.refl _ _).drew,h4⟩
theorem cell_drew2(w:World)(a:Addr):w.drew.drew.cell? a=w.cell? a:=rfl
theorem MMem.upd{lo:Nat}{w:World}{M Pb:Nat}{st:MSt}{cs:List (MCl×Value)}{ds:List (MFr×Value)}{cv sv kv dv tv:Value}(h:MMem lo w M Pb st cs ds cv sv kv dv tv){r:Nat}(hr:r<st.cells.length)(q:Int):∃g n c,r<n∧cv=.slice (some ⟨g,0,none⟩) n c∧(∀j,j<5->(∃u,w.cell? ⟨g,r*5+j,none⟩=some u)∧w.frozen? ⟨g,r*5+j,none⟩=false)∧MMem lo (((((w.setCell ⟨g,r*5,none⟩ (.int .u8 5)).setCell ⟨g,r*5+1,none⟩ (.int .i64 0)).setCell ⟨g,r*5+2,none⟩ (.int .i32 q)).setCell ⟨g,r*5+3,none⟩ (.int .i32 0)).setCell ⟨g,r*5+4,none⟩ (.slice none 0 0)) M Pb {st with cells:=st.cells.set r ⟨5,0,q,0,[]⟩} (cs.set r (⟨5,0,q,0,[]⟩,.slice none 0 0)) ds cv sv kv dv tv∧AG (mB M cv sv dv tv) w (((((w.setCell ⟨g,r*5,none⟩ (.int .u8 5)).setCell ⟨g,r*5+1,none⟩ (.int .i64 0)).setCell ⟨g,r*5+2,none⟩ (.int .i32 q)).setCell ⟨g,r*5+3,none⟩ (.int .i32 0)).setCell ⟨g,r*5+4,none⟩ (.slice none 0 0)):=by
 have hl:cs.length=st.cells.length:=by rw[<-h.hcs,List.length_map]
 rcases id h.cl.2 with⟨-,h2⟩|⟨g,c,cur,hv,h3⟩
 ·omega
 have hcl:=h.cl;subst hv;have hfl:=flat5_len cs;have h5:=((((((hcl.stored (r*5) (.int .u8 5)).1.stored (r*5+1) (.int .i64 0)).1.stored (r*5+2) (.int .i32 q)).1.stored (r*5+3) (.int .i32 0)).1.stored (r*5+4) (.slice none 0 0)).1);rw[flat5_set cs r (by omega) (⟨5,0,q,0,[]⟩,.slice none 0 0)]at h5;have hA:AG (vB (.slice (some ⟨g,0,none⟩) cs.length c)) w (((((w.setCell ⟨g,r*5,none⟩ (.int .u8 5)).setCell ⟨g,r*5+1,none⟩ (.int .i64 0)).setCell ⟨g,r*5+2,none⟩ (.int .i32 q)).setCell ⟨g,r*5+3,none⟩ (.int .i32 0)).setCell ⟨g,r*5+4,none⟩ (.slice none 0 0)):=by
  have hg:g∈vB (.slice (some ⟨g,0,none⟩) cs.length c):=by rw[vB_slice];exact List.mem_singleton.2 rfl
  exact(((((AG.refl _ _).set (Or.inl hg) _).set (Or.inl hg) _).set (Or.inl hg) _).set (Or.inl hg) _).set (Or.inl hg) _
 obtain⟨t1,t2⟩:=h.rowC hA (cs':=cs.set r (⟨5,0,q,0,[]⟩,.slice none 0 0)) (by rw[List.length_set];exact h5) (λx hx=>by
  rcases List.mem_or_eq_of_mem_set hx with hx|rfl
  ·exact h.fl x hx
  ·exact⟨none,0,rfl,λi hi=>absurd hi (by simp)⟩)
 refine⟨g,cs.length,c,by omega,rfl,λj hj=>⟨?_,hcl.frozenAt _⟩,?_,t2⟩
 ·rw[hcl.cellAt (r*5+j) (by omega)];exact⟨_,List.getElem?_eq_getElem (by omega)⟩
 ·rw[List.map_set,h.hcs]at t1;exact t1
def updS(r:Nat)(x:Int)(st:MSt):MSt:={st with cells:=st.cells.set r ⟨5,0,x,0,[]⟩}
theorem do5_any{lo:Nat}{w:World}{M Pb:Nat}{st:MSt}{B:List Nat}(h:MM lo w M Pb st B)(hm:Mtr st)(hsb:stepM st=true){k:Nat}(hat:st.fr.at_=(k:Int))(hk:k<st.fr.code.length)(hkb:k<=1000000000)(hop:st.fr.code[k].op=5)(hl:st.stack.length<=1000000000){s:List Int}{x:Int}(hs:st.stack=s++[x]){j r:Nat}(hj:st.fr.code[k].a=(j:Int))(hjl:j<s.length)(hr:s[s.length-1-j]?=some (r:Int))(hrc:r<st.cells.length):
 Calls Tryz.prog 138 #[.pointer (some ⟨M,0,none⟩)] w λe w'=>MRes lo M Pb B w (updS r x (dropS 1 (nextS (stepS st)))) (.tuple #[]) e w':=by
 have HS:=hid (step_any h hm);rw[hsb]at HS;have hdr:(dropS 1 (nextS (stepS st))).stack=s:=by rw[stepS_ok hsb];simp[dropS,nextS,hs]
 have hdc:(dropS 1 (nextS (stepS st))).cells=st.cells:=by rw[stepS_ok hsb];rfl
 have HNX:Hid (∀w1 B1,AG B w w1->MM lo w1 M Pb (stepS st) B1->(∀b∈B1,b∈B∨w.heap.size<=b)->∃b n c:Nat,(k:Int)<(n:Int)∧w1.cell? ⟨M,4,none⟩=some (.slice (some ⟨b,0,none⟩) n c)∧w1.cell? ⟨M,5,none⟩=some (.int .i64 (k:Int))∧w1.frozen? ⟨M,5,none⟩=false∧(w1.setCell ⟨M,5,none⟩ (.int .i64 ((k:Int)+1))).cell? ⟨b,k*3,none⟩=some (.int .i64 5)∧Calls Tryz.prog 174 #[.pointer (some ⟨M,0,none⟩)] (w1.setCell ⟨M,5,none⟩ (.int .i64 ((k:Int)+1))).drew λe w2=>e=.returned (.int .i32 x)∧∃g n c g2 n2 c2:Nat,(0:Int)<=(r:Int)∧(r:Int)<(n:Int)∧w2.cell? ⟨M,1,none⟩=some (.slice (some ⟨g,0,none⟩) n c)∧w2.cell? ⟨b,k*3+1,none⟩=some (.int .i64 (j:Int))∧Hid (∀w3:World,w3=w2.drew->Calls Tryz.prog 168 #[.pointer (some ⟨M,0,none⟩),.int .i64 (j:Int)] w3 λe w'=>e=.returned (.pointer (some ⟨g2,n2,none⟩))∧w'=w3.drew)∧w2.cell? ⟨g2,n2,none⟩=some (.int .i32 (r:Int))∧(∃u0 u1 u2 u3 u4,w2.cell? ⟨g,r*5,none⟩=some u0∧w2.cell? ⟨g,r*5+1,none⟩=some u1∧w2.cell? ⟨g,r*5+2,none⟩=some u2∧w2.cell? ⟨g,r*5+3,none⟩=some u3∧w2.cell? ⟨g,r*5+4,none⟩=some u4)∧(w2.frozen? ⟨g,r*5,none⟩=false∧w2.frozen? ⟨g,r*5+1,none⟩=false∧w2.frozen? ⟨g,r*5+2,none⟩=false∧w2.frozen? ⟨g,r*5+3,none⟩=false∧w2.frozen? ⟨g,r*5+4,none⟩=false)∧Hid (MRes lo M Pb B w (updS r x (dropS 1 (nextS (stepS st)))) (.tuple #[]) (.returned (.tuple #[])) (((((w2.setCell ⟨g,r*5,none⟩ (.int .u8 5)).setCell ⟨g,r*5+1,none⟩ (.int .i64 0)).setCell ⟨g,r*5+2,none⟩ (.int .i32 x)).setCell ⟨g,r*5+3,none⟩ (.int .i32 0)).setCell ⟨g,r*5+4,none⟩ (.slice none 0 0)))∧Hid ((((((w2.setCell ⟨g,r*5,none⟩ (.int .u8 5)).setCell ⟨g,r*5+1,none⟩ (.int .i64 0)).setCell ⟨g,r*5+2,none⟩ (.int .i32 x)).setCell ⟨g,r*5+3,none⟩ (.int .i32 0)).setCell ⟨g,r*5+4,none⟩ (.slice none 0 0)).drew.drew.cell? ⟨M,1,none⟩=some (.slice (some ⟨g,0,none⟩) n c)∧(((((w2.setCell ⟨g,r*5,none⟩ (.int .u8 5)).setCell ⟨g,r*5+1,none⟩ (.int .i64 0)).setCell ⟨g,r*5+2,none⟩ (.int .i32 x)).setCell ⟨g,r*5+3,none⟩ (.int .i32 0)).setCell ⟨g,r*5+4,none⟩ (.slice none 0 0)).drew.drew.cell? ⟨b,k*3+1,none⟩=some (.int .i64 (j:Int))∧(((((w2.setCell ⟨g,r*5,none⟩ (.int .u8 5)).setCell ⟨g,r*5+1,none⟩ (.int .i64 0)).setCell ⟨g,r*5+2,none⟩ (.int .i32 x)).setCell ⟨g,r*5+3,none⟩ (.int .i32 0)).setCell ⟨g,r*5+4,none⟩ (.slice none 0 0)).drew.drew.cell? ⟨g2,n2,none⟩=some (.int .i32 (r:Int)))):=by
  intro w1 B1 hag hM hB1;have hat':(stepS st).fr.at_=(k:Int):=by rw[stepS_ok hsb];exact hat
  have hcd:(stepS st).fr.code=st.fr.code:=by rw[stepS_ok hsb]
  have hstk:(stepS st).stack=s++[x]:=by rw[stepS_ok hsb];exact hs
  obtain⟨b,n,c,ap,an,ac,hkn,e4,e5,f5,⟨c0,c1,c2⟩,hbB,hbw,hN,hA⟩:=hM.next (k:=k) hat' (by rw[hcd];exact hk);simp only[hcd]at c0 c1;refine⟨b,n,c,by omega,e4,e5,f5,by rw[<-hop];exact c0,?_⟩;have hN:=hN.keep (Below.refl _ _).drew;have hA1:=(hag.trans hA hB1).then (Below.refl _ _).drew;refine(pop_any hN (s:=s) (x:=x) hstk (by show(nextS (stepS st)).stack.length<=_;rw[show(nextS (stepS st)).stack=s++[x] from hstk,<-hs];omega)).mono λe w2 hr2=>?_;obtain⟨rfl,hag2,B2,hM2,hB2⟩:=hr2;refine⟨rfl,?_⟩;obtain⟨cs,ds,cv,sv,kv,dv,tv,hM2,rfl⟩:=hM2;obtain⟨g,n,c,hrn,rfl,hcc,hmm,hag3⟩:=hM2.upd (r:=r) (by rw[hdc];exact hrc) x;obtain⟨g2,c2,rfl,-,hc⟩:=stack_slice hM2.sk (by rw[hdr];omega);obtain⟨⟨u0,v0⟩,z0⟩:=hcc 0 (by omega);obtain⟨⟨u1,v1⟩,z1⟩:=hcc 1 (by omega);obtain⟨⟨u2,v2⟩,z2⟩:=hcc 2 (by omega);obtain⟨⟨u3,v3⟩,z3⟩:=hcc 3 (by omega);obtain⟨⟨u4,v4⟩,z4⟩:=hcc 4 (by omega);have hbl:w2.heap[b]?=(w1.setCell ⟨M,5,none⟩ (.int .i64 ((k:Int)+1))).drew.heap[b]?:=hag2.block b (by simpa using hbw) hbB;refine⟨g,n,c,g2,s.length-1-j,c2,by omega,by omega,hM2.m.at 1 rfl,by rw[<-hj];exact cell_same hbl c1,?_,?_,⟨u0,u1,u2,u3,u4,v0,v1,v2,v3,v4⟩,⟨z0,z1,z2,z3,z4⟩,?_,?_⟩
  ·intro w3 hw3;have e2:w3.cell? ⟨M,2,none⟩=_:=(congrArg (λz=>World.cell? z ⟨M,2,none⟩) hw3).trans (hM2.m.at 2 rfl);have hsl:st.stack.length=s.length+1:=by rw[hs];simp
   have:=top_any j e2 (by rw[hdr];exact hjl) (by rw[hdr];omega);rw[hdr]at this;exact this
  ·rw[hc _ (by rw[hdr];omega),hdr];simp[rfC,hr]
  ·have hA2:=hA1.trans hag2 hB1;have hB3:∀b∈mB M (.slice (some ⟨g,0,none⟩) n c) (.slice (some ⟨g2,0,none⟩) (dropS 1 (nextS (stepS st))).stack.length c2) dv tv,b∈B∨w.heap.size<=b:=λb hb=>by
    rcases hB2 b hb with h|h
    ·exact hB1 b h
    ·have:=hA1.size;right
     omega
   exact⟨rfl,hA2.trans hag3 hB3,_,⟨_,ds,_,_,kv,dv,tv,hmm,rfl⟩,hB3⟩
  ·have hbz:b<w2.heap.size:=Nat.lt_of_lt_of_le (by simpa using hbw) hag2.size;have hnb:b∉mB M (.slice (some ⟨g,0,none⟩) n c) (.slice (some ⟨g2,0,none⟩) (dropS 1 (nextS (stepS st))).stack.length c2) dv tv:=λhm=>by
    rcases hB2 b hm with h|h
    ·exact hbB h
    ·have:b<(w1.setCell ⟨M,5,none⟩ (.int .i64 ((k:Int)+1))).drew.heap.size:=by simpa using hbw
     omega
   refine⟨by rw[cell_drew2];exact hmm.m.at 1 rfl,by rw[<-hj,cell_drew2];exact cell_same ((hag3.block b hbz hnb).trans hbl) c1,?_⟩;have hs5:=hmm.sk.cellAt (s.length-1-j) (by simp only[hdr];omega);simp only[hdr]at hs5;rw[cell_drew2,hs5];simp[rfC,hr]
 clear h hsb hm hs hr hat hj hdr hdc;go_enter Tryz.func138,Tryz.ntmps138;go_wp2_with (first
  |(go_at_call 102;refine HS.out.mono ?_;rintro e w1 ⟨rfl,hag,B1,hM1,hB1⟩;obtain⟨b,n,c,hkn,e4,e5,f5,c0,hcall⟩:=HNX.out w1 B1 hag hM1 hB1;have HCL:=hid hcall;clear hag hM1 hB1 hcall))
 go_region
 go_wp2_with (first
  |(go_at_call 174;refine HCL.out.mono ?_;rintro e w2 ⟨rfl,g,n',c',g2,n2,c2,i0,i1,k1,ka,HTP,kr,⟨u0,u1,u2,u3,u4,v0,v1,v2,v3,v4⟩,⟨z0,z1,z2,z3,z4⟩,HRR,HS5⟩;clear HCL))
 have k1d:w2.drew.cell? ⟨M,1,none⟩=_:=k1;have kad:w2.drew.cell? ⟨b,k*3+1,none⟩=_:=ka;have krd:w2.drew.cell? ⟨g2,n2,none⟩=_:=kr;have k1e:w2.drew.drew.cell? ⟨M,1,none⟩=_:=k1;have kae:w2.drew.drew.cell? ⟨b,k*3+1,none⟩=_:=ka;have kre:w2.drew.drew.cell? ⟨g2,n2,none⟩=_:=kr;go_region_held_law (λw'=>w'.cell? ⟨M,1,none⟩=some (.slice (some ⟨g,0,none⟩) n' c')∧w'.cell? ⟨b,k*3+1,none⟩=some (.int .i64 (j:Int))∧w'.cell? ⟨g2,n2,none⟩=some (.int .i32 (r:Int))) (first|(with_reducible exact⟨k1d,kad,krd⟩)|(with_reducible exact⟨k1e,kae,kre⟩)|(exact HS5.out))
  (first
   |(go_at_call 168;refine(HTP.out _ rfl).mono ?_;rintro e w3 ⟨rfl,rfl⟩))
 all_goals(try go_wp2)
 all_goals
  refine bE ?_;first|exact HRR.out|exact HRR.out.drew|exact HRR.out.drew.drew
theorem do19_any{lo:Nat}{w:World}{M Pb:Nat}{st:MSt}{B:List Nat}(R:MSt->Prop)(h:MM lo w M Pb st B)(hm:Mtr st)(hsb:stepM st=true){k:Nat}(hat:st.fr.at_=(k:Int))(hk:k<st.fr.code.length)(hkb:k<=1000000000)(hop:st.fr.code[k].op=19)
 (hL:∀w' B',MM lo w' M Pb (nextS (stepS st)) B'->Below lo w w'->Calls Tryz.prog 137 #[.pointer (some ⟨M,0,none⟩)] w' λe w''=>∃st2,R st2∧MRes lo M Pb B' w' st2 (.tuple #[]) e w''):
 Calls Tryz.prog 138 #[.pointer (some ⟨M,0,none⟩)] w λe w'=>∃st2,R st2∧MRes lo M Pb B w st2 (.tuple #[]) e w':=by
 have HS:=hid (step_any h hm);have hlow:lo<=w.heap.size∧∀b∈B,lo<=b:=by
  obtain⟨cs,ds,cv,sv,kv,dv,tv,h,rfl⟩:=h;exact⟨h.lz,λb hb=>(h.rg b hb).1⟩
 rw[hsb]at HS;have HNX:Hid (∀w1 B1,AG B w w1->MM lo w1 M Pb (stepS st) B1->(∀b∈B1,b∈B∨w.heap.size<=b)->∃b n c:Nat,(k:Int)<(n:Int)∧w1.cell? ⟨M,4,none⟩=some (.slice (some ⟨b,0,none⟩) n c)∧w1.cell? ⟨M,5,none⟩=some (.int .i64 (k:Int))∧w1.frozen? ⟨M,5,none⟩=false∧(w1.setCell ⟨M,5,none⟩ (.int .i64 ((k:Int)+1))).cell? ⟨b,k*3,none⟩=some (.int .i64 19)∧Calls Tryz.prog 137 #[.pointer (some ⟨M,0,none⟩)] (w1.setCell ⟨M,5,none⟩ (.int .i64 ((k:Int)+1))).drew λe w'=>e=.returned (.tuple #[])∧Hid (∃st2,R st2∧MRes lo M Pb B w st2 (.tuple #[]) (.returned (.tuple #[])) w')):=by
  intro w1 B1 hag hM hB1;have hat':(stepS st).fr.at_=(k:Int):=by rw[stepS_ok hsb];exact hat
  have hcd:(stepS st).fr.code=st.fr.code:=by rw[stepS_ok hsb]
  obtain⟨b,n,c,ap,an,ac,hkn,e4,e5,f5,⟨c0,c1,c2⟩,-,-,hN,hA⟩:=hM.next (k:=k) hat' (by rw[hcd];exact hk);simp only[hcd]at c0 c1;refine⟨b,n,c,by omega,e4,e5,f5,by rw[<-hop];exact c0,?_⟩;have hA1:=(hag.trans hA hB1).then (Below.refl _ _).drew;refine(hL _ _ (hN.keep (Below.refl _ _).drew) (hA1.low hlow.2 hlow.1)).mono ?_;rintro e w' ⟨st2,hR,hr⟩;have he:=hr.1;exact⟨he,st2,hR,hr.of hA1 hB1 rfl⟩
 clear h hsb hm hat hL hlow;go_enter Tryz.func138,Tryz.ntmps138;go_wp2_with (first
  |(go_at_call 102;refine HS.out.mono ?_;rintro e w1 ⟨rfl,hag,B1,hM1,hB1⟩;obtain⟨b,n,c,hkn,e4,e5,f5,c0,hcall⟩:=HNX.out w1 B1 hag hM1 hB1;have HCL:=hid hcall;clear hag hM1 hB1 hcall))
 go_region
 go_wp2_with (first
  |(go_at_call 137;refine HCL.out.mono ?_;rintro e w2 ⟨rfl,HRR⟩))
 refine bE ?_;exact HRR.out
end Go.Proofs.YtcpcplaeaimmpaaGreatDoor
namespace Go.Proofs.YtcpcplaeaimmpaaGreatDoor
open Go.RowKit
theorem withinM_any(w:World):
 Calls Tryz.prog 62 #[.int .i64 2000000,.int .i64 2000000] w λe w'=>e=.returned (.int .i64 2000000)∧w'=w:=by
 go_enter Tryz.func62,Tryz.ntmps62;go_wp2;go_ret;exact⟨rfl,rfl⟩
theorem small7_any(w:World):
 Calls Tryz.prog 226 #[.int .i64 7] w λe w'=>e=.returned (.string ⟨#[55]⟩)∧w'=w:=by
 go_enter Tryz.func226,Tryz.ntmps226;go_wp2;go_ret;exact⟨rfl,rfl⟩
theorem format7_any(w:World):
 Calls Tryz.prog 181 #[.int .i64 7,.int .i64 10] w λe w'=>e=.returned (.string ⟨#[55]⟩)∧w'=w:=by
 have HS:=small7_any w;go_enter Tryz.func181,Tryz.ntmps181;go_wp2_with (first
  |(go_at_call 226;refine HS.mono ?_;rintro e w1 ⟨rfl,rfl⟩))
 go_ret;exact⟨rfl,rfl⟩
theorem itoa7'_any(w:World):
 Calls Tryz.prog 141 #[.int .i64 7] w λe w'=>e=.returned (.string ⟨#[55]⟩)∧w'=w:=by
 have HS:=format7_any w;go_enter Tryz.func141,Tryz.ntmps141;go_wp2_with (first
  |(go_at_call 181;refine HS.mono ?_;rintro e w1 ⟨rfl,rfl⟩))
 go_ret;exact⟨rfl,rfl⟩
theorem itoa7_any(w:World):
 Calls Tryz.prog 104 #[.int .i64 7] w λe w'=>e=.returned (.string ⟨#[55]⟩)∧w'=w:=by
 have HS:=itoa7'_any w;go_enter Tryz.func104,Tryz.ntmps104;go_wp2_with (first
  |(go_at_call 141;refine HS.mono ?_;rintro e w1 ⟨rfl,rfl⟩))
 go_ret;exact⟨rfl,rfl⟩
end Go.Proofs.YtcpcplaeaimmpaaGreatDoor
namespace Go.Proofs.YtcpcplaeaimmpaaGreatDoor
open Go.RowKit Go.Sort
def st7(cells:List MCl)(stack:List Int)(code:List LIns)(at_ su mu state:Int)(text:List UInt8):MSt:=⟨cells,stack,⟨0,code,at_⟩,[],su,2000000,mu,2000000,state,0,text⟩
def c4:MCl:=⟨4,0,0,0,[]⟩
def c1:MCl:=⟨1,7,0,0,[]⟩
def c5:MCl:=⟨5,0,1,0,[]⟩
def s70:MSt:=st7 [c4] [0] [] 0 0 0 0 []
def s71:MSt:=st7 [c4] [0] code7 0 1 0 0 []
def s72:MSt:=st7 [c4,c1] [0,1] code7 1 2 1 0 []
def s73:MSt:=st7 [c5,c1] [0] code7 2 3 1 0 []
def s73':MSt:=st7 [c5,c1] [0] code7 3 4 1 0 []
def s74:MSt:=st7 [c5,c1] [1] code7 3 6 1 1 []
def s75:MSt:=st7 [c5,c1] [1] code7 3 7 1 1 []
def s76:MSt:=st7 [c5,c1] [1] code7 3 7 1 1 [55]
def E7(_:Int)(st:MSt):MSt:=enter0S code7 st
theorem s7_begin:beginS 0 (newSt 1 2000000 2000000)=s70:=rfl
theorem s7_look0:lookS E7 giveS (s70.sm-s70.su).toNat s70=s71:=by kernel_rfl
theorem s7_do5:updS 0 1 (dropS 1 (nextS (stepS s72)))=s73:=rfl
theorem s7_do19:nextS (stepS s73)=s73':=rfl
theorem s7_look1:lookS E7 giveS (s73'.sm-s73'.su).toNat s73'=s74:=by kernel_rfl
theorem s7_step:stepS s74=s75:=rfl
theorem s7_say:sayS ⟨#[55]⟩ s75=s76:=rfl
def J7(st:MSt):Prop:=st=s71∨st=s72∨st=s73∨st=s74
theorem mtr7(c s k a su mu t x)(h:0<=su∧su<=7)(h2:0<=mu∧mu<=1):Mtr (st7 c s k a su mu t x):=⟨by simp[st7];omega,by simp[st7],by simp[st7];omega,by simp[st7]⟩
theorem wf70:Wf 1 s70:=⟨by simp[s70,st7],by simp[s70,st7,c4],by simp[s70,st7,c4],by simp[s70,st7],by simp[s70,st7],by simp[s70,st7],mtr7 _ _ _ _ _ _ _ _ (by omega) (by omega)⟩
theorem wf73':Wf 1 s73':=⟨by simp[s73',st7],by simp[s73',st7,c5,c1],by simp[s73',st7,c5,c1],by simp[s73',st7],by simp[s73',st7],by simp[s73',st7],mtr7 _ _ _ _ _ _ _ _ (by omega) (by omega)⟩
theorem look7{lo:Nat}{w:World}{M Pb:Nat}{st:MSt}{B:List Nat}{gp:Option Addr}{gc:Nat}{G:Nat->Int×Option Addr×Nat×Nat}(h:MM lo w M Pb st B)(hP:Pg lo w Pb 1 gp gc G)(hG:(G 0).1=0)(hC:CdAt lo w (.slice (G 0).2.1 (G 0).2.2.1 (G 0).2.2.2) code7)(hW:Wf 1 st)(hd:st.dump=[]):
 Calls Tryz.prog 137 #[.pointer (some ⟨M,0,none⟩)] w λe w'=>MRes lo M Pb B w (lookS E7 giveS (st.sm-st.su).toNat st) (.tuple #[]) e w':=by
 refine look_any2 E7 giveS (λst=>st.dump=[]) h hP hW hd (λst h=>h) (λst x h=>h) (λst x h=>h) (λi hi w' st' B' hM hb hI _ hs=>?_) (λx w' st' B' hM hI _ hs=>?_)
 ·obtain rfl:i=0:=by omega
  rw[hG];exact enter0_any code7 _ _ _ (hC.fr hb) hM (by omega) ⟨hs.1,hs.2.1⟩
 ·exact give0_any x st'.fr.base.toNat hM hI (by omega) (by omega) (by omega)
theorem evaluate7{lo:Nat}{w:World}{M Pb:Nat}{B:List Nat}{gp:Option Addr}{gc:Nat}{G:Nat->Int×Option Addr×Nat×Nat}(h:MM lo w M Pb (newSt 1 2000000 2000000) B)(hP:Pg lo w Pb 1 gp gc G)(hG:(G 0).1=0)(hC:CdAt lo w (.slice (G 0).2.1 (G 0).2.2.1 (G 0).2.2.2) code7):
 Calls Tryz.prog 101 #[.pointer (some ⟨M,0,none⟩),.int .i32 0] w λe w'=>MRes lo M Pb B w s74 (.tuple #[.int .i32 1,.bool true]) e w':=by
 refine(evaluate_any 0 J7 h (λw' B' hM hb=>?_) (λw' st' B' hj hs hM hb=>?_) (λst' hj h0 h2=>?_)).mono ?_
 ·rw[s7_begin]at hM;refine(look7 hM (hP.low hb) hG (hC.fr hb) wf70 rfl).mono λe w'' hr=>?_;rw[s7_look0]at hr;exact⟨s71,Or.inl rfl,hr⟩
 ·rcases hj with rfl|rfl|rfl|rfl
  ·refine(do0_any hM (mtr7 _ _ _ _ _ _ _ _ (by omega) (by omega)) rfl (k:=0) rfl (by simp[s71,st7,code7]) (by omega) rfl (by simp[s71,st7]) (by simp[s71,st7])).mono λe w'' hr=>?_;exact⟨s72,Or.inr (Or.inl rfl),by decide,hr⟩
  ·refine(do5_any hM (mtr7 _ _ _ _ _ _ _ _ (by omega) (by omega)) rfl (k:=1) rfl (by simp[s72,st7,code7]) (by omega) rfl (by simp[s72,st7]) (s:=[0]) (x:=1) rfl (j:=0) (r:=0) rfl (by simp) rfl (by simp[s72,st7])).mono λe w'' hr=>?_;rw[s7_do5]at hr;exact⟨s73,Or.inr (Or.inr (Or.inl rfl)),by decide,hr⟩
  ·refine(do19_any (λst=>st=s74) hM (mtr7 _ _ _ _ _ _ _ _ (by omega) (by omega)) rfl (k:=2) rfl (by simp[s73,st7,code7]) (by omega) rfl (λw1 B1 hM1 hb1=>?_)).mono ?_
   ·rw[s7_do19]at hM1;have hb2:=hb.trans hb1;refine(look7 hM1 (hP.low hb2) hG (hC.fr hb2) wf73' rfl).mono λe w'' hr=>?_;rw[s7_look1]at hr;exact⟨s74,rfl,hr⟩
   ·rintro e w'' ⟨st2,rfl,hr⟩;exact⟨s74,Or.inr (Or.inr (Or.inr rfl)),by decide,hr⟩
  ·exact absurd hs (by decide)
 ·rcases hj with rfl|rfl|rfl|rfl
  ·exact absurd rfl h0
  ·exact absurd rfl h0
  ·exact absurd rfl h0
  ·simp[s74,st7]
 ·rintro e w' ⟨stF,hj,h0,hr⟩;rcases hj with rfl|rfl|rfl|rfl
  ·exact absurd rfl h0
  ·exact absurd rfl h0
  ·exact absurd rfl h0
  ·exact hr
theorem tell7{lo:Nat}{w:World}{M Pb:Nat}{B:List Nat}{gp:Option Addr}{gc:Nat}{G:Nat->Int×Option Addr×Nat×Nat}(h:MM lo w M Pb (newSt 1 2000000 2000000) B)(hP:Pg lo w Pb 1 gp gc G)(hG:(G 0).1=0)(hC:CdAt lo w (.slice (G 0).2.1 (G 0).2.2.1 (G 0).2.2.2) code7):
 Calls Tryz.prog 63 #[.pointer (some ⟨M,0,none⟩),.int .i32 0] w λe w'=>MRes lo M Pb B w s76 (.bool true) e w':=by
 have HEV:=hid (evaluate7 h hP hG hC);have HST:Hid (∀w1,MRes lo M Pb B w s74 (.tuple #[.int .i32 1,.bool true]) (.returned (.tuple #[.int .i32 1,.bool true])) w1->Calls Tryz.prog 102 #[.pointer (some ⟨M,0,none⟩)] w1 λe w2=>e=.returned (.bool true)∧∃g n c fp fn fc:Nat,∃fa,1<n∧w2.cell? ⟨M,1,none⟩=some (.slice (some ⟨g,0,none⟩) n c)∧w2.cell? ⟨g,5,none⟩=some (.int .u8 1)∧w2.cell? ⟨g,6,none⟩=some (.int .i64 7)∧w2.cell? ⟨g,7,none⟩=some (.int .i32 0)∧w2.cell? ⟨g,8,none⟩=some (.int .i32 0)∧w2.cell? ⟨g,9,none⟩=some (.slice fa fn fc)∧Hid (∀w3,Below w2.heap.size w2 w3->Calls Tryz.prog 103 #[.pointer (some ⟨M,0,none⟩),.string ⟨#[55]⟩] w3 λe w'=>e=.returned (.bool true)∧MRes lo M Pb B w s76 (.bool true) (.returned (.bool true)) w')):=by
  intro w1 hr1;obtain⟨-,hA1,B1,hM1,hB1⟩:=hr1;refine(step_any hM1 (mtr7 _ _ _ _ _ _ _ _ (by omega) (by omega))).mono λe w2 hr2=>?_;rw[s7_step]at hr2;have hr2':=hr2.of hA1 hB1 (hr2.1);obtain⟨he,hA2,B2,hM2,hB2⟩:=hr2';refine⟨he,?_⟩;have hM2':=hM2;obtain⟨cs,ds,cv,sv,kv,dv,tv,hm2,-⟩:=hM2';obtain⟨g,c,fp,fn,fc,rfl,k0,k1,k2,k3,k4,-⟩:=hm2.cellAt (r:=1) (by simp[s75,st7]);refine⟨g,_,c,0,fn,fc,fp,by simp[s75,st7],hm2.m.at 1 rfl,k0,k1,k2,k3,k4,λw3 hb3=>?_⟩;refine(say_any ⟨#[55]⟩ (hM2.keep hb3) (by decide) (by simp[s75,st7])).mono λe w' hr=>?_;rw[s7_say]at hr;have he':e=.returned (.bool true):=hr.1;exact⟨he',hr.of (hA2.then hb3) hB2 rfl⟩
 clear h hP hC;go_enter Tryz.func63,Tryz.ntmps63;go_wp2_with (first
  |(go_at_call 101;refine HEV.out.mono ?_;intro e w1 hr;obtain⟨rfl,-⟩:=id hr;have HS1:=hid (HST.out w1 hr);clear hr HEV HST)
  |(go_at_call 102;refine HS1.out.mono ?_;rintro e w2 ⟨rfl,g,n,c,fp,fn,fc,fa,hn1,k1,g0,g1,g2,g3,g4,HSY⟩;clear HS1)
  |(go_at_call 104;refine(itoa7_any _).mono ?_;rintro e w3 ⟨rfl,rfl⟩)
  |(go_at_call 103;refine(HSY.out _ (by first|exact(Below.refl _ _).alloc (Nat.le_refl _) _|exact((Below.refl _ _).alloc (Nat.le_refl _) _).drew)).mono ?_;rintro e w4 ⟨rfl,hr⟩;have HRR:=hid hr;clear hr))
 go_ret;exact HRR.out
theorem lnkX_kind{Os:List LObj}{entry:ByteArray}{x:Nat×Nat}(h:lnkX Os entry=some x):x=(17,0)∨x=(18,0):=by
 unfold lnkX at h;split at h
 ·cases h;exact Or.inl rfl
 ·split at h
  ·cases h;exact Or.inl rfl
  ·split at h
   ·cases h;exact Or.inr rfl
   ·cases h
theorem lnk_kind{Os:List LObj}{entry:ByteArray}{x:Nat×Nat}(h:lnkE Os entry=some x):(x=(17,0)∨x=(18,0))∨((x.1=0∨x.1=14∨x.1=15∨x.1=16)∧x.2<Os.length):=by
 unfold lnkE at h;split at h
 ·cases h;exact Or.inl (Or.inr rfl)
 ·unfold orE at h;split at h
  ·rename_i k hk;cases h;have:=fstF_ge hk;exact Or.inr ⟨Or.inl rfl,by simpa using this.2⟩
  ·split at h
   ·rename_i k hk;cases h;have:=fstF_ge hk;exact Or.inr ⟨Or.inr (Or.inl rfl),by simpa using this.2⟩
   ·split at h
    ·rename_i k hk;cases h;have:=fstF_ge hk;exact Or.inr ⟨Or.inr (Or.inr (Or.inl rfl)),by simpa using this.2⟩
    ·split at h
     ·rename_i k hk;cases h;have:=fstF_ge hk;exact Or.inr ⟨Or.inr (Or.inr (Or.inr rfl)),by simpa using this.2⟩
     ·exact Or.inl (lnkX_kind h)
theorem lnk_told{w:World}{adr:Nat->Addr}(hS:SentAt w adr){Os:List LObj}{entry:ByteArray}{x:Nat×Nat}(h:lnkE Os entry=some x):(∃t y,lnkV adr x=.iface t y)∧Told w (lnkV adr x) (kCode x.1) 0 (x.2:Int):=by
 rcases lnk_kind h with h1|⟨h1,h2⟩
 ·rcases h1 with rfl|rfl
  ·exact⟨⟨_,_,rfl⟩,told_plain hS 17 (by omega)⟩
  ·exact⟨⟨_,_,rfl⟩,told_plain hS 18 (by omega)⟩
 ·obtain⟨i,k⟩:=x;have e:lnkV adr (i,k)=errF (adr i) 0 (k:Int):=by
   unfold lnkV;rw[if_neg (by simp only at h1 ⊢;omega)]
  rw[e];simp only at h1;exact⟨⟨_,_,rfl⟩,told_fault hS i (by omega) 0 _⟩
def LinkRes(Os:List LObj)(entry:ByteArray)(w:World)(e:Ending)(w':World):Prop:=Below w.heap.size w w'∧match lnkE Os entry with
 |some x=>e=.returned (.tuple #[.pointer none,.int .i64 (kCode x.1),.int .i64 (x.2:Int)])
 |none=>∃I p n c,e=.returned (.tuple #[.pointer (some ⟨I,0,none⟩),.int .i64 0,.int .i64 0])∧w.heap.size<=I∧R2 w' I (.slice p n c) (.int .i64 (imgE Os entry))∧MGAt w.heap.size w' (.slice p n c) (img Os)
theorem fldP1(x y:Value)(w:World):Sem.run Tryz.prog (Instr.field 31 (.agg #[x,y]) 1) w=.ok y w:=by kernel_rfl
theorem tarnLink_any(Os:List LObj)(v:Value)(entry:ByteArray)(w:World)(adr:Nat->Addr)(h:ObjsAt w v Os)(hZ:Szd Os)(he:entry.size<=maxLen)(hT:TabAt w)(hS:SentAt w adr):
 Calls Tryz.prog 31 #[v,.string entry] w λe w'=>LinkRes Os entry w e w':=by
 have HO:=hid (objects_any Os v entry w adr h hZ he hT hS);obtain⟨p,cap,rfl,-⟩:=id h;have F1:=fldP1;cases hL:lnkE Os entry with
 |some x=>
  obtain⟨⟨et,ey,hv⟩,-⟩:=lnk_told (adr:=adr) hS hL;have HOS:Hid (Calls Tryz.prog 60 #[.slice p Os.length cap,.string entry] w λe w'=>e=.returned (.tuple #[.agg #[.slice none 0 0,.int .i64 0],.iface et ey])∧Below w.heap.size w w'):=HO.out.mono λe w' hr=>by
   obtain⟨h1,h2⟩:=hr;rw[hL]at h2;rw[<-hv];exact⟨h2,h1⟩
  have HTD:=hid (λw1 (hb:Below w.heap.size w w1)=>hv▸(lnk_told (adr:=adr) (hS.keep hb) hL).2);have HL:=hid hL;clear h hT hS HO hL hv;go_enter Tryz.func31,Tryz.ntmps31;go_wp2_with (first
   |(go_at_call 60;refine HOS.out.mono ?_;rintro e w1 ⟨rfl,hb1⟩;have HB1:=hid hb1;have HTW:=hid (HTD.out w1 hb1);clear hb1)
   |(go_at_call 14;refine(HTW.out.kind _ ((Below.refl _ _).alloc (Nat.le_refl _) _)).mono ?_;rintro e w3 ⟨rfl,hb3⟩;have HB3:=hid (((Below.refl _ _).alloc (Nat.le_refl _) _).trans (hb3.mono (by simp)):Below w1.heap.size w1 w3);clear hb3)
   |(go_at_call 16;refine(HTW.out.place _ HB3.out).mono ?_;rintro e w5 ⟨rfl,hb5⟩;have HB5:=hid (HB1.out.trans ((HB3.out.trans (hb5.mono HB3.out.size)).mono HB1.out.size));clear hb5))
  go_ret3
  refine⟨HB5.out,?_⟩;rw[HL.out];rfl
 |none=>
  have HOS:Hid (Calls Tryz.prog 60 #[.slice p Os.length cap,.string entry] w λe w'=>∃gp gn gc,e=.returned (.tuple #[.agg #[.slice gp gn gc,.int .i64 (imgE Os entry)],.nilIface])∧Below w.heap.size w w'∧Hid (MGAt w.heap.size w' (.slice gp gn gc) (img Os))):=HO.out.mono λe w' hr=>by
   obtain⟨h1,h2⟩:=hr;rw[hL]at h2;obtain⟨a,b,c,h2,h3⟩:=h2;exact⟨a,b,c,h2,h1,h3⟩
  have HL:=hid hL;clear h hT hS HO hL;go_enter Tryz.func31,Tryz.ntmps31;go_wp2_with (first
   |(go_at_call 60;refine HOS.out.mono ?_;rintro e w1 ⟨gp,gn,gc,rfl,hb1,HMG⟩;have HB1:=hid hb1;clear hb1))
  go_ret3
  have hz:=HB1.out.size;refine⟨(HB1.out.alloc hz _).alloc (by simp;omega) _,?_⟩;rw[HL.out];have hr:=R2.new (w1.alloc (.cells #[.slice gp gn gc,.int .i64 (imgE Os entry)] 99)) (.slice gp gn gc) (.int .i64 (imgE Os entry)) 101;rw[World.size_alloc]at hr;exact⟨_,gp,gn,gc,rfl,by omega,hr,(HMG.out.keep ((Below.refl _ _).alloc (Nat.le_refl _) _)).keep ((Below.refl _ _).alloc (Nat.le_refl _) _)⟩
end Go.Proofs.YtcpcplaeaimmpaaGreatDoor

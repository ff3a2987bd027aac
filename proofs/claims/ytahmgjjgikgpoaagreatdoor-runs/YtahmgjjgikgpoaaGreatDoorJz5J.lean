import Derived.Test.YtahmgjjgikgpoaaGreatDoorJzJ
set_option maxRecDepth 100000
set_option maxHeartbeats 4000000
namespace Go.Proofs.YtahmgjjgikgpoaaGreatDoor
open Go.RowKit Go.Sort
theorem flat5_set:∀(l:List (MCl×Value)) (r:Nat) (_:r<l.length) (y:MCl×Value),((((((l.flatMap mcC).set (r*5) (.int .u8 y.1.kind)).set (r*5+1) (.int .i64 y.1.n)).set (r*5+2) (.int .i32 y.1.left)).set (r*5+3) (.int .i32 y.1.right)).set (r*5+4) y.2)=(l.set r y).flatMap mcC
 |x::l,0,_,y=>by simp[mcC]
 |x::l,r+1,hr,y=>by
  rw[List.flatMap_cons,List.set_cons_succ,List.flatMap_cons,<-flat5_set l r (by simpa using hr) y];have e:∀(t:List Value) (j:Nat) (v:Value),(mcC x++t).set ((r+1)*5+j) v=mcC x++t.set (r*5+j) v:=λt j v=>by
   rw[List.set_append_right _ _ (by simp[mcC];omega)];congr 2
   simp[mcC];omega
  have e0:∀(t:List Value) (v:Value),(mcC x++t).set ((r+1)*5) v=mcC x++t.set (r*5) v:=λt v=>e t 0 v;rw[e0,e,e,e,e]
theorem MRes.drew{lo M Pb:Nat}{B:List Nat}{w:World}{st:MSt}{r:Value}{e:Ending}{w':World}(h:MRes lo M Pb B w st r e w'):MRes lo M Pb B w st r e w'.drew:=by
 obtain⟨h1,h2,B',h3,h4⟩:=h;exact⟨h1,h2.then (Below.refl _ _).drew,B',h3.keep (Below.refl _ _).drew,h4⟩
theorem cell_drew2(w:World)(a:Addr):w.drew.drew.cell? a=w.cell? a:=rfl
theorem MMem.upd{lo:Nat}{w:World}{M Pb:Nat}{st:MSt}{cs:List (MCl×Value)}{ds:List (MFr×Value)}{cv sv kv dv tv:Value}(h:MMem lo w M Pb st cs ds cv sv kv dv tv){r:Nat}(hr:r<st.cells.length)(q:Int):∃g n c,r<n∧cv=.slice (some ⟨g,0,none⟩) n c∧(∀j,j<5->(∃u,w.cell? ⟨g,r*5+j,none⟩=some u)∧w.frozen? ⟨g,r*5+j,none⟩=false)∧MMem lo (((((w.setCell ⟨g,r*5,none⟩ (.int .u8 5)).setCell ⟨g,r*5+1,none⟩ (.int .i64 0)).setCell ⟨g,r*5+2,none⟩ (.int .i32 q)).setCell ⟨g,r*5+3,none⟩ (.int .i32 0)).setCell ⟨g,r*5+4,none⟩ (.slice none 0 0)) M Pb {st with cells:=st.cells.set r ⟨5,0,q,0,[]⟩} (cs.set r (⟨5,0,q,0,[]⟩,.slice none 0 0)) ds cv sv kv dv tv∧AG (mB M cv sv dv tv) w (((((w.setCell ⟨g,r*5,none⟩ (.int .u8 5)).setCell ⟨g,r*5+1,none⟩ (.int .i64 0)).setCell ⟨g,r*5+2,none⟩ (.int .i32 q)).setCell ⟨g,r*5+3,none⟩ (.int .i32 0)).setCell ⟨g,r*5+4,none⟩ (.slice none 0 0)):=by
 have hl:cs.length=st.cells.length:=by rw[<-h.hcs,List.length_map]
 rcases id h.cl.2 with⟨-,h2⟩|⟨g,c,cur,hv,h3⟩
 ·omega
 have hcl:=h.cl;subst hv;have hfl:=flat5_len cs;have h5:=((((((hcl.stored (r*5) (.int .u8 5)).1.stored (r*5+1) (.int .i64 0)).1.stored (r*5+2) (.int .i32 q)).1.stored (r*5+3) (.int .i32 0)).1.stored (r*5+4) (.slice none 0 0)).1);rw[flat5_set cs r (by omega) (⟨5,0,q,0,[]⟩,.slice none 0 0)]at h5;have hA:AG (vB (.slice (some ⟨g,0,none⟩) cs.length c)) w (((((w.setCell ⟨g,r*5,none⟩ (.int .u8 5)).setCell ⟨g,r*5+1,none⟩ (.int .i64 0)).setCell ⟨g,r*5+2,none⟩ (.int .i32 q)).setCell ⟨g,r*5+3,none⟩ (.int .i32 0)).setCell ⟨g,r*5+4,none⟩ (.slice none 0 0)):=by
  have hg:g∈vB (.slice (some ⟨g,0,none⟩) cs.length c):=by rw[vB_slice];exact List.mem_singleton.2 rfl
  exact(((((AG.refl _ _).set (Or.inl hg) _).set (Or.inl hg) _).set (Or.inl hg) _).set (Or.inl hg) _).set (Or.inl hg) _
 obtain⟨t1,t2⟩:=h.rowC hA (cs':=cs.set r (⟨5,0,q,0,[]⟩,.slice none 0 0)) (by rw[List.length_set];exact h5) (λx hx=>by
  rcases List.mem_or_eq_of_mem_set hx with hx|rfl
  ·exact h.fl x hx
  ·exact⟨none,0,rfl,λi hi=>absurd hi (by simp)⟩)
 refine⟨g,cs.length,c,by omega,rfl,λj hj=>⟨?_,hcl.frozenAt _⟩,?_,t2⟩
 ·rw[hcl.cellAt (r*5+j) (by omega)];exact⟨_,List.getElem?_eq_getElem (by omega)⟩
 ·rw[List.map_set,h.hcs]at t1;exact t1
def updS(r:Nat)(x:Int)(st:MSt):MSt:={st with cells:=st.cells.set r ⟨5,0,x,0,[]⟩}
theorem do5_any{lo:Nat}{w:World}{M Pb:Nat}{st:MSt}{B:List Nat}(h:MM lo w M Pb st B)(hm:Mtr st)(hsb:stepM st=true){k:Nat}(hat:st.fr.at_=(k:Int))(hk:k<st.fr.code.length)(hkb:k<=1000000000)(hop:st.fr.code[k].op=5)(hl:st.stack.length<=1000000000){s:List Int}{x:Int}(hs:st.stack=s++[x]){j r:Nat}(hj:st.fr.code[k].a=(j:Int))(hjl:j<s.length)(hr:s[s.length-1-j]?=some (r:Int))(hrc:r<st.cells.length):
 Calls Tryz.prog 77 #[.pointer (some ⟨M,0,none⟩)] w λe w'=>MRes lo M Pb B w (updS r x (dropS 1 (nextS (stepS st)))) (.tuple #[]) e w':=by
 have HS:=hid (step_any h hm);rw[hsb]at HS;have hdr:(dropS 1 (nextS (stepS st))).stack=s:=by rw[stepS_ok hsb];simp[dropS,nextS,hs]
 have hdc:(dropS 1 (nextS (stepS st))).cells=st.cells:=by rw[stepS_ok hsb];rfl
 have HNX:Hid (∀w1 B1,AG B w w1->MM lo w1 M Pb (stepS st) B1->(∀b∈B1,b∈B∨w.heap.size<=b)->∃b n c:Nat,(k:Int)<(n:Int)∧w1.cell? ⟨M,4,none⟩=some (.slice (some ⟨b,0,none⟩) n c)∧w1.cell? ⟨M,5,none⟩=some (.int .i64 (k:Int))∧w1.frozen? ⟨M,5,none⟩=false∧(w1.setCell ⟨M,5,none⟩ (.int .i64 ((k:Int)+1))).cell? ⟨b,k*3,none⟩=some (.int .i64 5)∧Calls Tryz.prog 105 #[.pointer (some ⟨M,0,none⟩)] (w1.setCell ⟨M,5,none⟩ (.int .i64 ((k:Int)+1))).drew λe w2=>e=.returned (.int .i32 x)∧∃g n c g2 n2 c2:Nat,(0:Int)<=(r:Int)∧(r:Int)<(n:Int)∧w2.cell? ⟨M,1,none⟩=some (.slice (some ⟨g,0,none⟩) n c)∧w2.cell? ⟨b,k*3+1,none⟩=some (.int .i64 (j:Int))∧Hid (∀w3:World,w3=w2.drew->Calls Tryz.prog 99 #[.pointer (some ⟨M,0,none⟩),.int .i64 (j:Int)] w3 λe w'=>e=.returned (.pointer (some ⟨g2,n2,none⟩))∧w'=w3.drew)∧w2.cell? ⟨g2,n2,none⟩=some (.int .i32 (r:Int))∧(∃u0 u1 u2 u3 u4,w2.cell? ⟨g,r*5,none⟩=some u0∧w2.cell? ⟨g,r*5+1,none⟩=some u1∧w2.cell? ⟨g,r*5+2,none⟩=some u2∧w2.cell? ⟨g,r*5+3,none⟩=some u3∧w2.cell? ⟨g,r*5+4,none⟩=some u4)∧(w2.frozen? ⟨g,r*5,none⟩=false∧w2.frozen? ⟨g,r*5+1,none⟩=false∧w2.frozen? ⟨g,r*5+2,none⟩=false∧w2.frozen? ⟨g,r*5+3,none⟩=false∧w2.frozen? ⟨g,r*5+4,none⟩=false)∧Hid (MRes lo M Pb B w (updS r x (dropS 1 (nextS (stepS st)))) (.tuple #[]) (.returned (.tuple #[])) (((((w2.setCell ⟨g,r*5,none⟩ (.int .u8 5)).setCell ⟨g,r*5+1,none⟩ (.int .i64 0)).setCell ⟨g,r*5+2,none⟩ (.int .i32 x)).setCell ⟨g,r*5+3,none⟩ (.int .i32 0)).setCell ⟨g,r*5+4,none⟩ (.slice none 0 0)))∧Hid ((((((w2.setCell ⟨g,r*5,none⟩ (.int .u8 5)).setCell ⟨g,r*5+1,none⟩ (.int .i64 0)).setCell ⟨g,r*5+2,none⟩ (.int .i32 x)).setCell ⟨g,r*5+3,none⟩ (.int .i32 0)).setCell ⟨g,r*5+4,none⟩ (.slice none 0 0)).drew.drew.cell? ⟨M,1,none⟩=some (.slice (some ⟨g,0,none⟩) n c)∧(((((w2.setCell ⟨g,r*5,none⟩ (.int .u8 5)).setCell ⟨g,r*5+1,none⟩ (.int .i64 0)).setCell ⟨g,r*5+2,none⟩ (.int .i32 x)).setCell ⟨g,r*5+3,none⟩ (.int .i32 0)).setCell ⟨g,r*5+4,none⟩ (.slice none 0 0)).drew.drew.cell? ⟨b,k*3+1,none⟩=some (.int .i64 (j:Int))∧(((((w2.setCell ⟨g,r*5,none⟩ (.int .u8 5)).setCell ⟨g,r*5+1,none⟩ (.int .i64 0)).setCell ⟨g,r*5+2,none⟩ (.int .i32 x)).setCell ⟨g,r*5+3,none⟩ (.int .i32 0)).setCell ⟨g,r*5+4,none⟩ (.slice none 0 0)).drew.drew.cell? ⟨g2,n2,none⟩=some (.int .i32 (r:Int)))):=by
  intro w1 B1 hag hM hB1;have hat':(stepS st).fr.at_=(k:Int):=by rw[stepS_ok hsb];exact hat
  have hcd:(stepS st).fr.code=st.fr.code:=by rw[stepS_ok hsb]
  have hstk:(stepS st).stack=s++[x]:=by rw[stepS_ok hsb];exact hs
  obtain⟨b,n,c,ap,an,ac,hkn,e4,e5,f5,⟨c0,c1,c2⟩,hbB,hbw,hN,hA⟩:=hM.next (k:=k) hat' (by rw[hcd];exact hk);simp only[hcd]at c0 c1;refine⟨b,n,c,by omega,e4,e5,f5,by rw[<-hop];exact c0,?_⟩;have hN:=hN.keep (Below.refl _ _).drew;have hA1:=(hag.trans hA hB1).then (Below.refl _ _).drew;refine(pop_any hN (s:=s) (x:=x) hstk (by show(nextS (stepS st)).stack.length<=_;rw[show(nextS (stepS st)).stack=s++[x] from hstk,<-hs];omega)).mono λe w2 hr2=>?_;obtain⟨rfl,hag2,B2,hM2,hB2⟩:=hr2;refine⟨rfl,?_⟩;obtain⟨cs,ds,cv,sv,kv,dv,tv,hM2,rfl⟩:=hM2;obtain⟨g,n,c,hrn,rfl,hcc,hmm,hag3⟩:=hM2.upd (r:=r) (by rw[hdc];exact hrc) x;obtain⟨g2,c2,rfl,-,hc⟩:=stack_slice hM2.sk (by rw[hdr];omega);obtain⟨⟨u0,v0⟩,z0⟩:=hcc 0 (by omega);obtain⟨⟨u1,v1⟩,z1⟩:=hcc 1 (by omega);obtain⟨⟨u2,v2⟩,z2⟩:=hcc 2 (by omega);obtain⟨⟨u3,v3⟩,z3⟩:=hcc 3 (by omega);obtain⟨⟨u4,v4⟩,z4⟩:=hcc 4 (by omega);have hbl:w2.heap[b]?=(w1.setCell ⟨M,5,none⟩ (.int .i64 ((k:Int)+1))).drew.heap[b]?:=hag2.block b (by simpa using hbw) hbB;refine⟨g,n,c,g2,s.length-1-j,c2,by omega,by omega,hM2.m.at 1 rfl,by rw[<-hj];exact cell_same hbl c1,?_,?_,⟨u0,u1,u2,u3,u4,v0,v1,v2,v3,v4⟩,⟨z0,z1,z2,z3,z4⟩,?_,?_⟩
  ·intro w3 hw3;have e2:w3.cell? ⟨M,2,none⟩=_:=(congrArg (λz=>World.cell? z ⟨M,2,none⟩) hw3).trans (hM2.m.at 2 rfl);have hsl:st.stack.length=s.length+1:=by rw[hs];simp
   have:=top_any j e2 (by rw[hdr];exact hjl) (by rw[hdr];omega);rw[hdr]at this;exact this
  ·rw[hc _ (by rw[hdr];omega),hdr];simp[rfC,hr]
  ·have hA2:=hA1.trans hag2 hB1;have hB3:∀b∈mB M (.slice (some ⟨g,0,none⟩) n c) (.slice (some ⟨g2,0,none⟩) (dropS 1 (nextS (stepS st))).stack.length c2) dv tv,b∈B∨w.heap.size<=b:=λb hb=>by
    rcases hB2 b hb with h|h
    ·exact hB1 b h
    ·have:=hA1.size;right
     omega
   exact⟨rfl,hA2.trans hag3 hB3,_,⟨_,ds,_,_,kv,dv,tv,hmm,rfl⟩,hB3⟩
  ·have hbz:b<w2.heap.size:=Nat.lt_of_lt_of_le (by simpa using hbw) hag2.size;have hnb:b∉mB M (.slice (some ⟨g,0,none⟩) n c) (.slice (some ⟨g2,0,none⟩) (dropS 1 (nextS (stepS st))).stack.length c2) dv tv:=λhm=>by
    rcases hB2 b hm with h|h
    ·exact hbB h
    ·have:b<(w1.setCell ⟨M,5,none⟩ (.int .i64 ((k:Int)+1))).drew.heap.size:=by simpa using hbw
     omega
   refine⟨by rw[cell_drew2];exact hmm.m.at 1 rfl,by rw[<-hj,cell_drew2];exact cell_same ((hag3.block b hbz hnb).trans hbl) c1,?_⟩;have hs5:=hmm.sk.cellAt (s.length-1-j) (by simp only[hdr];omega);simp only[hdr]at hs5;rw[cell_drew2,hs5];simp[rfC,hr]
 clear h hsb hm hs hr hat hj hdr hdc;go_enter Tryz.func77,Tryz.ntmps77;go_wp2_with (first
  |(go_at_call 55;refine HS.out.mono ?_;rintro e w1 ⟨rfl,hag,B1,hM1,hB1⟩;obtain⟨b,n,c,hkn,e4,e5,f5,c0,hcall⟩:=HNX.out w1 B1 hag hM1 hB1;have HCL:=hid hcall;clear hag hM1 hB1 hcall))
 go_region
 go_wp2_with (first
  |(go_at_call 105;refine HCL.out.mono ?_;rintro e w2 ⟨rfl,g,n',c',g2,n2,c2,i0,i1,k1,ka,HTP,kr,⟨u0,u1,u2,u3,u4,v0,v1,v2,v3,v4⟩,⟨z0,z1,z2,z3,z4⟩,HRR,HS5⟩;clear HCL))
 have k1d:w2.drew.cell? ⟨M,1,none⟩=_:=k1;have kad:w2.drew.cell? ⟨b,k*3+1,none⟩=_:=ka;have krd:w2.drew.cell? ⟨g2,n2,none⟩=_:=kr;have k1e:w2.drew.drew.cell? ⟨M,1,none⟩=_:=k1;have kae:w2.drew.drew.cell? ⟨b,k*3+1,none⟩=_:=ka;have kre:w2.drew.drew.cell? ⟨g2,n2,none⟩=_:=kr;go_region_held_law (λw'=>w'.cell? ⟨M,1,none⟩=some (.slice (some ⟨g,0,none⟩) n' c')∧w'.cell? ⟨b,k*3+1,none⟩=some (.int .i64 (j:Int))∧w'.cell? ⟨g2,n2,none⟩=some (.int .i32 (r:Int))) (first|(with_reducible exact⟨k1d,kad,krd⟩)|(with_reducible exact⟨k1e,kae,kre⟩)|(exact HS5.out))
  (first
   |(go_at_call 99;refine(HTP.out _ rfl).mono ?_;rintro e w3 ⟨rfl,rfl⟩))
 all_goals(try go_wp2)
 all_goals
  refine bE ?_;first|exact HRR.out|exact HRR.out.drew|exact HRR.out.drew.drew
end Go.Proofs.YtahmgjjgikgpoaaGreatDoor

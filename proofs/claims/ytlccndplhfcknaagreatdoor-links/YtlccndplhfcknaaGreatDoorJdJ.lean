import Derived.Test.YtlccndplhfcknaaGreatDoorJcJ
set_option maxRecDepth 100000
set_option maxHeartbeats 4000000
namespace Go.Proofs.YtlccndplhfcknaaGreatDoor
open Go.RowKit Go.Sort
structure GiS (w wx:World) (v nv:Value) (ns:List Int) (gs:List LGlob):Prop where
 go:GoS w wx v gs
 nu:NumsX (λb=>w.heap.size<=b∧b<wx.heap.size∧v.ownBlock≠some b) wx nv ns
theorem own_lt{w:World}{B:Nat}{e:TypeId}{size n b:Nat}{v:Value}{xs:List Value}(h:w.ownsRow B e size v n xs)(hv:v.ownBlock=some b):b<w.heap.size:=by
 rcases h.2 with⟨h1,-⟩|⟨g,cap,cur,hv',-,hg',-⟩
 ·rw[h1]at hv;cases hv
 ·rw[hv']at hv;obtain rfl:g=b:=by simpa[Value.ownBlock]using hv
  exact(Array.getElem?_eq_some_iff.1 hg').1
theorem cdI_sub{n:Nat}{i:LIns}(h:GoodI n i){m:Nat}(e:n=m):GoodI m i:=e▸h
theorem globalsOf_any(Os:List LObj)(v:Value)(b0 n0:Nat)(f:ByteArray->Option (Nat×Int))(w:World)(h:ObjsAt w v Os)(hM:XM w b0 n0 f)(hF:Few Os)(hS:Shrt Os)(hn:gBase Os Os.length<=200000)(hG:∀O∈Os,∀g∈O.globs,∀i∈g.code,GoodI (O.imps.length+O.globs.length) i):
 Calls Tryz.prog 26 #[v,.map (some b0)] w λe w'=>Below w.heap.size w w'∧∃p n c,e=.returned (.slice p n c)∧MGAt w.heap.size w' (.slice p n c) (gofF f Os 0):=by
 obtain⟨ii,hii,hij⟩:=Option.map_eq_some_iff.1 Tryz.mGlobI;simp only[Prod.mk.injEq]at hij;obtain⟨hi0,hi1,hi2⟩:=hij;obtain⟨p,cap,rfl,hs,hI⟩:=h;have HI:Hid (∀w',Below w.heap.size w w'->ObjsIn w' p Os):=λw' hb=>hI.keep hb;have HF:=hid hF;have hn8:=hF.n;have HM:=hid (λw' (hb:Below w.heap.size w w')=>hM.keep hb);have HSH:=hid hS;have HGG:=hid hG;have HGB:Hid (∀k,k<=Os.length->gBase Os k<=200000):=λk hk=>by
  refine Nat.le_trans ?_ hn;have:=gofF_len f (Os.take k) 0;have e2:=gofF_len f (Os.take k++Os.drop k) 0;rw[gofF_app,List.length_append,List.take_append_drop]at e2;unfold gBase;rw[List.take_length];omega
 clear hI hF hM hS hG hn hs;go_enter Tryz.func26,Tryz.ntmps26;go_wp2;go_loopw [5,13] (λcv kv wr=>∃(k:Nat) (vp:Option Addr) (vc:Nat),k<=Os.length∧cv=.slice vp (gBase Os k) vc∧kv=.int .i64 (k:Int)∧Hid (GoS w wr (.slice vp (gBase Os k) vc) (gofF f (Os.take k) 0))) (λ_ kv _=>Os.length-(intOf kv).toNat)
 case atStart=>exact⟨0,none,0,Nat.zero_le _,rfl,rfl,Below.refl _ _,[],rfl,World.ownsRow_nil _ _ _ _,λx hx=>by cases hx⟩
 case round=>
  obtain⟨k,vp,vc,hk,rfl,rfl,HS⟩:=hrel;rename World=>wr
  by_cases hlt:k<Os.length
  ·have h0:(0:Int)<=(k:Int):=by omega
   have h1:(k:Int)<(Os.length:Int):=by omega
   obtain⟨b,o,ip,ic,gp,gc,rfl,c0,c1,c2,hO⟩:=(HI.out _ (Below.refl _ _)).cells hlt;replace c0:=cell_keep HS.out.low c0
   replace c1:=cell_keep HS.out.low c1
   replace c2:=cell_keep HS.out.low c2
   obtain⟨gp',gc',e,hgl,hgi⟩:=hO.globs.2.open;cases e;have HGI:=hid hgi;have hgb:=HGB.out k (by omega);have hgb2:=HGB.out (k+1) (by omega);have HGS:=hid (gBase_succ hlt);rw[gBase_succ hlt]at hgb2;have HT:=hid (gofF_take (f:=f) hlt);have hzw:=HS.out.low.size;have HNO:=hid (λX (hb:Below w.heap.size w X)=>numbersOf_any Os[k] _ (gBase Os k) b0 n0 f X (hO.keep hb) (HM.out X hb) (HF.out.g _ (List.getElem_mem _)).2 (by omega) hgb);have HSK:=hid (HSH.out Os[k] (List.getElem_mem _));have HGK:=hid (HGG.out Os[k] (List.getElem_mem _));have HNL:=hid (nums_len f Os[k] (gBase Os k));have HLW:=hid HS.out.low;have HGO:=hid HS.out;clear hgi hO HS;generalize hns:nums f Os[k] (gBase Os k)=ns at*;have HNS:=hid hns;generalize hm:gBase Os k=m at*;have HMM:=hid hm;generalize hgl2:Os[k].globs=gl at*;have HGL:=hid hgl2;generalize Os[k].name=onm at*;generalize Os[k].imps.length=iml at*;clear hgl2 hns hm;go_wp2_with (first
    |(go_at_call 38;refine(HNO.out _ (HLW.out.alloc hzw _)).mono ?_;rintro e w1 ⟨hb1,np,nn,nc,rfl,hnu⟩;have hq2:=cell_keep hb1 (alloc_cell wr #[.string onm,.slice ip iml ic,.slice gp gl.length gc] 44 2 _ rfl);have HB1:=hid (((Below.refl _ _).alloc (Nat.le_refl _) _).trans (hb1.mono (by simp)):Below wr.heap.size wr w1);have HNU:=hid hnu;clear hb1 hnu))
   have HI0:Hid (GiS w w1 (.slice vp m vc) (.slice np nn nc) ns (gofF f (Os.take k) 0)):=by
    obtain⟨hl,L,l1,l2,l3⟩:=id HGO.out;refine⟨HGO.out.keep HB1.out,HNU.out.fr λq hq hql=>⟨⟨?_,hql,λe=>?_⟩,rfl⟩⟩
    ·simp at hq;omega
    ·have:=own_lt l2 e;simp at hq;omega
   clear HNU HNO hq2;go_loopw [5,25] (λcv jv wx=>∃(j:Nat) (vp2:Option Addr) (vc2:Nat),j<=gl.length∧cv=.slice vp2 (m+j) vc2∧jv=.int .i64 (j:Int)∧Hid (GiS w wx (.slice vp2 (m+j) vc2) (.slice np nn nc) ns (gofF f (Os.take k) 0++(gl.take j).map (cdG ns)))) (λ_ jv _=>gl.length-(intOf jv).toNat)
   case atStart=>exact⟨0,vp,vc,Nat.zero_le _,rfl,rfl,by show GiS _ _ _ _ _ _;simpa using HI0.out⟩
   case round=>
    clear HI0 HGO;obtain⟨j,vp2,vc2,hj,rfl,rfl,HX⟩:=hrel;rename World=>wx
    by_cases hjt:j<gl.length
    ·have j0:(0:Int)<=(j:Int):=by omega
     have j1:(j:Int)<(gl.length:Int):=by omega
     have HLX:=hid HX.out.go.low;have hzx:=HX.out.go.low.size;obtain⟨gb,go,cp,cn,cc,rfl,g0,g1,g2,g3,hC,hnl⟩:=HGI.out _ HX.out.go.low j hjt;obtain⟨hl,L,l1,l2,l3⟩:=id HX.out.go;have hLl:L.length=m+j:=by
      have:=congrArg List.length l1;rw[List.length_map,List.length_append,List.length_map,List.length_take,gofF_len,Nat.min_eq_left (by omega)]at this;have e2:((Os.take k).map λO=>O.globs.length).sum=m:=HMM.out;omega
     have HCO:Hid (∀X,Below wx.heap.size wx X->Calls Tryz.prog 39 #[.slice cp cn cc,.slice np nn nc] X λe w'=>Below X.heap.size X w'∧∃B,e=.returned (.slice (some ⟨B,0,none⟩) gl[j].code.length gl[j].code.length)∧MC X.heap.size w' (.slice (some ⟨B,0,none⟩) gl[j].code.length gl[j].code.length) (cdG ns gl[j]).code):=(λX (hb:Below wx.heap.size wx X)=>codeOf_any gl[j].code _ ns _ X (hC.keep hb) (HX.out.nu.at.keep hb) (HSK.out gl[j] (List.getElem_mem _)) (λi hi=>cdI_sub (HGK.out gl[j] (List.getElem_mem _) i hi) HNL.out.symm));obtain⟨cp',cc',e,-,-⟩:=hC.open;have hcn:cn=gl[j].code.length:=by injection e
     have HTJ:Hid ((gl.take (j+1)).map (cdG ns)=(gl.take j).map (cdG ns)++[cdG ns gl[j]]):=by
      show _=_;rw[List.take_succ_eq_append_getElem hjt,List.map_append];rfl
     have HNXT:Hid (∀Z w2 cv G c,Below wx.heap.size wx Z->MCx (λb=>wx.heap.size<=b∧b<Z.heap.size) Z cv (cdG ns gl[j]).code->Z.grownBy w2 (Value.slice vp2 (m+j) vc2).ownBlock->((Value.slice vp2 (m+j) vc2).ownBlock=some G∨G=Z.heap.size)->w2.ownsRow w.heap.size 116 2 (.slice (some ⟨G,0,none⟩) (m+j+1) c) (m+j+1) (L.flatMap mgC++[.int .i64 gl[j].arity,cv])->GiS w w2 (.slice (some ⟨G,0,none⟩) (m+j+1) c) (.slice np nn nc) ns (gofF f (Os.take k) 0++(gl.take (j+1)).map (cdG ns))):=by
      intro Z w2 cv G c hb hc hg hat hown;refine⟨?_,HX.out.nu.fr λq ⟨q1,q2,q3⟩ hql=>⟨⟨q1,?_,?_⟩,?_⟩⟩
      ·rw[HTJ.out,<-List.append_assoc];exact GoS.next hl l1 l2 l3 hb hc hg hat hLl.symm hown
      ·have:=hb.size;have:=hg.size;omega
      ·intro e2;obtain rfl:G=q:=by simpa[Value.ownBlock]using e2
       rcases hat with h|h
       ·exact q3 h
       ·have:=hb.size;omega
      ·rw[hg.block q (by have:=hb.size;omega) (λe=>q3 e.symm)];exact hb.block q hql
     have HOW:=hid l2;rw[hLl]at HOW;have HOL:=hid (λq (e:(Value.slice vp2 (m+j) vc2).ownBlock=some q)=>own_lt l2 e);clear hC e hl l1 l2 l3 HX;subst hcn;generalize (cdG ns gl[j]).code=mc at*;generalize gl[j].code.length=cl at*;generalize gl[j].name=nm at*;generalize gl[j].arity=ar at*;generalize gl[j].exp=ex at*;generalize L.flatMap mgC=XS at*;go_upto_region 9 with fail
     obtain⟨W1,hW1⟩:∃W1,W1=wx.alloc (.cells #[.string nm,.int .i64 ar,.bool ex,.slice cp cl cc] 40):=⟨_,rfl⟩;have hb1:Below wx.heap.size wx W1:=by rw[hW1];exact(Below.refl _ _).alloc (Nat.le_refl _) _
     have hz1:W1.heap.size=wx.heap.size+1:=by rw[hW1];simp
     have t1:W1.drew.cell? ⟨wx.heap.size,1,none⟩=some (.int .i64 ar):=by
      show W1.cell? _=_;rw[hW1];exact alloc_cell _ _ _ 1 _ rfl
     have t3:W1.drew.cell? ⟨wx.heap.size,3,none⟩=some (.slice cp cl cc):=by
      show W1.cell? _=_;rw[hW1];exact alloc_cell _ _ _ 3 _ rfl
     rw[<-hW1];have HBD:=hid hb1.drew;have HC1:=hid (HCO.out W1.drew hb1.drew);have HZ1:Hid (W1.drew.heap.size=wx.heap.size+1):=hz1;clear hW1 hb1 hz1 HCO g0 g1 g2 g3;go_region_held_law (λw'=>w'.cell? ⟨wx.heap.size,1,none⟩=some (.int .i64 ar)∧w'.cell? ⟨wx.heap.size,3,none⟩=some (.slice cp cl cc)) (refine⟨?_,?_⟩<;>(first|assumption|(exact alloc_old _ _ _ _ _ (by assumption))))
      (first
       |(go_at_call 39;refine HC1.out.mono ?_;rintro e w5 ⟨hb5,B5,rfl,hm5⟩;have q1:=cell_keep hb5 t1;have q3:=cell_keep hb5 t3;have HB5:=hid (HBD.out.trans (hb5.mono (by have:=HZ1.out;omega)):Below wx.heap.size wx w5);have HM5:=hid ((hm5.keep ((Below.refl _ _).alloc (Nat.le_refl _) (.cells #[.int .i64 ar,.slice (some ⟨B5,0,none⟩) cl cl] 116))).x.mono (λb hb=>(⟨by have:=HZ1.out;omega,hb.2⟩:wx.heap.size<=b∧b<_)));have hz5:=HB5.out.size;clear hb5 hm5)
       |(refine step_append_lies _ rfl (.tmp 29) (.tmp 37) 53 rfl w.heap.size 116 ii _ 2 32 Tryz.underlying53 hii hi0 hi1 hi2 rfl (by omega) (.slice vp2 (m+j) vc2) (m+j) XS (by simp[Act.eval];done) ((row_kp HOW.out HB5.out).alloc _) ⟨w5.heap.size,0,none⟩ 1 1 [.int .i64 ar,.slice (some ⟨B5,0,none⟩) cl cl] (by simp[Act.eval];done) rfl (by have h:=World.news_of_block (heap_alloc_new w5 (Obj.cells #[.int .i64 ar,.slice (some ⟨B5,0,none⟩) cl cl] 116));simpa using h) (by intro u hu;simp at hu;rcases hu with rfl|rfl<;>rfl) (by omega) (by unfold maxLen;omega) (by omega) (by simp;omega) _ rfl ?_;intro G1 c1 w7 hown hgrow hat hlt1;have HNX:=hid (HNXT.out _ _ _ _ _ (HB5.out.alloc hz5 _) HM5.out hgrow hat hown);have r1:w7.cell? ⟨wx.heap.size,1,none⟩=some (.int .i64 ar):=(by rw[World.cell?_of_block (a:=⟨wx.heap.size,1,none⟩) (hgrow.block _ (block_lt_of_cell (alloc_old _ _ _ _ _ q1)) (λe=>absurd (HOL.out _ e.symm) (Nat.lt_irrefl _)))];exact alloc_old _ _ _ _ _ q1);have r3:w7.cell? ⟨wx.heap.size,3,none⟩=some (.slice cp cl cc):=(by rw[World.cell?_of_block (a:=⟨wx.heap.size,3,none⟩) (hgrow.block _ (block_lt_of_cell (alloc_old _ _ _ _ _ q3)) (λe=>absurd (HOL.out _ e.symm) (Nat.lt_irrefl _)))];exact alloc_old _ _ _ _ _ q3);clear hown hgrow hat hlt1))
     all_goals(try go_wp2)
     all_goals go_roundw
     all_goals first
      |exact⟨j+1,_,_,by omega,rfl,by go_num,HNX.out⟩
      |(simp[intOf];omega)
    ·obtain rfl:j=gl.length:=by omega
     have hge:¬(gl.length:Int)<(gl.length:Int):=by omega
     go_wp2;go_roundw
     case rel=>exact⟨k+1,vp2,vc2,by omega,by rw[HGS.out],by go_num,by show GoS _ _ _ _;have hg:=HX.out.go;rw[List.take_length]at hg;rw[HT.out,HGS.out];exact hg⟩
     case measure=>simp[intOf];omega
  ·obtain rfl:k=Os.length:=by omega
   have hge:¬(Os.length:Int)<(Os.length:Int):=by omega
   go_wp2;go_ret;have:=HS.out.at;rw[List.take_length]at this;exact⟨HS.out.low,_,_,_,rfl,this⟩
end Go.Proofs.YtlccndplhfcknaaGreatDoor

import Derived.Test.YtlanckgcjijefaaGreatDoorLk4J
import Derived.Test.YtlanckgcjijefaaGreatDoorCd1J
import Derived.Test.YtlanckgcjijefaaGreatDoorCardC1J
set_option maxRecDepth 100000
set_option maxHeartbeats 8000000
namespace Go.Proofs.YtlanckgcjijefaaGreatDoor
open Go.RowKit Go.Sort
def zMod:Value:=.agg #[.string ⟨#[]⟩,.slice none 0 0,.slice none 0 0]
def RdRes(s:ByteArray)(adr:Nat->Addr)(w:World)(e:Ending)(w':World):Prop:=Below w.heap.size w w'∧match pRead s with
 |.error (c,a)=>e=.returned (.tuple #[zMod,pE' adr (kIx c) a])
 |.ok (nm,im,df)=>∃ip n1 c1 dp n2 c2 dfs,e=.returned (.tuple #[.agg #[.string nm,.slice ip n1 c1,.slice dp n2 c2],.nilIface])∧RowI w' w.heap.size (.slice ip n1 c1) im∧RowD w' w.heap.size (.slice dp n2 c2) dfs∧dfs.map dtT=df
theorem ps_start{s:ByteArray}{w:World}{g c:Nat}{lo:Nat}(h:WordsO w lo (.slice (some ⟨g,0,none⟩) (toks s 0).length c) (toks s 0)):PS (w.alloc (.cells #[.slice (some ⟨g,0,none⟩) (toks s 0).length c,.slice none 0 0,.int .i64 0] 61)) w.heap.size g s 0 (.slice none 0 0) 0:=by
 have hb:Below w.heap.size w (w.alloc (.cells #[.slice (some ⟨g,0,none⟩) (toks s 0).length c,.slice none 0 0,.int .i64 0] 61)):=(Below.refl _ _).alloc (Nat.le_refl _) _;have hg:=h.rg g (List.mem_append_left _ (mem_vB.2 rfl));have hown:=h.own;have hcap:(toks s 0).length<=c∧c<=9223372036854775807:=by
  rcases hown.2 with⟨e,-⟩|⟨g',cap,cur,e,-,-,h3,h4,-⟩
  ·cases e
  ·cases e;unfold maxLen at h4;exact⟨h3,by omega⟩
 refine⟨⟨0,c,by simp,hcap.1,hcap.2,by omega,λi hi=>?_⟩,by simp,by simp,λj _=>by simp⟩;have hx:=flat2_at (λx:ByteArray×Nat=>(.string x.1:Value)) (λx=>.int .i64 (x.2:Int)) (toks s 0) i hi;rw[Nat.zero_add];refine⟨cell_keep hb ?_,cell_keep hb ?_⟩
 ·rw[hown.cellAt (i*2) (by omega)];exact hx.1
 ·rw[hown.cellAt (i*2+1) (by omega)];exact hx.2
theorem read_err{s:ByteArray}{e:Nat×Nat}(h:¬2000<s.size)(h1:pMod s 0=.error e):pRead s=.error e:=by unfold pRead;rw[if_neg h,h1]
theorem read_ok{s:ByteArray}{x:ByteArray×List IT×List DD}{q:Nat}(h:¬2000<s.size)(h1:pMod s 0=.ok (x,q))(h2:bst none (mFaults x.2.1 x.2.2)=none):pRead s=.ok x:=by unfold pRead;rw[if_neg h,h1];simp only;rw[h2]
theorem read_bad{s:ByteArray}{x:ByteArray×List IT×List DD}{q:Nat}{e:Nat×Nat}(h:¬2000<s.size)(h1:pMod s 0=.ok (x,q))(h2:bst none (mFaults x.2.1 x.2.2)=some e):pRead s=.error e:=by unfold pRead;rw[if_neg h,h1];simp only;rw[h2]
theorem read_long{s:ByteArray}(h:2000<s.size):pRead s=.error (1,0):=by unfold pRead;rw[if_pos h]
theorem rd_below{w A w1 w3:World}{o:Obj}(h0:Below w.heap.size w A)(h1:Below A.heap.size A w1)(hE:EF w1.heap.size (w1.alloc o) w3):Below w.heap.size w w3:=by
 have hb1:Below w.heap.size w w1:=h0.trans (h1.mono h0.size);have hs1:=hb1.size;refine⟨hE.os.trans hb1.os,hE.tape.trans hb1.tape,hE.output.trans hb1.output,by have:=hE.size;simp at this;omega,λk hk=>?_⟩;rw[hE.block k (by simp;omega) (by omega),heap_alloc_old _ _ (by omega)];exact hb1.block k hk
theorem read_any{s:ByteArray}{adr:Nat->Addr}{w:World}(hE:s.size<=2000->∀B P W,PExprD B P W adr s)(hS:SY w adr):Calls Tryz.prog 7 #[.string s] w λe w'=>RdRes s adr w e w':=by
 obtain⟨w0,hw0⟩:∃w0,w0=w.alloc (.cells #[.string ⟨#[]⟩,.slice none 0 0,.slice none 0 0] 36):=⟨_,rfl⟩;have hb0:Below w.heap.size w w0:=by rw[hw0];exact(Below.refl _ _).alloc (Nat.le_refl _) _
 have HB0:=hid hb0;have hz0:w0.heap.size=w.heap.size+1:=by rw[hw0];simp
 have HV0:Hid (V3 w0 w.heap.size (.string ⟨#[]⟩) (.slice none 0 0) (.slice none 0 0)):=by
  subst hw0;exact⟨by simp,by simp,by simp,λj=>by simp⟩
 have HS0:=hid (hS.keep hb0);by_cases hl:2000<s.size
 ·have HT:Hid (pRead s=.error (1,0)):=read_long hl;have i1:(2000:Int)<(s.size:Int):=by omega
  have lg:=HS0.out.lg;obtain⟨v0,v1,v2,vf⟩:=id HV0.out;have f0:=vf 0;have f1:=vf 1;have f2:=vf 2;rw[hw0]at lg v0 v1 v2 f0 f1 f2;clear hS hb0 vf;go_enter Tryz.func7,Tryz.ntmps7;go_wp2_with (first
   |(go_at_call 13;refine(At_pl _ _ _ _).mono ?_;rintro e w2 ⟨rfl,rfl⟩))
  refine bodyPost_ret (v:=.tuple #[zMod,pE' adr 4 0]) (by simp[results,Tryz.results7,go_sem,zMod,pE']) rfl ?_;rw[<-hw0];refine⟨HB0.out,?_⟩;rw[HT.out];rfl
 ·have i1:¬(2000:Int)<(s.size:Int):=by omega
  have hs:s.size<=2000:=by omega
  have HCUT:Hid (Calls Tryz.prog 14 #[.string s] w0 λe w1=>∃g n c,e=.returned (.slice (some ⟨g,0,none⟩) n c)∧Hid (Below w0.heap.size w0 w1)∧Hid (Calls Tryz.prog 15 #[.pointer (some ⟨w1.heap.size,0,none⟩)] (w1.alloc (.cells #[.slice (some ⟨g,0,none⟩) n c,.slice none 0 0,.int .i64 0] 61)) λe w'=>MdRes w1.heap.size adr (w1.alloc (.cells #[.slice (some ⟨g,0,none⟩) n c,.slice none 0 0,.int .i64 0] 61)) (pMod s 0) e w')):=by
   refine(cut_any s w0 hs).mono ?_;rintro e w1 ⟨hb1,g,c,rfl,hW⟩;refine⟨g,_,c,rfl,hb1,?_⟩;have hb2:Below w1.heap.size w1 (w1.alloc (.cells #[.slice (some ⟨g,0,none⟩) (toks s 0).length c,.slice none 0 0,.int .i64 0] 61)):=(Below.refl _ _).alloc (Nat.le_refl _) _;have hbw:Below w.heap.size w w1:=HB0.out.trans (hb1.mono HB0.out.size);exact module_any (B:=w) hs (hE hs _ _ _) ⟨hS,hbw.trans (hb2.mono hbw.size),hbw.size⟩ (ps_start hW) (Nat.zero_le _)
  have HSW:=hid hS;have HBA:Hid (Below w.heap.size w (w.alloc (.cells #[.string ⟨#[]⟩,.slice none 0 0,.slice none 0 0] 36))):=by rw[<-hw0];exact HB0.out
  have HVA:Hid (V3 (w.alloc (.cells #[.string ⟨#[]⟩,.slice none 0 0,.slice none 0 0] 36)) w.heap.size (.string ⟨#[]⟩) (.slice none 0 0) (.slice none 0 0)):=by rw[<-hw0];exact HV0.out
  have HZA:Hid ((w.alloc (.cells #[.string ⟨#[]⟩,.slice none 0 0,.slice none 0 0] 36)).heap.size=w.heap.size+1):=by rw[<-hw0];exact hz0
  rw[hw0]at HCUT;clear hS hb0 HB0 HV0 HS0 hz0 hw0 w0;match h1:pMod s 0 with
  |.error (c,a)=>
   have HT:Hid (pRead s=.error (c,a)):=read_err hl h1;rw[h1]at HCUT;clear h1;go_enter Tryz.func7,Tryz.ntmps7;go_wp2_with (first
    |(go_at_call 14;refine HCUT.out.mono ?_;rintro e w1 ⟨g,n,cc,rfl,HB1,HMD⟩)
    |(go_at_call 15;refine HMD.out.mono ?_;rintro e w3 ⟨hE3,nm,ip,n1,n2,dp,n3,n4,hee⟩;have HE3:=hid hE3;replace hee:e=.returned (.tuple #[.agg #[.string nm,.slice ip n1 n2,.slice dp n3 n4],.iface 66 (pEb adr (kIx c) a)]):=hee;subst hee;have HV3:=hid ((((HVA.out.keep HB1.out).keep ((Below.refl _ _).alloc (Nat.le_refl _) _)).ef hE3 (by have:=HB1.out.size;have:=HZA.out;omega)).keep ((Below.refl _ _).alloc (Nat.le_refl _) (.cells #[.string nm,.slice ip n1 n2,.slice dp n3 n4] 36)));obtain⟨r0,r1,r2,rf⟩:=id HV3.out;have rf0:=rf 0;have rf1:=rf 1;have rf2:=rf 2;clear hE3 rf))
   obtain⟨s0,s1,s2,-⟩:=HV3.out.put (.string ⟨#[]⟩) (.slice none 0 0) (.slice none 0 0);refine bodyPost_ret (v:=.tuple #[zMod,.iface 66 (pEb adr (kIx c) a)]) (by simp[results,Tryz.results7,go_sem,s0,s1,s2,zMod]) rfl ?_;have hb:=rd_below HBA.out HB1.out HE3.out;refine⟨below_set (below_set (below_set (hb.trans (((Below.refl _ _).alloc (Nat.le_refl _) _).mono hb.size)) (Nat.le_refl _) _) (Nat.le_refl _) _) (Nat.le_refl _) _,?_⟩;rw[HT.out];rfl
  |.ok ((nm,im,df),q)=>
   have hinv:=mod_inv hs (Nat.zero_le _) h1;have HLU:Hid (∀(w1 w3:World) (o:Obj) (iv dv:Value),Below (w.alloc (.cells #[.string ⟨#[]⟩,.slice none 0 0,.slice none 0 0] 36)).heap.size (w.alloc (.cells #[.string ⟨#[]⟩,.slice none 0 0,.slice none 0 0] 36)) w1->EF w1.heap.size (w1.alloc o) w3->∀dfs:List DT,RowI w3 (w1.alloc o).heap.size iv im->RowD w3 (w1.alloc o).heap.size dv dfs->dfs.map dtT=df->∀ob,Calls Tryz.prog 16 #[.agg #[.string nm,iv,dv]] (w3.alloc ob) λe w'=>e=.returned (luV adr (ntF none (mFaults im df)))∧Hid (Below (w3.alloc ob).heap.size (w3.alloc ob) w')):=by
    intro w1 w3 o iv dv hb1 hE3 dfs hI hD hdf ob;have hb:=rd_below HBA.out hb1 hE3;have hbo:Below w3.heap.size w3 (w3.alloc ob):=(Below.refl _ _).alloc (Nat.le_refl _) _;subst hdf;have hok:=hinv.ok;have hlen:=hinv.len;simp only[List.length_map]at hlen;refine(lookUp_any (nm:=nm) (HSW.out.keep (hb.trans (hbo.mono hb.size))) (hI.keep okIt hbo) (hD.keep okFr_dt hbo) (by omega) (by omega) (λx hx=>hok (dtT x) (List.mem_map.2 ⟨x,hx,rfl⟩))).mono ?_;rintro e w' ⟨rfl,h2⟩;exact⟨rfl,h2⟩
   rw[h1]at HCUT;have hnt:=ntF_bst (mFaults im df) none;match h2:bst none (mFaults im df) with
   |none=>
    have HT:Hid (pRead s=.ok (nm,im,df)):=read_ok hl h1 h2;rw[h2]at hnt;rw[show ntF none (mFaults im df)=none from hnt]at HLU;clear h1 h2 hnt hinv;unfold luV at HLU;simp only at HLU;go_enter Tryz.func7,Tryz.ntmps7;go_wp2_with (first
     |(go_at_call 14;refine HCUT.out.mono ?_;rintro e w1 ⟨g,n,cc,rfl,HB1,HMD⟩)
     |(go_at_call 15;refine HMD.out.mono ?_;rintro e w3 ⟨hE3,iv,dv,dfs,hee,hI3,hD3,hdf⟩;obtain⟨ip,c1,rfl⟩:=hI3.slice;obtain⟨dp,c2,rfl⟩:=hD3.slice;subst hee;have HE3:=hid hE3;have HI3:=hid hI3;have HD3:=hid hD3;have HDF:=hid hdf;have HL3:=hid (HLU.out w1 w3 _ _ _ HB1.out hE3 dfs hI3 hD3 hdf);clear hE3 hI3 hD3 hdf)
     |(go_at_call 16;refine(HL3.out _).mono ?_;rintro e w4 ⟨rfl,HB4⟩;have HV4:=hid ((((HVA.out.keep HB1.out).keep ((Below.refl _ _).alloc (Nat.le_refl _) _)).ef HE3.out (by have:=HB1.out.size;have:=HZA.out;omega)).keep (((Below.refl _ _).alloc (Nat.le_refl _) _).trans (HB4.out.mono (by simp))));obtain⟨r0,r1,r2,rf⟩:=id HV4.out;have rf0:=rf 0;have rf1:=rf 1;have rf2:=rf 2;have m0:=cell_keep HB4.out (show(w3.alloc (.cells #[.string nm,.slice ip im.length c1,.slice dp dfs.length c2] 36)).cell? ⟨w3.heap.size,0,none⟩=some (.string nm) by simp);have m1:=cell_keep HB4.out (show(w3.alloc (.cells #[.string nm,.slice ip im.length c1,.slice dp dfs.length c2] 36)).cell? ⟨w3.heap.size,1,none⟩=some (.slice ip im.length c1) by simp);have m2:=cell_keep HB4.out (show(w3.alloc (.cells #[.string nm,.slice ip im.length c1,.slice dp dfs.length c2] 36)).cell? ⟨w3.heap.size,2,none⟩=some (.slice dp dfs.length c2) by simp);clear rf))
    obtain⟨s0,s1,s2,-⟩:=HV4.out.put (.string nm) (.slice ip im.length c1) (.slice dp dfs.length c2);refine bodyPost_ret (v:=.tuple #[.agg #[.string nm,.slice ip im.length c1,.slice dp dfs.length c2],.nilIface]) (by simp[results,Tryz.results7,go_sem,s0,s1,s2]) rfl ?_;have hb:=rd_below HBA.out HB1.out HE3.out;have hbo:Below w3.heap.size w3 w4:=((Below.refl w3.heap.size w3).alloc (Nat.le_refl _) _).trans (HB4.out.mono (by simp));refine⟨below_set (below_set (below_set (hb.trans (hbo.mono hb.size)) (Nat.le_refl _) _) (Nat.le_refl _) _) (Nat.le_refl _) _,?_⟩;rw[HT.out];have hz1:=HB1.out.size;have hza:=HZA.out;have hFF:∀b,b≠w.heap.size->(((w4.setCell ⟨w.heap.size,0,none⟩ (.string nm)).setCell ⟨w.heap.size,1,none⟩ (.slice ip im.length c1)).setCell ⟨w.heap.size,2,none⟩ (.slice dp dfs.length c2)).heap[b]?=w4.heap[b]?:=λb hb=>by rw[Below.heap_setCell _ _ _ _ hb,Below.heap_setCell _ _ _ _ hb,Below.heap_setCell _ _ _ _ hb]
    refine⟨_,_,_,_,_,_,dfs,rfl,?_,?_,HDF.out⟩
    ·refine((HI3.out.keep okIt hbo).fr okIt (by simp) λb hb=>hFF b ?_).low (by simp;omega);have:=(HI3.out.rg b hb).1;simp at this;omega
    ·refine((HD3.out.keep okFr_dt hbo).fr okFr_dt (by simp) λb hb=>hFF b ?_).low (by simp;omega);have:=(HD3.out.rg b hb).1;simp at this;omega
   |some (c,a)=>
    have HT:Hid (pRead s=.error (c,a)):=read_bad hl h1 h2;rw[h2]at hnt;rw[show ntF none (mFaults im df)=some (kIx c,a) from hnt]at HLU;clear h1 h2 hnt hinv;go_enter Tryz.func7,Tryz.ntmps7;go_wp2_with (first
     |(go_at_call 14;refine HCUT.out.mono ?_;rintro e w1 ⟨g,n,cc,rfl,HB1,HMD⟩)
     |(go_at_call 15;refine HMD.out.mono ?_;rintro e w3 ⟨hE3,iv,dv,dfs,hee,hI3,hD3,hdf⟩;obtain⟨ip,c1,rfl⟩:=hI3.slice;obtain⟨dp,c2,rfl⟩:=hD3.slice;subst hee;have HE3:=hid hE3;have HL3:=hid (HLU.out w1 w3 _ _ _ HB1.out hE3 dfs hI3 hD3 hdf);clear hE3 hI3 hD3 hdf)
     |(go_at_call 16;refine(HL3.out _).mono ?_;rintro e w4 ⟨hee,HB4⟩;replace hee:e=.returned (.iface 66 (pEb adr (kIx c) a)):=hee;subst hee;have HV4:=hid ((((HVA.out.keep HB1.out).keep ((Below.refl _ _).alloc (Nat.le_refl _) _)).ef HE3.out (by have:=HB1.out.size;have:=HZA.out;omega)).keep (((Below.refl _ _).alloc (Nat.le_refl _) _).trans (HB4.out.mono (by simp))));obtain⟨r0,r1,r2,rf⟩:=id HV4.out;have rf0:=rf 0;have rf1:=rf 1;have rf2:=rf 2;clear rf))
    obtain⟨s0,s1,s2,-⟩:=HV4.out.put (.string ⟨#[]⟩) (.slice none 0 0) (.slice none 0 0);refine bodyPost_ret (v:=.tuple #[zMod,.iface 66 (pEb adr (kIx c) a)]) (by simp[results,Tryz.results7,go_sem,s0,s1,s2,zMod]) rfl ?_;have hb:=rd_below HBA.out HB1.out HE3.out;have hbo:Below w3.heap.size w3 w4:=((Below.refl w3.heap.size w3).alloc (Nat.le_refl _) _).trans (HB4.out.mono (by simp));refine⟨below_set (below_set (below_set (hb.trans (hbo.mono hb.size)) (Nat.le_refl _) _) (Nat.le_refl _) _) (Nat.le_refl _) _,?_⟩;rw[HT.out];rfl
def pChk(s:ByteArray):Nat×Nat:=match pRead s with
 |.error e=>e
 |.ok _=>(0,0)
theorem read_cd{s:ByteArray}{c a:Nat}(h:pRead s=.error (c,a)):c=1∨c=2∨c=3∨c=4∨c=5:=by
 unfold pRead at h;split at h
 ·cases h;exact Or.inl rfl
 ·match h1:pMod s 0,h with
  |.error (c',a'),h=>
   cases h;have:=cd_mod s 0 c a h1;omega
  |.ok (x,q),h=>
   simp only at h;match h2:bst none (mFaults x.2.1 x.2.2),h with
   |some e,h=>
    cases h;have hm:=((bst_spec _ none).1 _ h2).1;rcases hm with hm|hm
    ·obtain⟨d,hd,h3⟩:=List.mem_flatMap.1 hm;rcases List.mem_append.1 h3 with h4|h4
     ·have:=(fK_mem _ _ _ h4).1;simp only at this;omega
     ·have:=gE_kind _ 31 _ _ _ ((fE_mem _ 31 _ _ _).2 h4);simp only at this;omega
    ·cases hm
theorem kc_ix{c:Nat}(h:c=1∨c=2∨c=3∨c=4∨c=5):kCode (kIx c)=(c:Int):=by
 rcases h with rfl|rfl|rfl|rfl|rfl<;>rfl
theorem kix_in{c:Nat}(h:c=1∨c=2∨c=3∨c=4∨c=5):1<=kIx c∧kIx c<19:=by
 rcases h with rfl|rfl|rfl|rfl|rfl<;>decide
theorem fldPl1(x y:Value)(w:World):Sem.run Tryz.prog (Instr.field 43 (.agg #[x,y]) 1) w=.ok y w:=by kernel_rfl
theorem check_any{s:ByteArray}{adr:Nat->Addr}{w:World}(hE:s.size<=2000->∀B P W,PExprD B P W adr s)(hA:SentAt w adr)(hS:SY w adr):Calls Tryz.prog 4 #[.string s] w λe w'=>Below w.heap.size w w'∧e=.returned (.tuple #[.int .i64 ((pChk s).1:Int),.int .i64 ((pChk s).2:Int)]):=by
 have HR:=hid (read_any (s:=s) hE hS);have HA:=hid hA;have F:=fldPl1;clear hA hS;match h:pRead s with
 |.error (c,a)=>
  have hc:=read_cd h;have HK:Hid (kCode (kIx c)=(c:Int)):=kc_ix hc;have HI:Hid (1<=kIx c∧kIx c<19):=kix_in hc;have HT:Hid (pChk s=(c,a)):=by show _=_;unfold pChk;rw[h]
  have HRD:Hid (Calls Tryz.prog 7 #[.string s] w λe w1=>e=.returned (.tuple #[.agg #[.string ⟨#[]⟩,.slice none 0 0,.slice none 0 0],errF (adr (kIx c)) 0 (a:Int)])∧Hid (Below w.heap.size w w1)):=by
   refine HR.out.mono ?_;rintro e w1 ⟨hb,h2⟩;rw[h]at h2;exact⟨h2,hb⟩
  unfold errF at HRD;clear h HR hc;go_enter Tryz.func4,Tryz.ntmps4;go_wp2_with (first
   |(go_at_call 7;refine HRD.out.mono ?_;rintro e w1 ⟨rfl,HB1⟩)
   |(go_at_call 8;refine(kind_fault (HA.out.keep (HB1.out.trans (((Below.refl w1.heap.size w1).alloc (Nat.le_refl _) _).mono HB1.out.size))) (kIx c) ⟨by have:=HI.out;omega,HI.out.2⟩ 0 (a:Int)).mono ?_;rintro e w2 ⟨rfl,hb2⟩;have HB2:=hid ((HB1.out.trans (((Below.refl w1.heap.size w1).alloc (Nat.le_refl _) _).mono HB1.out.size)).trans (hb2.mono (Nat.le_trans HB1.out.size (by simp))));clear hb2)
   |(go_at_call 9;refine(place_fault (HA.out.keep HB2.out) (adr (kIx c)) 0 (a:Int)).mono ?_;rintro e w3 ⟨rfl,hb3⟩;have HB3:=hid (HB2.out.trans (hb3.mono HB2.out.size));clear hb3))
  refine bodyPost_ret (v:=.tuple #[.int .i64 (kCode (kIx c)),.int .i64 (a:Int)]) (by simp[results,Tryz.results4,go_sem]) rfl ?_;refine⟨HB3.out,?_⟩;rw[HT.out,HK.out]
 |.ok (nm,im,df)=>
  have HT:Hid (pChk s=(0,0)):=by show _=_;unfold pChk;rw[h]
  have HRD:Hid (Calls Tryz.prog 7 #[.string s] w λe w1=>∃ip n1 c1 dp n2 c2,e=.returned (.tuple #[.agg #[.string nm,.slice ip n1 c1,.slice dp n2 c2],.nilIface])∧Hid (Below w.heap.size w w1)):=by
   refine HR.out.mono ?_;rintro e w1 ⟨hb,h2⟩;rw[h]at h2;obtain⟨ip,n1,c1,dp,n2,c2,dfs,h3,-⟩:=h2;exact⟨ip,n1,c1,dp,n2,c2,h3,hb⟩
  clear h HR;go_enter Tryz.func4,Tryz.ntmps4;go_wp2_with (first
   |(go_at_call 7;refine HRD.out.mono ?_;rintro e w1 ⟨ip,n1,c1,dp,n2,c2,rfl,HB1⟩)
   |(go_at_call 8;refine(kind_nil _).mono ?_;rintro e w2 ⟨rfl,rfl⟩)
   |(go_at_call 9;refine(place_nil _).mono ?_;rintro e w3 ⟨rfl,hb3⟩;have HB3:=hid ((HB1.out.trans (((Below.refl w1.heap.size w1).alloc (Nat.le_refl _) _).mono HB1.out.size)).trans (hb3.mono (Nat.le_trans HB1.out.size (by simp))));clear hb3))
  refine bodyPost_ret (v:=.tuple #[.int .i64 0,.int .i64 0]) (by simp[results,Tryz.results4,go_sem]) rfl ?_;refine⟨HB3.out,?_⟩;rw[HT.out];rfl
end Go.Proofs.YtlanckgcjijefaaGreatDoor

import Derived.Test.YtcpcplaeaimmpaaGreatDoorLk4J
import Derived.RegionTactic
import Derived.ChangeAlike
set_option maxRecDepth 100000
set_option maxHeartbeats 8000000
namespace Go.Proofs.YtcpcplaeaimmpaaGreatDoor
open Go.RowKit Go.Sort
def zMod:Value:=.agg #[.string ⟨#[]⟩,.slice none 0 0,.slice none 0 0]
def RdRes(s:ByteArray)(adr:Nat->Addr)(w:World)(e:Ending)(w':World):Prop:=Below w.heap.size w w'∧match pRead s with
 |.error (c,a)=>e=.returned (.tuple #[zMod,pE' adr (kIx c) a])
 |.ok (nm,im,df)=>∃ip n1 c1 dp n2 c2 dfs,e=.returned (.tuple #[.agg #[.string nm,.slice ip n1 c1,.slice dp n2 c2],.nilIface])∧RowI w' w.heap.size (.slice ip n1 c1) im∧RowD w' w.heap.size (.slice dp n2 c2) dfs∧dfs.map dtT=df
theorem ps_start{s:ByteArray}{w:World}{g c:Nat}{lo:Nat}(h:WordsO w lo (.slice (some ⟨g,0,none⟩) (toks s 0).length c) (toks s 0)):PS (w.alloc (.cells #[.slice (some ⟨g,0,none⟩) (toks s 0).length c,.slice none 0 0,.int .i64 0] 107)) w.heap.size g s 0 (.slice none 0 0) 0:=by
 have hb:Below w.heap.size w (w.alloc (.cells #[.slice (some ⟨g,0,none⟩) (toks s 0).length c,.slice none 0 0,.int .i64 0] 107)):=(Below.refl _ _).alloc (Nat.le_refl _) _;have hg:=h.rg g (List.mem_append_left _ (mem_vB.2 rfl));have hown:=h.own;have hcap:(toks s 0).length<=c∧c<=9223372036854775807:=by
  rcases hown.2 with⟨e,-⟩|⟨g',cap,cur,e,-,-,h3,h4,-⟩
  ·cases e
  ·cases e;unfold maxLen at h4;exact⟨h3,by omega⟩
 refine⟨⟨0,c,by simp,hcap.1,hcap.2,by omega,λi hi=>?_⟩,by simp,by simp,λj _=>by simp⟩;have hx:=flat2_at (λx:ByteArray×Nat=>(.string x.1:Value)) (λx=>.int .i64 (x.2:Int)) (toks s 0) i hi;rw[Nat.zero_add];refine⟨cell_keep hb ?_,cell_keep hb ?_⟩
 ·rw[hown.cellAt (i*2) (by omega)];exact hx.1
 ·rw[hown.cellAt (i*2+1) (by omega)];exact hx.2
theorem read_err{s:ByteArray}{e:Nat×Nat}(h:¬2000<s.size)(h1:pMod s 0=.error e):pRead s=.error e:=by unfold pRead;rw[if_neg h,h1]
theorem read_ok{s:ByteArray}{x:ByteArray×List IT×List DD}{q:Nat}(h:¬2000<s.size)(h1:pMod s 0=.ok (x,q))(h2:bst none (mFaults x.2.1 x.2.2)=none):pRead s=.ok x:=by unfold pRead;rw[if_neg h,h1];simp only;rw[h2]
theorem read_bad{s:ByteArray}{x:ByteArray×List IT×List DD}{q:Nat}{e:Nat×Nat}(h:¬2000<s.size)(h1:pMod s 0=.ok (x,q))(h2:bst none (mFaults x.2.1 x.2.2)=some e):pRead s=.error e:=by unfold pRead;rw[if_neg h,h1];simp only;rw[h2]
theorem read_long{s:ByteArray}(h:2000<s.size):pRead s=.error (1,0):=by unfold pRead;rw[if_pos h]
theorem rd_below{w A w1 w3:World}{o:Obj}(h0:Below w.heap.size w A)(h1:Below A.heap.size A w1)(hE:EF w1.heap.size (w1.alloc o) w3):Below w.heap.size w w3:=by
 have hb1:Below w.heap.size w w1:=h0.trans (h1.mono h0.size);have hs1:=hb1.size;refine⟨hE.os.trans hb1.os,hE.tape.trans hb1.tape,hE.output.trans hb1.output,by have:=hE.size;simp at this;omega,λk hk=>?_⟩;rw[hE.block k (by simp;omega) (by omega),heap_alloc_old _ _ (by omega)];exact hb1.block k hk
theorem read_any{s:ByteArray}{adr:Nat->Addr}{w:World}(hE:s.size<=2000->∀B P W,PExprD B P W adr s)(hS:SY w adr):Calls Tryz.prog 21 #[.string s] w λe w'=>RdRes s adr w e w':=by
 obtain⟨w0,hw0⟩:∃w0,w0=w.alloc (.cells #[.string ⟨#[]⟩,.slice none 0 0,.slice none 0 0] 71):=⟨_,rfl⟩;have hb0:Below w.heap.size w w0:=by rw[hw0];exact(Below.refl _ _).alloc (Nat.le_refl _) _
 have HB0:=hid hb0;have hz0:w0.heap.size=w.heap.size+1:=by rw[hw0];simp
 have HV0:Hid (V3 w0 w.heap.size (.string ⟨#[]⟩) (.slice none 0 0) (.slice none 0 0)):=by
  subst hw0;exact⟨by simp,by simp,by simp,λj=>by simp⟩
 have HS0:=hid (hS.keep hb0);by_cases hl:2000<s.size
 ·have HT:Hid (pRead s=.error (1,0)):=read_long hl;have i1:(2000:Int)<(s.size:Int):=by omega
  have lg:=HS0.out.lg;obtain⟨v0,v1,v2,vf⟩:=id HV0.out;have f0:=vf 0;have f1:=vf 1;have f2:=vf 2;rw[hw0]at lg v0 v1 v2 f0 f1 f2;clear hS hb0 vf;go_enter Tryz.func21,Tryz.ntmps21;go_wp2_with (first
   |(go_at_call 24;refine(At_pl _ _ _ _).mono ?_;rintro e w2 ⟨rfl,rfl⟩))
  refine bodyPost_ret (v:=.tuple #[zMod,pE' adr 4 0]) (by simp[results,Tryz.results21,go_sem,zMod,pE']) rfl ?_;rw[<-hw0];refine⟨HB0.out,?_⟩;rw[HT.out];rfl
 ·have i1:¬(2000:Int)<(s.size:Int):=by omega
  have hs:s.size<=2000:=by omega
  have HCUT:Hid (Calls Tryz.prog 33 #[.string s] w0 λe w1=>∃g n c,e=.returned (.slice (some ⟨g,0,none⟩) n c)∧Hid (Below w0.heap.size w0 w1)∧Hid (Calls Tryz.prog 34 #[.pointer (some ⟨w1.heap.size,0,none⟩)] (w1.alloc (.cells #[.slice (some ⟨g,0,none⟩) n c,.slice none 0 0,.int .i64 0] 107)) λe w'=>MdRes w1.heap.size adr (w1.alloc (.cells #[.slice (some ⟨g,0,none⟩) n c,.slice none 0 0,.int .i64 0] 107)) (pMod s 0) e w')):=by
   refine(cut_any s w0 hs).mono ?_;rintro e w1 ⟨hb1,g,c,rfl,hW⟩;refine⟨g,_,c,rfl,hb1,?_⟩;have hb2:Below w1.heap.size w1 (w1.alloc (.cells #[.slice (some ⟨g,0,none⟩) (toks s 0).length c,.slice none 0 0,.int .i64 0] 107)):=(Below.refl _ _).alloc (Nat.le_refl _) _;have hbw:Below w.heap.size w w1:=HB0.out.trans (hb1.mono HB0.out.size);exact module_any (B:=w) hs (hE hs _ _ _) ⟨hS,hbw.trans (hb2.mono hbw.size),hbw.size⟩ (ps_start hW) (Nat.zero_le _)
  have HSW:=hid hS;have HBA:Hid (Below w.heap.size w (w.alloc (.cells #[.string ⟨#[]⟩,.slice none 0 0,.slice none 0 0] 71))):=by rw[<-hw0];exact HB0.out
  have HVA:Hid (V3 (w.alloc (.cells #[.string ⟨#[]⟩,.slice none 0 0,.slice none 0 0] 71)) w.heap.size (.string ⟨#[]⟩) (.slice none 0 0) (.slice none 0 0)):=by rw[<-hw0];exact HV0.out
  have HZA:Hid ((w.alloc (.cells #[.string ⟨#[]⟩,.slice none 0 0,.slice none 0 0] 71)).heap.size=w.heap.size+1):=by rw[<-hw0];exact hz0
  rw[hw0]at HCUT;clear hS hb0 HB0 HV0 HS0 hz0 hw0 w0;match h1:pMod s 0 with
  |.error (c,a)=>
   have HT:Hid (pRead s=.error (c,a)):=read_err hl h1;rw[h1]at HCUT;clear h1;go_enter Tryz.func21,Tryz.ntmps21;go_wp2_with (first
    |(go_at_call 33;refine HCUT.out.mono ?_;rintro e w1 ⟨g,n,cc,rfl,HB1,HMD⟩)
    |(go_at_call 34;refine HMD.out.mono ?_;rintro e w3 ⟨hE3,nm,ip,n1,n2,dp,n3,n4,hee⟩;have HE3:=hid hE3;replace hee:e=.returned (.tuple #[.agg #[.string nm,.slice ip n1 n2,.slice dp n3 n4],.iface 81 (pEb adr (kIx c) a)]):=hee;subst hee;have HV3:=hid ((((HVA.out.keep HB1.out).keep ((Below.refl _ _).alloc (Nat.le_refl _) _)).ef hE3 (by have:=HB1.out.size;have:=HZA.out;omega)).keep ((Below.refl _ _).alloc (Nat.le_refl _) (.cells #[.string nm,.slice ip n1 n2,.slice dp n3 n4] 71)));obtain⟨r0,r1,r2,rf⟩:=id HV3.out;have rf0:=rf 0;have rf1:=rf 1;have rf2:=rf 2;clear hE3 rf))
   obtain⟨s0,s1,s2,-⟩:=HV3.out.put (.string ⟨#[]⟩) (.slice none 0 0) (.slice none 0 0);refine bodyPost_ret (v:=.tuple #[zMod,.iface 81 (pEb adr (kIx c) a)]) (by simp[results,Tryz.results21,go_sem,s0,s1,s2,zMod]) rfl ?_;have hb:=rd_below HBA.out HB1.out HE3.out;refine⟨below_set (below_set (below_set (hb.trans (((Below.refl _ _).alloc (Nat.le_refl _) _).mono hb.size)) (Nat.le_refl _) _) (Nat.le_refl _) _) (Nat.le_refl _) _,?_⟩;rw[HT.out];rfl
  |.ok ((nm,im,df),q)=>
   have hinv:=mod_inv hs (Nat.zero_le _) h1;have HLU:Hid (∀(w1 w3:World) (o:Obj) (iv dv:Value),Below (w.alloc (.cells #[.string ⟨#[]⟩,.slice none 0 0,.slice none 0 0] 71)).heap.size (w.alloc (.cells #[.string ⟨#[]⟩,.slice none 0 0,.slice none 0 0] 71)) w1->EF w1.heap.size (w1.alloc o) w3->∀dfs:List DT,RowI w3 (w1.alloc o).heap.size iv im->RowD w3 (w1.alloc o).heap.size dv dfs->dfs.map dtT=df->∀ob,Calls Tryz.prog 35 #[.agg #[.string nm,iv,dv]] (w3.alloc ob) λe w'=>e=.returned (luV adr (ntF none (mFaults im df)))∧Hid (Below (w3.alloc ob).heap.size (w3.alloc ob) w')):=by
    intro w1 w3 o iv dv hb1 hE3 dfs hI hD hdf ob;have hb:=rd_below HBA.out hb1 hE3;have hbo:Below w3.heap.size w3 (w3.alloc ob):=(Below.refl _ _).alloc (Nat.le_refl _) _;subst hdf;have hok:=hinv.ok;have hlen:=hinv.len;simp only[List.length_map]at hlen;refine(lookUp_any (nm:=nm) (HSW.out.keep (hb.trans (hbo.mono hb.size))) (hI.keep okIt hbo) (hD.keep okFr_dt hbo) (by omega) (by omega) (λx hx=>hok (dtT x) (List.mem_map.2 ⟨x,hx,rfl⟩))).mono ?_;rintro e w' ⟨rfl,h2⟩;exact⟨rfl,h2⟩
   rw[h1]at HCUT;have hnt:=ntF_bst (mFaults im df) none;match h2:bst none (mFaults im df) with
   |none=>
    have HT:Hid (pRead s=.ok (nm,im,df)):=read_ok hl h1 h2;rw[h2]at hnt;rw[show ntF none (mFaults im df)=none from hnt]at HLU;clear h1 h2 hnt hinv;unfold luV at HLU;simp only at HLU;go_enter Tryz.func21,Tryz.ntmps21;go_wp2_with (first
     |(go_at_call 33;refine HCUT.out.mono ?_;rintro e w1 ⟨g,n,cc,rfl,HB1,HMD⟩)
     |(go_at_call 34;refine HMD.out.mono ?_;rintro e w3 ⟨hE3,iv,dv,dfs,hee,hI3,hD3,hdf⟩;obtain⟨ip,c1,rfl⟩:=hI3.slice;obtain⟨dp,c2,rfl⟩:=hD3.slice;subst hee;have HE3:=hid hE3;have HI3:=hid hI3;have HD3:=hid hD3;have HDF:=hid hdf;have HL3:=hid (HLU.out w1 w3 _ _ _ HB1.out hE3 dfs hI3 hD3 hdf);clear hE3 hI3 hD3 hdf)
     |(go_at_call 35;refine(HL3.out _).mono ?_;rintro e w4 ⟨rfl,HB4⟩;have HV4:=hid ((((HVA.out.keep HB1.out).keep ((Below.refl _ _).alloc (Nat.le_refl _) _)).ef HE3.out (by have:=HB1.out.size;have:=HZA.out;omega)).keep (((Below.refl _ _).alloc (Nat.le_refl _) _).trans (HB4.out.mono (by simp))));obtain⟨r0,r1,r2,rf⟩:=id HV4.out;have rf0:=rf 0;have rf1:=rf 1;have rf2:=rf 2;have m0:=cell_keep HB4.out (show(w3.alloc (.cells #[.string nm,.slice ip im.length c1,.slice dp dfs.length c2] 71)).cell? ⟨w3.heap.size,0,none⟩=some (.string nm) by simp);have m1:=cell_keep HB4.out (show(w3.alloc (.cells #[.string nm,.slice ip im.length c1,.slice dp dfs.length c2] 71)).cell? ⟨w3.heap.size,1,none⟩=some (.slice ip im.length c1) by simp);have m2:=cell_keep HB4.out (show(w3.alloc (.cells #[.string nm,.slice ip im.length c1,.slice dp dfs.length c2] 71)).cell? ⟨w3.heap.size,2,none⟩=some (.slice dp dfs.length c2) by simp);clear rf))
    obtain⟨s0,s1,s2,-⟩:=HV4.out.put (.string nm) (.slice ip im.length c1) (.slice dp dfs.length c2);refine bodyPost_ret (v:=.tuple #[.agg #[.string nm,.slice ip im.length c1,.slice dp dfs.length c2],.nilIface]) (by simp[results,Tryz.results21,go_sem,s0,s1,s2]) rfl ?_;have hb:=rd_below HBA.out HB1.out HE3.out;have hbo:Below w3.heap.size w3 w4:=((Below.refl w3.heap.size w3).alloc (Nat.le_refl _) _).trans (HB4.out.mono (by simp));refine⟨below_set (below_set (below_set (hb.trans (hbo.mono hb.size)) (Nat.le_refl _) _) (Nat.le_refl _) _) (Nat.le_refl _) _,?_⟩;rw[HT.out];have hz1:=HB1.out.size;have hza:=HZA.out;have hFF:∀b,b≠w.heap.size->(((w4.setCell ⟨w.heap.size,0,none⟩ (.string nm)).setCell ⟨w.heap.size,1,none⟩ (.slice ip im.length c1)).setCell ⟨w.heap.size,2,none⟩ (.slice dp dfs.length c2)).heap[b]?=w4.heap[b]?:=λb hb=>by rw[Below.heap_setCell _ _ _ _ hb,Below.heap_setCell _ _ _ _ hb,Below.heap_setCell _ _ _ _ hb]
    refine⟨_,_,_,_,_,_,dfs,rfl,?_,?_,HDF.out⟩
    ·refine((HI3.out.keep okIt hbo).fr okIt (by simp) λb hb=>hFF b ?_).low (by simp;omega);have:=(HI3.out.rg b hb).1;simp at this;omega
    ·refine((HD3.out.keep okFr_dt hbo).fr okFr_dt (by simp) λb hb=>hFF b ?_).low (by simp;omega);have:=(HD3.out.rg b hb).1;simp at this;omega
   |some (c,a)=>
    have HT:Hid (pRead s=.error (c,a)):=read_bad hl h1 h2;rw[h2]at hnt;rw[show ntF none (mFaults im df)=some (kIx c,a) from hnt]at HLU;clear h1 h2 hnt hinv;go_enter Tryz.func21,Tryz.ntmps21;go_wp2_with (first
     |(go_at_call 33;refine HCUT.out.mono ?_;rintro e w1 ⟨g,n,cc,rfl,HB1,HMD⟩)
     |(go_at_call 34;refine HMD.out.mono ?_;rintro e w3 ⟨hE3,iv,dv,dfs,hee,hI3,hD3,hdf⟩;obtain⟨ip,c1,rfl⟩:=hI3.slice;obtain⟨dp,c2,rfl⟩:=hD3.slice;subst hee;have HE3:=hid hE3;have HL3:=hid (HLU.out w1 w3 _ _ _ HB1.out hE3 dfs hI3 hD3 hdf);clear hE3 hI3 hD3 hdf)
     |(go_at_call 35;refine(HL3.out _).mono ?_;rintro e w4 ⟨hee,HB4⟩;replace hee:e=.returned (.iface 81 (pEb adr (kIx c) a)):=hee;subst hee;have HV4:=hid ((((HVA.out.keep HB1.out).keep ((Below.refl _ _).alloc (Nat.le_refl _) _)).ef HE3.out (by have:=HB1.out.size;have:=HZA.out;omega)).keep (((Below.refl _ _).alloc (Nat.le_refl _) _).trans (HB4.out.mono (by simp))));obtain⟨r0,r1,r2,rf⟩:=id HV4.out;have rf0:=rf 0;have rf1:=rf 1;have rf2:=rf 2;clear rf))
    obtain⟨s0,s1,s2,-⟩:=HV4.out.put (.string ⟨#[]⟩) (.slice none 0 0) (.slice none 0 0);refine bodyPost_ret (v:=.tuple #[zMod,.iface 81 (pEb adr (kIx c) a)]) (by simp[results,Tryz.results21,go_sem,s0,s1,s2,zMod]) rfl ?_;have hb:=rd_below HBA.out HB1.out HE3.out;have hbo:Below w3.heap.size w3 w4:=((Below.refl w3.heap.size w3).alloc (Nat.le_refl _) _).trans (HB4.out.mono (by simp));refine⟨below_set (below_set (below_set (hb.trans (hbo.mono hb.size)) (Nat.le_refl _) _) (Nat.le_refl _) _) (Nat.le_refl _) _,?_⟩;rw[HT.out];rfl
def CD{α:Type}(r:Nat->Pr α):Prop:=∀p c a,r p=.error (c,a)->c=2∨c=3∨c=5
theorem cd_want(s t:ByteArray):CD (pWant s t):=by
 intro p c a h;unfold pWant at h;split at h<;>cases h;decide
theorem cd_name(s:ByteArray):CD (pName s):=by
 intro p c a h;unfold pName at h;split at h<;>cases h;decide
theorem cd_tag(s:ByteArray)(m:Nat):CD (pTag s m):=by
 intro p c a h;unfold pTag at h;split at h
 ·split at h<;>cases h;decide
 ·cases h;decide
theorem cd_atom(s:ByteArray):CD (pAtom s):=by
 intro p c a h;unfold pAtom at h;split at h
 ·cases h
 ·split at h<;>cases h;decide
theorem cd_namesL(s:ByteArray):∀(f:Nat) (got:Nms),CD (pNamesL s f got)
 |0,_=>λp c a h=>by rw[pNamesL]at h;cases h;decide
 |f+1,got=>λp c a h=>by
  rw[pNamesL]at h;split at h
  ·cases h
  ·rcases pb_einv h with h1|⟨y,q,h1,h2⟩
   ·exact cd_name s p c a h1
   ·split at h2
    ·cases h2;decide
    ·exact cd_namesL s f _ q c a h2
theorem cd_names(s:ByteArray):CD (pNames s):=by
 intro p c a h;rcases pb_einv h with h1|⟨y,q,h1,h2⟩
 ·exact cd_want s _ p c a h1
 ·exact cd_namesL s _ _ q c a h2
section
variable {s:ByteArray} {E:Nat->Pr Ex} (hZ:CD E)
include hZ
theorem cd_more:∀(f:Nat) (got:List Ex),CD (pMore s E f got)
 |0,_=>λp c a h=>by rw[pMore]at h;cases h;decide
 |f+1,got=>λp c a h=>by
  rw[pMore]at h;split at h
  ·cases h
  ·rcases pb_einv h with h1|⟨y,q,h1,h2⟩
   ·exact hZ p c a h1
   ·exact cd_more f _ q c a h2
theorem cd_fields:∀(f:Nat) (got:List Ex),CD (pFields s E f got)
 |0,_=>λp c a h=>by rw[pFields]at h;cases h;decide
 |f+1,got=>λp c a h=>by
  rw[pFields]at h;split at h
  ·cases h
  ·split at h
   ·cases h;decide
   ·rcases pb_einv h with h1|⟨y,q,h1,h2⟩
    ·exact hZ p c a h1
    ·exact cd_fields f _ q c a h2
theorem cd_binds:∀(f:Nat) (ns:Nms) (es:List Ex),CD (pBinds s E f ns es)
 |0,_,_=>λp c a h=>by rw[pBinds]at h;cases h;decide
 |f+1,ns,es=>λp c a h=>by
  rw[pBinds]at h;rcases pb_einv h with h1|⟨y1,q1,h1,h⟩
  ·exact cd_want s _ p c a h1
  rcases pb_einv h with h1|⟨y2,q2,h1,h⟩
  ·exact cd_name s q1 c a h1
  split at h
  ·cases h;decide
  rcases pb_einv h with h1|⟨y3,q3,h1,h⟩
  ·exact hZ q2 c a h1
  rcases pb_einv h with h1|⟨y4,q4,h1,h⟩
  ·exact cd_want s _ q3 c a h1
  split at h
  ·cases h
  ·exact cd_binds f _ _ q4 c a h
theorem cd_brs:∀(f:Nat) (got:List (Nat×Nms×Ex)),CD (pBrs s E f got)
 |0,_=>λp c a h=>by rw[pBrs]at h;cases h;decide
 |f+1,got=>λp c a h=>by
  rw[pBrs]at h;rcases pb_einv h with h1|⟨y1,q1,h1,h⟩
  ·exact cd_want s _ p c a h1
  rcases pb_einv h with h1|⟨y2,q2,h1,h⟩
  ·exact cd_tag s _ q1 c a h1
  split at h
  ·cases h;decide
  rcases pb_einv h with h1|⟨y3,q3,h1,h⟩
  ·exact cd_names s q2 c a h1
  rcases pb_einv h with h1|⟨y4,q4,h1,h⟩
  ·exact hZ q3 c a h1
  rcases pb_einv h with h1|⟨y5,q5,h1,h⟩
  ·exact cd_want s _ q4 c a h1
  split at h
  ·cases h
  ·exact cd_brs f _ q5 c a h
theorem cd_lets(r:Bool):CD (pLets s E r):=by
 intro p c a h;rcases pb_einv h with h1|⟨y1,q1,h1,h⟩
 ·exact cd_want s _ p c a h1
 rcases pb_einv h with h1|⟨y2,q2,h1,h⟩
 ·exact cd_binds hZ _ _ _ q1 c a h1
 rcases pb_einv h with h1|⟨y3,q3,h1,h⟩
 ·exact cd_want s _ q2 c a h1
 rcases pb_einv h with h1|⟨y4,q4,h1,h⟩
 ·exact hZ q3 c a h1
 cases h
theorem cd_con:CD (pCon s E):=by
 intro p c a h;rcases pb_einv h with h1|⟨y1,q1,h1,h⟩
 ·exact cd_tag s _ p c a h1
 rcases pb_einv h with h1|⟨y2,q2,h1,h⟩
 ·exact cd_fields hZ _ _ q1 c a h1
 cases h
theorem cd_case:CD (pCase s E):=by
 intro p c a h;rcases pb_einv h with h1|⟨y1,q1,h1,h⟩
 ·exact hZ p c a h1
 rcases pb_einv h with h1|⟨y2,q2,h1,h⟩
 ·exact cd_brs hZ _ _ q1 c a h1
 cases h
theorem cd_call:CD (pCall s E):=by
 intro p c a h;rcases pb_einv h with h1|⟨y1,q1,h1,h⟩
 ·exact hZ p c a h1
 rcases pb_einv h with h1|⟨y2,q2,h1,h⟩
 ·exact hZ q1 c a h1
 rcases pb_einv h with h1|⟨y3,q3,h1,h⟩
 ·exact cd_more hZ _ _ q2 c a h1
 cases h
theorem cd_form:CD (pForm s E):=by
 intro p c a h;unfold pForm at h;split at h
 ·rcases pb_einv h with h1|⟨y1,q1,h1,h⟩
  ·exact hZ _ c a h1
  rcases pb_einv h with h1|⟨y2,q2,h1,h⟩
  ·exact hZ q1 c a h1
  cases h
 ·split at h
  ·exact cd_lets hZ _ _ c a h
  ·split at h
   ·exact cd_lets hZ _ _ c a h
   ·split at h
    ·exact cd_con hZ _ c a h
    ·split at h
     ·exact cd_case hZ _ c a h
     ·exact cd_call hZ _ c a h
end
theorem cd_E(s:ByteArray):∀d,CD (pE s d)
 |0=>λp c a h=>by
  rw[pE]at h;split at h
  ·cases h;decide
  ·exact cd_atom s p c a h
 |d+1=>λp c a h=>by
  rw[pE]at h;split at h
  ·rcases pb_einv h with h1|⟨y1,q1,h1,h⟩
   ·exact cd_form (cd_E s d) _ c a h1
   rcases pb_einv h with h1|⟨y2,q2,h1,h⟩
   ·exact cd_want s _ q1 c a h1
   cases h
  ·exact cd_atom s p c a h
theorem cd_wants(s:ByteArray):∀l,CD (pWants s l)
 |[]=>λp c a h=>by cases h
 |t::r=>λp c a h=>by
  rcases pb_einv h with h1|⟨y,q,h1,h⟩
  ·exact cd_want s _ p c a h1
  ·exact cd_wants s r q c a h
theorem cd_new(s:ByteArray)(l:List ByteArray):CD (pNew s l):=by
 intro p c a h;rcases pb_einv h with h1|⟨y,q,h1,h⟩
 ·exact cd_name s p c a h1
 ·split at h<;>cases h;decide
theorem cd_defn(s:ByteArray)(G:Nms):CD (pDefn s G):=by
 intro p c a h;rcases pb_einv h with h1|⟨y,q,h1,h⟩
 ·exact cd_new s _ p c a h1
 rcases pb_einv h with h1|⟨y2,q2,h1,h⟩
 ·exact cd_names s q c a h1
 rcases pb_einv h with h1|⟨y3,q3,h1,h⟩
 ·exact cd_E s 30 q2 c a h1
 rcases pb_einv h with h1|⟨y4,q4,h1,h⟩
 ·exact cd_want s _ q3 c a h1
 cases h
theorem cd_G(s:ByteArray)(G:Nms)(b:Bool):CD (pG s G b):=by
 intro p c a h;unfold pG at h;split at h
 ·rcases pb_einv h with h1|⟨y,q,h1,h⟩
  ·rcases pb_einv h1 with h1|⟨y,q,h1,h⟩
   ·exact cd_new s _ _ c a h1
   rcases pb_einv h with h1|⟨y2,q2,h1,h⟩
   ·exact cd_tag s _ q c a h1
   rcases pb_einv h with h1|⟨y3,q3,h1,h⟩
   ·exact cd_want s _ q2 c a h1
   cases h
  ·cases h
 ·rcases pb_einv h with h1|⟨y,q,h1,h⟩
  ·exact cd_want s _ _ c a h1
  rcases pb_einv h with h1|⟨y2,q2,h1,h⟩
  ·exact cd_defn s G q c a h1
  cases h
theorem cd_ML(s:ByteArray):∀(f:Nat) (G:Nms) (im:List IT) (df:List DD),CD (pML s f G im df)
 |0,_,_,_=>λp c a h=>by rw[pML]at h;cases h;decide
 |f+1,G,im,df=>λp c a h=>by
  rw[pML]at h;split at h
  ·rcases pb_einv h with h1|⟨y,q,h1,h⟩
   ·exact cd_G s G _ _ c a h1
   match y,h with
   |.inl i,h=>exact cd_ML s f _ _ _ q c a h
   |.inr d,h=>exact cd_ML s f _ _ _ q c a h
  ·rcases pb_einv h with h1|⟨y,q,h1,h⟩
   ·exact cd_wants s _ p c a h1
   cases h
theorem cd_mod(s:ByteArray):CD (pMod s):=by
 intro p c a h;rcases pb_einv h with h1|⟨y,q,h1,h⟩
 ·exact cd_wants s _ p c a h1
 rcases pb_einv h with h1|⟨y2,q2,h1,h⟩
 ·exact cd_new s _ q c a h1
 rcases pb_einv h with h1|⟨y3,q3,h1,h⟩
 ·exact cd_ML s _ _ _ _ q2 c a h1
 cases h
end Go.Proofs.YtcpcplaeaimmpaaGreatDoor
namespace Go.Proofs.YtcpcplaeaimmpaaGreatDoor
open Go.RowKit
def outD(x:LIns)(d:Int):Option Int:=if d=-2 then some (-2) else if fitsV x.op.toNat x.a d then some (behV x.op.toNat x.a d) else none
def succs(x:LIns)(k:Nat):List Nat:=if x.op=19∨x.op=20 then [] else if x.op=18 then [x.a.toNat] else if x.op=17 then x.alts.map λa=>a.to.toNat else [k+1]
def reachAll(s:List Int×List Nat)(l:List Nat)(d:Int):List Int×List Nat:=l.foldl (λs k=>reachL s.1 s.2 k d) s
def leaveL(x:LIns)(dep:List Int)(todo:List Nat)(k:Nat):List Int×List Nat:=
 match outD x (dep.getD k 0) with
 |none=>(dep,todo)
 |some d=>reachAll (dep,todo) (succs x k) d
theorem reachL_len(dep:List Int)(todo:List Nat)(k:Nat)(d:Int):(reachL dep todo k d).1.length=dep.length:=by unfold reachL;split<;>simp
theorem reachL_todo(dep:List Int)(todo:List Nat)(k:Nat)(d:Int):(reachL dep todo k d).2.length<=todo.length+1:=by unfold reachL;split<;>simp
theorem reachAll_len(l:List Nat)(d:Int):∀s:List Int×List Nat,(reachAll s l d).1.length=s.1.length:=by
 induction l with
 |nil=>intro s;rfl
 |cons k r ih=>intro s;show(reachAll (reachL s.1 s.2 k d) r d).1.length=_;rw[ih,reachL_len]
theorem reachAll_todo(l:List Nat)(d:Int):∀s:List Int×List Nat,(reachAll s l d).2.length<=s.2.length+l.length:=by
 induction l with
 |nil=>intro s;simp[reachAll]
 |cons k r ih=>
  intro s;have h1:=ih (reachL s.1 s.2 k d);have h2:=reachL_todo s.1 s.2 k d;show(reachAll (reachL s.1 s.2 k d) r d).2.length<=_;simp only[List.length_cons];omega
theorem reachAll_snoc(s:List Int×List Nat)(l:List Nat)(k:Nat)(d:Int):reachAll s (l++[k]) d=reachL (reachAll s l d).1 (reachAll s l d).2 k d:=by
 simp[reachAll]
theorem Walking.keep{w w':World}{base B D:Nat}{cv:Value}{dep:List Int}{tv:Value}{todo:List Nat}(h:Walking w base B D cv dep tv todo)(hb:Below w.heap.size w w'):Walking w' base B D cv dep tv todo:=by
 have k:=bcell hb;have own:w'.ownsRow base 3 1 tv todo.length (todo.map λa:Nat=>Value.int .i64 (a:Int)):=by
  refine⟨h.own.1,?_⟩;rcases h.own.2 with e|⟨g,cap,cur,e,hg,hh,r⟩
  ·exact Or.inl e
  ·refine Or.inr ⟨g,cap,cur,e,hg,?_,r⟩;have hlt:g<w.heap.size:=by
    rcases Nat.lt_or_ge g w.heap.size with hlt|hge
    ·exact hlt
    ·rw[Array.getElem?_eq_none hge]at hh;cases hh
   rw[hb.block g hlt];exact hh
 exact {hB:=h.hB,hD:=h.hD,ne:=h.ne,lB:=Nat.lt_of_lt_of_le h.lB hb.size,lD:=Nat.lt_of_lt_of_le h.lD hb.size,c0:=cell_keep hb h.c0,c1:=cell_keep hb h.c1,c2:=cell_keep hb h.c2,f2:=by rw[k.2 _ _ h.lB];exact h.f2,dc:=λi hi=>cell_keep hb (h.dc i hi),df:=λi hi=>by rw[k.2 _ _ h.lD];exact h.df i hi,own:=own,aB:=h.aB,aD:=h.aD}
structure Left (w0 w:World) (B D:Nat) (p:Option Addr) (cap:Nat) (code:List LIns) (dep:List Int) (tv:Value) (todo:List Nat) (k:Nat) (x:LIns) (m:Nat):Prop where
 walking:Walking w w0.heap.size B D (.slice p code.length cap) dep tv todo
 cod:CodeAt w0 (.slice p code.length cap) code
 tab:TabAt w0
 below:Below w0.heap.size w0 w
 len:code.length=dep.length
 hk:k<code.length
 hx:code[k]?=some x
 hn:dep.length<=65535
 hm:m<21
 op:x.op=m
 next:∀s∈succs x k,s<code.length
 nonneg:(m=18->0<=x.a)∧∀al∈x.alts,0<=al.to
 room:todo.length+x.alts.length+1<=200000
theorem leave_stop(w0 w:World)(B D:Nat)(p:Option Addr)(cap:Nat)(code:List LIns)(dep:List Int)(tv:Value)(todo:List Nat)(k:Nat)(x:LIns)(m:Nat)(h:Left w0 w B D p cap code dep tv todo k x m)(d:Int)(hd:dep.getD k 0=d)(h2:(d !=-2)=true)(hf:fitsV m x.a d=false):
 Calls Tryz.prog 81 #[.pointer (some ⟨B,0,none⟩),.int .i64 k] w λe w'=>e=.returned (.tuple #[])∧(∃tv',Walking w' w0.heap.size B D (.slice p code.length cap) dep tv' todo)∧Below w0.heap.size w w':=by
 obtain⟨p',cap',e,hs1,hcell⟩:=h.cod.open;obtain⟨rfl,-,rfl⟩:p=p'∧code.length=code.length∧cap=cap':=by simpa using e
 have hk:=h.hk;have hlen:=h.len;have hm:=h.hm;have ex:code[k]=x:=by have:=h.hx;rw[List.getElem?_eq_getElem hk]at this;simpa using this
 obtain⟨b,o,ap,an,ac,rfl,x0,x1,x2,hA⟩:=hcell w h.below k hk;rw[ex,h.op]at x0;rw[ex]at x1;have c0:=h.walking.c0;have c1:=h.walking.c1;have dk:=h.walking.dc k (by omega);have ed:dep[k]=d:=by rw[<-hd];simp[List.getD,show k<dep.length by omega]
 rw[ed]at dk;have lB:B<w.heap.size:=h.walking.lB;have lD:D<w.heap.size:=h.walking.lD;have lb:b<w.heap.size:=block_lt_of_cell x0;have nB:B≠w.heap.size:=by omega
 have nD:D≠w.heap.size:=by omega
 have nb:b≠w.heap.size:=by omega
 have hk1:(0:Int)<=(k:Int):=by omega
 have hk2:(k:Int)<(code.length:Int):=by omega
 have hk3:(k:Int)<(dep.length:Int):=by omega
 have HF:Hid (fitsV m x.a d=false):=hf;have HW:Hid (Walking w w0.heap.size B D (.slice (some ⟨b,o,none⟩) code.length cap) dep tv todo):=h.walking;have HT:Hid (TabAt w):=h.tab.keep h.below;have h0:=h.below.size;clear hcell hA e h ex hd ed hf hlen;generalize x.a=a at*;go_enter Tryz.func81,Tryz.ntmps81;go_wp2;go_region
 go_wp2_with (first|(go_at_call 82;refine(fits_tab m a d ap an ac _ hm ?_).mono ?_;exact HT.out.keep ((Below.refl _ _).alloc (Nat.le_refl _) _).drew;rintro e w1 ⟨he,hb1⟩;rw[HF.out]at he;subst he))
 have hb2:=(((Below.refl _ _).alloc (Nat.le_refl _) _).drew).trans (hb1.mono (by simp[World.drew]));exact bodyPost_ret (v:=.tuple #[]) (by simp[results,Tryz.results81,go_sem]) rfl ⟨rfl,⟨tv,HW.out.keep hb2⟩,hb2.mono h0⟩
theorem leave_one(w0 w:World)(B D:Nat)(p:Option Addr)(cap:Nat)(code:List LIns)(dep:List Int)(tv:Value)(todo:List Nat)(k:Nat)(x:LIns)(m:Nat)(h:Left w0 w B D p cap code dep tv todo k x m)(d dv:Int)(hd:dep.getD k 0=d)
 (h2:d=-2∧dv=-2∨(d !=-2)=true∧fitsV m x.a d=true∧dv=behV m x.a d) (s:Nat) (hs:s<code.length) (hms:m=18∧x.a=s∨((m:Int)==19)=false∧((m:Int)==20)=false∧((m:Int)==18)=false∧((m:Int)==17)=false∧s=k+1):
 Calls Tryz.prog 81 #[.pointer (some ⟨B,0,none⟩),.int .i64 k] w λe w'=>e=.returned (.tuple #[])∧(∃tv',Walking w' w0.heap.size B D (.slice p code.length cap) (reachL dep todo s dv).1 tv' (reachL dep todo s dv).2)∧Below w0.heap.size w w':=by
 obtain⟨p',cap',e,hs1,hcell⟩:=h.cod.open;obtain⟨rfl,-,rfl⟩:p=p'∧code.length=code.length∧cap=cap':=by simpa using e
 have hk:=h.hk;have hlen:=h.len;have hm:=h.hm;have hn:=h.hn;have hr:=h.room;have ex:code[k]=x:=by have:=h.hx;rw[List.getElem?_eq_getElem hk]at this;simpa using this
 obtain⟨b,o,ap,an,ac,rfl,x0,x1,x2,hA⟩:=hcell w h.below k hk;rw[ex,h.op]at x0;rw[ex]at x1;have c0:=h.walking.c0;have c1:=h.walking.c1;have dk:=h.walking.dc k (by omega);have ed:dep[k]=d:=by rw[<-hd];simp[List.getD,show k<dep.length by omega]
 rw[ed]at dk;have lB:B<w.heap.size:=h.walking.lB;have lD:D<w.heap.size:=h.walking.lD;have lb:b<w.heap.size:=block_lt_of_cell x0;have nB:B≠w.heap.size:=by omega
 have nD:D≠w.heap.size:=by omega
 have nb:b≠w.heap.size:=by omega
 have hk1:(0:Int)<=(k:Int):=by omega
 have hk2:(k:Int)<(code.length:Int):=by omega
 have hk3:(k:Int)<(dep.length:Int):=by omega
 have hk4:(k:Int)<65536:=by omega
 have HW:Hid (Walking w w0.heap.size B D (.slice (some ⟨b,o,none⟩) code.length cap) dep tv todo):=h.walking;have HT:Hid (TabAt w):=h.tab.keep h.below;have h0:=h.below.size;have HR:Hid (∀w1,Below w.heap.size w w1->Calls Tryz.prog 80 #[.pointer (some ⟨B,0,none⟩),.int .i64 s,.int .i64 dv] w1 λe w'=>e=.returned (.tuple #[])∧(∃tv',Walking w' w0.heap.size B D (.slice (some ⟨b,o,none⟩) code.length cap) (reachL dep todo s dv).1 tv' (reachL dep todo s dv).2)∧Below w0.heap.size w1 w'):=
  λw1 hb=>reach_any w0.heap.size B D _ dep tv todo s dv w1 (HW.out.keep hb) (by omega) hn (by omega) (Nat.le_trans h0 hb.size)
 clear hcell hA e h ex hd ed hlen hn hr;generalize x.a=a at*;generalize (reachL dep todo s dv)=rl at*;rcases hms with⟨rfl,rfl⟩|⟨t1,t2,t3,t4,rfl⟩
 ·rcases h2 with⟨rfl,rfl⟩|⟨g1,g2,rfl⟩
  ·skip
   go_enter Tryz.func81,Tryz.ntmps81;go_wp2;go_region
   go_wp2_with (first|(go_at_call 80;refine(HR.out _ ?_).mono ?_;exact((Below.refl _ _).alloc (Nat.le_refl _) _).drew;rintro e w3 ⟨rfl,hw3,hb3⟩))
   go_end0
   exact⟨rfl,hw3,(((Below.refl _ _).alloc h0 _).drew).trans hb3⟩
  ·have HF:Hid (fitsV 18 (s:Int) d=true):=g2;clear g2;go_enter Tryz.func81,Tryz.ntmps81;go_wp2;go_region
   go_wp2_with (first|(go_at_call 82;refine(fits_tab _ _ d ap an ac _ hm ?_).mono ?_;exact HT.out.keep ((Below.refl _ _).alloc (Nat.le_refl _) _).drew;rintro e w1 ⟨he,hb1⟩;rw[HF.out]at he;subst he;obtain⟨z0,z1⟩:=bcell hb1;have hz1:w.heap.size<w1.heap.size:=(by have:=hb1.size;simp[World.drew]at this;omega))|(go_at_call 122;refine(behind_tab _ _ d _ _ hm ?_).mono ?_;exact HT.out.keep (((Below.refl _ _).alloc (Nat.le_refl _) _).drew.trans (hb1.mono (by simp[World.drew])));rintro e w2 ⟨rfl,hb2⟩;obtain⟨z2,z3⟩:=bcell hb2)|(go_at_call 80;refine(HR.out _ ?_).mono ?_;exact(((Below.refl _ _).alloc (Nat.le_refl _) _).drew.trans (hb1.mono (by simp[World.drew]))).trans (hb2.mono (by omega));rintro e w3 ⟨rfl,hw3,hb3⟩))
   go_end0
   exact⟨rfl,hw3,((((Below.refl _ _).alloc h0 _).drew.trans (hb1.mono (by simp[World.drew];omega))).trans (hb2.mono (by omega))).trans hb3⟩
 ·rcases h2 with⟨rfl,rfl⟩|⟨g1,g2,rfl⟩
  ·skip
   go_enter Tryz.func81,Tryz.ntmps81;go_wp2;go_region
   go_wp2_with (first|(go_at_call 80;refine(HR.out _ ?_).mono ?_;exact((Below.refl _ _).alloc (Nat.le_refl _) _).drew;rintro e w3 ⟨rfl,hw3,hb3⟩))
   go_end0
   exact⟨rfl,hw3,(((Below.refl _ _).alloc h0 _).drew).trans hb3⟩
  ·have HF:Hid (fitsV m a d=true):=g2;clear g2;go_enter Tryz.func81,Tryz.ntmps81;go_wp2;go_region
   go_wp2_with (first|(go_at_call 82;refine(fits_tab _ _ d ap an ac _ hm ?_).mono ?_;exact HT.out.keep ((Below.refl _ _).alloc (Nat.le_refl _) _).drew;rintro e w1 ⟨he,hb1⟩;rw[HF.out]at he;subst he;obtain⟨z0,z1⟩:=bcell hb1;have hz1:w.heap.size<w1.heap.size:=(by have:=hb1.size;simp[World.drew]at this;omega))|(go_at_call 122;refine(behind_tab _ _ d _ _ hm ?_).mono ?_;exact HT.out.keep (((Below.refl _ _).alloc (Nat.le_refl _) _).drew.trans (hb1.mono (by simp[World.drew])));rintro e w2 ⟨rfl,hb2⟩;obtain⟨z2,z3⟩:=bcell hb2)|(go_at_call 80;refine(HR.out _ ?_).mono ?_;exact(((Below.refl _ _).alloc (Nat.le_refl _) _).drew.trans (hb1.mono (by simp[World.drew]))).trans (hb2.mono (by omega));rintro e w3 ⟨rfl,hw3,hb3⟩))
   go_end0
   exact⟨rfl,hw3,((((Below.refl _ _).alloc h0 _).drew.trans (hb1.mono (by simp[World.drew];omega))).trans (hb2.mono (by omega))).trans hb3⟩
end Go.Proofs.YtcpcplaeaimmpaaGreatDoor

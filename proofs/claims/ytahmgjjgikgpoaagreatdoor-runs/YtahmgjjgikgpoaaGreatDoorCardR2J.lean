import Derived.Test.YtahmgjjgikgpoaaGreatDoorLqJ
import Derived.Lib.LaidTab
import Derived.Test.YtahmgjjgikgpoaaGreatDoorCardR0J
set_option maxRecDepth 100000
set_option maxHeartbeats 2000000
namespace Go.Proofs.YtahmgjjgikgpoaaGreatDoor
open Go.RowKit Go.Sort
structure Imgs (z:Nat) (gs:List LGlob) (main:Int) (I J:Nat) (w:World):Prop where
 p:∃gp gc G,ImG w.heap.size w I gs gp gc G
 m:w.cell? ⟨I,1,none⟩=some (.int .i64 main)
 r:∃gv,w.cell? ⟨J,0,none⟩=some gv∧w.cell? ⟨J,1,none⟩=some (.int .i64 main)∧GlobsAt w gv gs
 t:Lib.TabBelow Tryz.prog z w "internal/strconv.uint64pow10" .u64 Lib.pow10Tab
 zl:z<=w.heap.size
theorem Imgs.keep{z:Nat}{gs:List LGlob}{main:Int}{I J:Nat}{w w':World}(h:Imgs z gs main I J w)(hb:Below w.heap.size w w'):Imgs z gs main I J w':=by
 obtain⟨gp,gc,G,hI⟩:=h.p;obtain⟨gv,h0,h1,h2⟩:=h.r;have h3:=hI.low hb;exact⟨⟨gp,gc,G,h3.pg.up hb.size,h3.ar,λi hi=>(h3.cd i hi).up hb.size⟩,cell_keep hb h.m,⟨gv,cell_keep hb h0,cell_keep hb h1,h2.keep hb⟩,h.t.on (hb.mono h.zl),Nat.le_trans h.zl hb.size⟩
theorem Imgs.runs{z:Nat}{gs:List LGlob}{D:Nat->Nat->Int}{main:Int}{I J:Nat}{w:World}(h:Imgs z gs main I J w)(hG:ImgOk gs D)(hm:0<=main∧main<(gs.length:Int))(fuel spare:Int):
 (Calls Tryz.prog 10 #[.pointer (some ⟨I,0,none⟩),.int .i64 fuel,.int .i64 spare] w λe w'=>e=.returned (aOut gs main fuel spare)∧Below w.heap.size w w')∧(Calls Tryz.prog 11 #[.pointer (some ⟨J,0,none⟩),.int .i64 fuel,.int .i64 spare] w λe w'=>e=.returned (aOut gs main fuel spare)∧Below w.heap.size w w'):=by
 obtain⟨gp,gc,G,hI⟩:=h.p;obtain⟨gv,h0,h1,h2⟩:=h.r;exact⟨image_any fuel spare hG hI hm h.m λX hX=>h.t X (hX.mono h.zl),rRun_any fuel spare hG hm h0 h1 h2 h.t.here⟩
theorem imgs_of{Os:List LObj}{entry:ByteArray}{D:Nat->Nat->Int}{z I J n gc:Nat}{gp:Option Addr}{gv:Value}{w2 w3 w4 w5:World}{lo:Nat}(hG:ImgOk (img Os) D)(hR:R2 w3 I (.slice gp n gc) (.int .i64 (imgE Os entry)))(hI:w2.heap.size<=I)(hM:MGAt w2.heap.size w3 (.slice gp n gc) (img Os))(hb4:Below w3.heap.size w3 w4)(h23:w2.heap.size<=w3.heap.size)(hJ:w3.heap.size<=J)(h0:w4.cell? ⟨J,0,none⟩=some gv)(h1:w4.cell? ⟨J,1,none⟩=some (.int .i64 (imgE Os entry)))(hY:GlobsY (λb=>b<lo∨w3.heap.size<=b) w4 gv (img Os))(hsp:SpI (λb=>lo<=b∧b<w2.heap.size) w4 w5)(hzl:z<=lo)(hl2:lo<=w2.heap.size)(htab:Lib.TabBelow Tryz.prog z w4 "internal/strconv.uint64pow10" .u64 Lib.pow10Tab):Imgs z (img Os) (imgE Os entry) I J w5:=by
 have hs:=hsp.size;have hz4:=hb4.size;have hnp:∀b,b<w4.heap.size->(b<lo∨w2.heap.size<=b)->w5.heap[b]?=w4.heap[b]?:=λb hb h=>hsp.fr b hb λhp=>by omega
 have hR4:=hR.keep hb4;have hR5:R2 w5 I (.slice gp n gc) (.int .i64 (imgE Os entry)):=hR4.of_block (hnp I hR4.lt (Or.inr hI));have hM5:MGAt w2.heap.size w5 (.slice gp n gc) (img Os):=(hM.keep hb4).fr hs λb h1 h2=>hnp b h2 (Or.inr h1);have hY5:=hY.fr (Y:=λ_=>True) (w':=w5) λb hb hl=>⟨trivial,hnp b hl (hb.imp id λh=>by omega)⟩;have hbz:Below z w4 w5:=⟨hsp.os,hsp.tape,hsp.output,hs,λb hb=>hnp b (by omega) (Or.inl (by omega))⟩;have hJ5:=hnp J (block_lt_of_cell h0) (Or.inr (by omega));obtain⟨q,cap,e,-⟩:=id hM5;cases e;obtain⟨G,hIm⟩:=img_open hR5 hM5 hG.ar;exact⟨⟨_,_,G,hIm⟩,hR5.c1,⟨gv,cell_same hJ5 h0,cell_same hJ5 h1,hY5.at⟩,htab.on hbz,by omega⟩
theorem runs_law(Os:List LObj)(v:Value)(entry:ByteArray)(fed:List (Int×Int))(fv:Value)(w:World)(adr:Nat->Addr)(h:ObjsAt w v Os)(hl:Os.length*64<=140737488351232)(hz:∀O∈Os,SizedO O.imps O.globs)(he:entry.size<=maxLen)(hA:A64 Os)(hF:FedAt w fv fed)(hT:TabAt w)(hS:SentAt w adr)(htab:Lib.TabBelow Tryz.prog w.heap.size w "internal/strconv.uint64pow10" .u64 Lib.pow10Tab):
 Calls Tryz.prog 3 #[v,.string entry,fv] w λe w'=>e=.returned (.bool true)∧Below w.heap.size w w':=by
 have HZ:Hid (Szd Os):=λO hO=>⟨(hz O hO).2.1,(hz O hO).1⟩;obtain⟨p,cap,rfl,hs,hI⟩:=id h;have hp:p=none->Os.length=0:=λe=>by
  by_cases h0:Os.length=0
  ·exact h0
  ·obtain⟨b,o,ip,ic,gp,gc,e2,-⟩:=hI 0 (by omega);rw[e]at e2;cases e2
 obtain⟨V,hV⟩:=hI.v;have hs47:Os.length<140737488355328:=hs;have HR:Hid (Calls Tryz.prog 4 #[] w λe w1=>e=.returned (.bool true)∧Hid (Below w.heap.size w w1)):=(runs_any8 w adr hT hS htab).mono λe w1 h=>h;have HRM:Hid (∀w1,Below w.heap.size w w1->Calls Tryz.prog 5 #[.slice p Os.length cap] w1 λe w2=>∃rp rc,e=.returned (.slice rp Os.length rc)∧Hid (Below w1.heap.size w1 w2∧RoomsR (λb=>w1.heap.size<=b∧b<w2.heap.size) w2 (.slice p Os.length cap) (.slice rp Os.length rc) Os V)):=λw1 hb1=>(rooms_any Os p cap V w1 (hV.keep hb1) hp hz hl).mono λe w2 ⟨hb2,rp,rc,e2,h2⟩=>⟨rp,rc,e2,hb2,h2⟩;have HSP:Hid (∀w1 w2 w4 rp rc,Below w.heap.size w w1->Below w1.heap.size w1 w2->RoomsR (λb=>w1.heap.size<=b∧b<w2.heap.size) w2 (.slice p Os.length cap) (.slice rp Os.length rc) Os V->Below w2.heap.size w2 w4->Calls Tryz.prog 8 #[.slice rp Os.length rc] w4 λe w5=>e=.returned (.tuple #[])∧Hid (SpI (λb=>w1.heap.size<=b∧b<w2.heap.size) w4 w5)):=λw1 w2 w4 rp rc hb1 hb2 hR hb4=>(spoil_any (P:=λb=>w1.heap.size<=b∧b<w2.heap.size) (w:=w4) (λb hb=>Nat.lt_of_lt_of_le hb.2 hb4.size) Os.length rc rp hs47 ((hR.keep hb4).sp hV)).mono λe w5 h=>h;have HF:=hid hF;cases hL:lnkE Os entry with
 |some x=>
  have HLK:Hid (∀w1 w2 rp rc,Below w.heap.size w w1->Below w1.heap.size w1 w2->RoomsR (λb=>w1.heap.size<=b∧b<w2.heap.size) w2 (.slice p Os.length cap) (.slice rp Os.length rc) Os V->Calls Tryz.prog 6 #[.slice rp Os.length rc,.string entry] w2 λe w3=>e=.returned (.tuple #[.pointer none,.int .i64 (kCode x.1),.int .i64 (x.2:Int)])∧Hid (Below w2.heap.size w2 w3)):=λw1 w2 rp rc hb1 hb2 hR=>by
   have hb:=hb1.trans (hb2.mono hb1.size);refine(tarnLink_any Os _ entry w2 adr (hR.objs (hV.keep hb) hs hp) HZ.out he (hT.keep hb) (hS.keep hb)).mono λe w3 ⟨hb3,h3⟩=>?_;rw[hL]at h3;exact⟨h3,hb3⟩
  have HRL:Hid (∀w3,Below w.heap.size w w3->Calls Tryz.prog 7 #[.slice p Os.length cap,.string entry] w3 λe w4=>e=.returned (.tuple #[.pointer none,.int .i64 (kCode x.1),.int .i64 (x.2:Int)])∧Hid (Below w3.heap.size w3 w4)):=λw3 hb3=>(refLink_any Os _ entry w3 (h.keep hb3) HZ.out h hb3).mono λe w4 ⟨hb4,h4⟩=>by
   rw[hL]at h4;exact⟨h4,hb4⟩
  obtain⟨fp,fcap,rfl,hfs,-⟩:=hF;clear h hT hS hI hV hz hL htab hs HF;go_enter Tryz.func3,Tryz.ntmps3;go_wp2_with (first
   |(go_at_call 4;refine HR.out.mono ?_;rintro e w1 ⟨rfl,HB1⟩;have HM:=hid (HRM.out w1 HB1.out))
   |(go_at_call 5;refine HM.out.mono ?_;rintro e w2 ⟨rp,rc,rfl,HQ2⟩;have HL2:=hid (HLK.out w1 w2 rp rc HB1.out HQ2.out.1 HQ2.out.2);clear HM)
   |(go_at_call 6;refine HL2.out.mono ?_;rintro e w3 ⟨rfl,HB3⟩;have HB13:=hid (HB1.out.trans ((HQ2.out.1.trans (HB3.out.mono HQ2.out.1.size)).mono HB1.out.size));have HL3:=hid (HRL.out w3 HB13.out))
   |(go_at_call 7;refine HL3.out.mono ?_;rintro e w4 ⟨rfl,HB4⟩;have HS4:=hid (HSP.out w1 w2 w4 rp rc HB1.out HQ2.out.1 HQ2.out.2 (HB3.out.trans (HB4.out.mono HB3.out.size))))
   |(go_at_call 8;refine HS4.out.mono ?_;rintro e w5 ⟨rfl,HI5⟩;have HE5:Hid (Below w.heap.size w w5):=(by have h4:=HB13.out.trans (HB4.out.mono HB13.out.size);have hi:=HI5.out;have hz1:=HB1.out.size;have hz4:=h4.size;exact⟨hi.os.trans h4.os,hi.tape.trans h4.tape,hi.output.trans h4.output,Nat.le_trans hz4 hi.size,λb hb=>(hi.fr b (by omega) (λhp=>by have:=hp.1;omega)).trans (h4.block b hb)⟩))
   |(go_at_call 9;refine(lawNum_any _ _).mono ?_;rintro e w6 ⟨rfl,rfl⟩))
  go_loopw [15] (λxv wr=>xv=.int .i64 0∧Hid (Below w.heap.size w wr)) (λ_ _=>0)
  case atStart=>exact⟨rfl,HE5.out⟩
  case round=>
   rename World=>wr
   obtain⟨rfl,HW⟩:=hrel;clear HR HRM HSP HLK HRL HB1 HQ2 HB3 HB13 HL2 HL3 HB4 HS4 HI5 HE5;by_cases h0:(0:Int)<(fed.length:Int)
   ·go_wp2;go_ret;exact⟨rfl,HW.out⟩
   ·go_wp2;go_ret;exact⟨rfl,HW.out⟩
 |none=>
  obtain⟨⟨D,hD⟩,hm⟩:=img_ok hL hA;have HLK:Hid (∀w1 w2 rp rc,Below w.heap.size w w1->Below w1.heap.size w1 w2->RoomsR (λb=>w1.heap.size<=b∧b<w2.heap.size) w2 (.slice p Os.length cap) (.slice rp Os.length rc) Os V->Calls Tryz.prog 6 #[.slice rp Os.length rc,.string entry] w2 λe w3=>∃I:Nat,e=.returned (.tuple #[.pointer (some ⟨I,0,none⟩),.int .i64 0,.int .i64 0])∧Hid (Below w2.heap.size w2 w3)∧Hid (w2.heap.size<=I∧∃gp n gc,R2 w3 I (.slice gp n gc) (.int .i64 (imgE Os entry))∧MGAt w2.heap.size w3 (.slice gp n gc) (img Os))):=λw1 w2 rp rc hb1 hb2 hR=>by
   have hb:=hb1.trans (hb2.mono hb1.size);refine(tarnLink_any Os _ entry w2 adr (hR.objs (hV.keep hb) hs hp) HZ.out he (hT.keep hb) (hS.keep hb)).mono λe w3 ⟨hb3,h3⟩=>?_;rw[hL]at h3;obtain⟨I,q,n,c,h3,h4,h5,h6⟩:=h3;exact⟨I,h3,hb3,h4,q,n,c,h5,h6⟩
  have HRL:Hid (∀w3,Below w.heap.size w w3->Calls Tryz.prog 7 #[.slice p Os.length cap,.string entry] w3 λe w4=>∃J:Nat,e=.returned (.tuple #[.pointer (some ⟨J,0,none⟩),.int .i64 0,.int .i64 0])∧Hid (Below w3.heap.size w3 w4)∧Hid (w3.heap.size<=J∧∃gv,w4.cell? ⟨J,0,none⟩=some gv∧w4.cell? ⟨J,1,none⟩=some (.int .i64 (imgE Os entry))∧GlobsY (λb=>b<w.heap.size∨w3.heap.size<=b) w4 gv (img Os))):=λw3 hb3=>(refLink_any Os _ entry w3 (h.keep hb3) HZ.out h hb3).mono λe w4 ⟨hb4,h4⟩=>by
   rw[hL]at h4;obtain⟨J,gv,h5,h6,h7,h8,h9⟩:=h4;exact⟨J,h5,hb4,h6,gv,h7,h8,h9⟩
  have HIM:Hid (∀w1 w2 w3 w4 w5 I J,Below w.heap.size w w1->Below w1.heap.size w1 w2->Below w2.heap.size w2 w3->Below w3.heap.size w3 w4->(w2.heap.size<=I∧∃gp n gc,R2 w3 I (.slice gp n gc) (.int .i64 (imgE Os entry))∧MGAt w2.heap.size w3 (.slice gp n gc) (img Os))->(w3.heap.size<=J∧∃gv,w4.cell? ⟨J,0,none⟩=some gv∧w4.cell? ⟨J,1,none⟩=some (.int .i64 (imgE Os entry))∧GlobsY (λb=>b<w.heap.size∨w3.heap.size<=b) w4 gv (img Os))->SpI (λb=>w1.heap.size<=b∧b<w2.heap.size) w4 w5->Imgs w.heap.size (img Os) (imgE Os entry) I J w5):=λw1 w2 w3 w4 w5 I J hb1 hb2 hb3 hb4 ⟨hI,gp,n,gc,hR,hM⟩ ⟨hJ,gv,c0,c1,hY⟩ hsp=>by
   have hb04:Below w.heap.size w w4:=hb1.trans ((hb2.trans ((hb3.trans (hb4.mono hb3.size)).mono hb2.size)).mono hb1.size);exact imgs_of hD hR hI hM hb4 hb3.size hJ c0 c1 (hY.fr λb hb _=>⟨hb.imp (λh=>Nat.lt_of_lt_of_le h hb1.size) id,rfl⟩) hsp hb1.size hb2.size (htab.on hb04)
  have HRN:Hid (∀I J wr fuel spare,Imgs w.heap.size (img Os) (imgE Os entry) I J wr->(∀X,Below wr.heap.size wr X->Calls Tryz.prog 10 #[.pointer (some ⟨I,0,none⟩),.int .i64 fuel,.int .i64 spare] X λe w'=>e=.returned (aOut (img Os) (imgE Os entry) fuel spare)∧Hid (Below X.heap.size X w'))∧(∀X,Below wr.heap.size wr X->Calls Tryz.prog 11 #[.pointer (some ⟨J,0,none⟩),.int .i64 fuel,.int .i64 spare] X λe w'=>e=.returned (aOut (img Os) (imgE Os entry) fuel spare)∧Hid (Below X.heap.size X w'))):=λI J wr fuel spare hIm=>⟨λX hX=>((hIm.keep hX).runs hD hm fuel spare).1.mono λe w' h=>h,λX hX=>((hIm.keep hX).runs hD hm fuel spare).2.mono λe w' h=>h⟩;have HFK:=hid (λX (hb:Below w.heap.size w X)=>hF.keep hb);obtain⟨fp,fcap,rfl,hfs,-⟩:=hF;unfold short at hfs;clear h hT hS hI hV hz hL htab hs HF hD hm hA;go_enter Tryz.func3,Tryz.ntmps3;go_wp2_with (first
   |(go_at_call 4;refine HR.out.mono ?_;rintro e w1 ⟨rfl,HB1⟩;have HM:=hid (HRM.out w1 HB1.out))
   |(go_at_call 5;refine HM.out.mono ?_;rintro e w2 ⟨rp,rc,rfl,HQ2⟩;have HL2:=hid (HLK.out w1 w2 rp rc HB1.out HQ2.out.1 HQ2.out.2);clear HM)
   |(go_at_call 6;refine HL2.out.mono ?_;rintro e w3 ⟨I,rfl,HB3,HX3⟩;have HB13:=hid (HB1.out.trans ((HQ2.out.1.trans (HB3.out.mono HQ2.out.1.size)).mono HB1.out.size));have HL3:=hid (HRL.out w3 HB13.out))
   |(go_at_call 7;refine HL3.out.mono ?_;rintro e w4 ⟨J,rfl,HB4,HX4⟩;have HS4:=hid (HSP.out w1 w2 w4 rp rc HB1.out HQ2.out.1 HQ2.out.2 (HB3.out.trans (HB4.out.mono HB3.out.size))))
   |(go_at_call 8;refine HS4.out.mono ?_;rintro e w5 ⟨rfl,HI5⟩;have HE5:Hid (Below w.heap.size w w5):=(by have h4:=HB13.out.trans (HB4.out.mono HB13.out.size);have hi:=HI5.out;have hz1:=HB1.out.size;have hz4:=h4.size;exact⟨hi.os.trans h4.os,hi.tape.trans h4.tape,hi.output.trans h4.output,Nat.le_trans hz4 hi.size,λb hb=>(hi.fr b (by omega) (λhp=>by have:=hp.1;omega)).trans (h4.block b hb)⟩);have HG5:=hid (HIM.out w1 w2 w3 w4 w5 I J HB1.out HQ2.out.1 HB3.out HB4.out HX3.out HX4.out HI5.out))
   |(go_at_call 9;refine(lawNum_any _ _).mono ?_;rintro e w6 ⟨rfl,rfl⟩))
  clear HR HRM HSP HLK HRL HIM HB1 HQ2 HB3 HB13 HL2 HL3 HB4 HS4 HI5 HX3 HX4;go_loopw [15] (λxv wr=>∃k:Nat,k<=fed.length∧xv=.int .i64 (k:Int)∧Hid (Below w.heap.size w wr∧Imgs w.heap.size (img Os) (imgE Os entry) I J wr)) (λxv _=>fed.length-(intOf xv).toNat)
  case atStart=>exact⟨0,Nat.zero_le _,rfl,HE5.out,HG5.out⟩
  case round=>
   clear HE5 HG5;rename World=>wr
   obtain⟨k,hk,rfl,HW⟩:=hrel;by_cases hlt:k<fed.length
   ·have h0:(0:Int)<=(k:Int):=by omega
    have h1:(k:Int)<(fed.length:Int):=by omega
    obtain⟨p',cap',e,-,hfc⟩:=HFK.out wr HW.out.1;cases e;obtain⟨b,o,rfl,f0,f1⟩:=hfc k hlt;have hIm:=HRN.out I J wr fed[k].1 fed[k].2 HW.out.2;obtain⟨kd,tx,su,mu,hO⟩:∃kd tx su mu,aOut (img Os) (imgE Os entry) fed[k].1 fed[k].2=.agg #[.int .i64 kd,.string tx,.int .i64 su,.int .i64 mu]:=⟨_,_,_,_,rfl⟩;rw[hO]at hIm;have HN1:=hid hIm.1;have HN2:=hid hIm.2;clear hIm hO hfc;generalize fed[k].1=fu at*;generalize fed[k].2=sp at*;have f0d:wr.drew.cell? ⟨b,o+k*2,none⟩=_:=f0;have f1d:wr.drew.cell? ⟨b,o+k*2+1,none⟩=_:=f1;have f0a:=λx=>alloc_old wr x _ _ _ f0;have f1a:=λx=>alloc_old wr x _ _ _ f1;go_upto_region 11 with fail
    go_cut [16] (λv16 wx=>∃b16:Nat,v16=.pointer (some ⟨b16,0,none⟩)∧Hid (FBL wx b16 [.int .i64 kd,.string tx,.int .i64 su,.int .i64 mu]∧Below wr.heap.size wr wx))
    case first=>
     go_region_law
      (first
       |(go_simp;go_at_call 10;first
        |(refine(HN1.out _ (Below.refl _ _).drew).mono ?_;rintro e w6 ⟨rfl,HB6⟩;have HT6:Hid (Below wr.heap.size wr w6):=(Below.refl _ _).drew.trans HB6.out)
        |(refine(HN1.out _ ((Below.refl _ _).alloc (Nat.le_refl _) _).drew).mono ?_;rintro e w6 ⟨rfl,HB6⟩;have HT6:Hid (Below wr.heap.size wr w6):=(((Below.refl _ _).alloc (Nat.le_refl _) _).drew:Below wr.heap.size wr (wr.alloc (.cells #[.int .i64 0,.string ⟨#[]⟩,.int .i64 0,.int .i64 0] 36)).drew).trans (HB6.out.mono (by simp));have hz6:FBL w6 wr.heap.size zOu:=(FBL.newO wr (.int .i64 0) (.string ⟨#[]⟩) (.int .i64 0) (.int .i64 0) 36).drew.of_block (HB6.out.block _ (by simp)) HB6.out.size;have z0:=hz6.at 0 rfl;have z1:=hz6.at 1 rfl;have z2:=hz6.at 2 rfl;have z3:=hz6.at 3 rfl;have y0:=hz6.fz 0;have y1:=hz6.fz 1;have y2:=hz6.fz 2;have y3:=hz6.fz 3;have HZ6:=hid hz6;clear hz6)))
     all_goals(try go_wp2)
     all_goals
      go_meet
      refine⟨_,rfl,?_⟩;show _∧_;first
       |with_reducible exact⟨FBL.newO w6 _ _ _ _ _,HT6.out.alloc HT6.out.size _⟩
       |with_reducible exact⟨(FBL.newO w6 _ _ _ _ _).drew,(HT6.out.alloc HT6.out.size _).drew⟩
       |with_reducible exact⟨out_any HZ6.out _ _ _ _,(((HT6.out.setCell (Nat.le_refl _) _).setCell (Nat.le_refl _) _).setCell (Nat.le_refl _) _).setCell (Nat.le_refl _) _⟩
       |with_reducible exact⟨(out_any HZ6.out _ _ _ _).drew,((((HT6.out.setCell (Nat.le_refl _) _).setCell (Nat.le_refl _) _).setCell (Nat.le_refl _) _).setCell (Nat.le_refl _) _).drew⟩
    case rest=>
     rename World=>wx
     obtain⟨b16,rfl,HX⟩:=hcut;have g0:=cell_keep HX.out.2 f0;have g1:=cell_keep HX.out.2 f1;clear f0d f1d f0a f1a f0 f1 HN1;have g0d:wx.drew.cell? ⟨b,o+k*2,none⟩=_:=g0;have g1d:wx.drew.cell? ⟨b,o+k*2+1,none⟩=_:=g1;have g0a:=λx=>alloc_old wx x _ _ _ g0;have g1a:=λx=>alloc_old wx x _ _ _ g1;have HN3:=hid (λX (hX:Below wx.heap.size wx X)=>HN2.out X (HX.out.2.trans (hX.mono HX.out.2.size)));go_upto_region 12 with fail
     go_cut [17] (λv17 wy=>∃b17:Nat,v17=.pointer (some ⟨b17,0,none⟩)∧Hid (FBL wy b17 [.int .i64 kd,.string tx,.int .i64 su,.int .i64 mu]∧Below wx.heap.size wx wy))
     case first=>
      go_region_law
       (first
        |(go_simp;go_at_call 11;first
         |(refine(HN3.out _ (Below.refl _ _).drew).mono ?_;rintro e w6 ⟨rfl,HB6⟩;have HT6:Hid (Below wx.heap.size wx w6):=(Below.refl _ _).drew.trans HB6.out)
         |(refine(HN3.out _ ((Below.refl _ _).alloc (Nat.le_refl _) _).drew).mono ?_;rintro e w6 ⟨rfl,HB6⟩;have HT6:Hid (Below wx.heap.size wx w6):=(((Below.refl _ _).alloc (Nat.le_refl _) _).drew:Below wx.heap.size wx (wx.alloc (.cells #[.int .i64 0,.string ⟨#[]⟩,.int .i64 0,.int .i64 0] 36)).drew).trans (HB6.out.mono (by simp));have hz6:FBL w6 wx.heap.size zOu:=(FBL.newO wx (.int .i64 0) (.string ⟨#[]⟩) (.int .i64 0) (.int .i64 0) 36).drew.of_block (HB6.out.block _ (by simp)) HB6.out.size;have z0:=hz6.at 0 rfl;have z1:=hz6.at 1 rfl;have z2:=hz6.at 2 rfl;have z3:=hz6.at 3 rfl;have y0:=hz6.fz 0;have y1:=hz6.fz 1;have y2:=hz6.fz 2;have y3:=hz6.fz 3;have HZ6:=hid hz6;clear hz6)))
      all_goals(try go_wp2)
      all_goals
       go_meet
       refine⟨_,rfl,?_⟩;show _∧_;first
        |with_reducible exact⟨FBL.newO w6 _ _ _ _ _,HT6.out.alloc HT6.out.size _⟩
        |with_reducible exact⟨(FBL.newO w6 _ _ _ _ _).drew,(HT6.out.alloc HT6.out.size _).drew⟩
        |with_reducible exact⟨out_any HZ6.out _ _ _ _,(((HT6.out.setCell (Nat.le_refl _) _).setCell (Nat.le_refl _) _).setCell (Nat.le_refl _) _).setCell (Nat.le_refl _) _⟩
        |with_reducible exact⟨(out_any HZ6.out _ _ _ _).drew,((((HT6.out.setCell (Nat.le_refl _) _).setCell (Nat.le_refl _) _).setCell (Nat.le_refl _) _).setCell (Nat.le_refl _) _).drew⟩
     case rest=>
      rename World=>wy
      obtain⟨b17,rfl,HY⟩:=hcut;have hA:=HX.out.1.of_block (HY.out.2.block _ HX.out.1.lt) HY.out.2.size;have a0:=hA.at 0 rfl;have a1:=hA.at 1 rfl;have a2:=hA.at 2 rfl;have a3:=hA.at 3 rfl;have c0:=HY.out.1.at 0 rfl;have c1:=HY.out.1.at 1 rfl;have c2:=HY.out.1.at 2 rfl;have c3:=HY.out.1.at 3 rfl;have HXY:=hid (HX.out.2.trans (HY.out.2.mono HX.out.2.size));have HW2:Hid (Below w.heap.size w wy∧Imgs w.heap.size (img Os) (imgE Os entry) I J wy):=⟨HW.out.1.trans (HXY.out.mono HW.out.1.size),HW.out.2.keep HXY.out⟩;clear hA g0 g1 g0d g1d g0a g1a HX HY HN2 HN3 HW HXY;go_wp2;exact⟨⟨k+1,by omega,by go_num,HW2.out⟩,by simp[intOf];omega⟩
   ·obtain rfl:k=fed.length:=by omega
    have h1:¬(fed.length:Int)<(fed.length:Int):=by omega
    go_wp2;go_ret;exact⟨rfl,HW.out.1⟩
end Go.Proofs.YtahmgjjgikgpoaaGreatDoor
namespace Go.Proofs.YtahmgjjgikgpoaaGreatDoor
open Go.ChangeShapes Go.WideShapes Go.ChangeAt Go.RowKit
theorem Tryz.own:ownKnob Tryz.prog.godebug=none:=by kernel_rfl
theorem Tryz.laidOut:laidOutB Tryz.prog=true:=by kernel_rfl
theorem Tryz.readObjs:Tryz.prog.readableRec 22=true:=by kernel_rfl
theorem Tryz.readFeds:Tryz.prog.readableRec 23=true:=by kernel_rfl
theorem pow_of{W:World}(h:laidMet Tryz.prog L13 W):Lib.TabIs Tryz.prog W "internal/strconv.uint64pow10" .u64 Lib.pow10Tab:=by
 obtain⟨r,h2⟩:=laid_mem (x:=("internal/strconv.uint64pow10",Rows.laid_internal_strconv_uint64pow10)) h (List.mem_of_getElem? (i:=2) rfl);rw[show(Rows.laid_internal_strconv_uint64pow10:DataW Unit)=Lib.tabData .u64 Lib.pow10Tab from rfl]at h2;exact Lib.tabIs_of_head (g:=21) (t:=240) (by kernel_rfl) (by kernel_rfl) Tryz.underlying240 Tryz.underlying223 (by kernel_rfl) (by kernel_rfl) h2
theorem runs_contract(H:Type)(enc:TypeId×Value->H)(W:World)(base:Nat)(args:Array Value)(ds gs:List (DataW H))(before:List MemPlace)
 (hval:∀(j:Nat) t v,Tryz.f3.params[j]?=some t->args[j]?=some v->Value.okWide Tryz.prog W .any base t v)
 (hW:DataW.Whole enc Tryz.prog Tryz.f3.params.toList Rows.runsSpec.vars false W args.toList ds gs before)
 (hwt:∀(j:Nat) (t:TypeId) (d:DataW H),Tryz.f3.params.toList[j]?=some t->ds[j]?=some d->∀n∈d.weights Tryz.prog t,n<=reachBytes)
 (hL:laidMetH Tryz.prog Rows.runsRow.laid W):
 Calls Tryz.prog 3 args W λe W'=>∃v,e=.returned v∧Rows.runsSpec.post enc Tryz.prog Tryz.f3 false true false false W args v W':=by
 have hW':=hW;obtain⟨p,q,hA0,hV,rfl,hfz,hnd⟩:=hW;have hA:DataW.TrodAll enc Tryz.prog W 0 (λ_=>true) true Tryz.f3.params.toList args.toList ds p:=hA0;rw[Tryz.params3]at hA hval hwt;obtain⟨v0,vs0,d0,ds0,p0,q0,hargs,rfl,rfl,h0,r0⟩:=trodAll_cons hA;obtain⟨v1,vs1,d1,ds1,p1,q1,hargs1,rfl,rfl,h1,r1⟩:=trodAll_cons r0;obtain⟨v2,vs2,d2,ds2,p2,q2,hargs2,rfl,rfl,h2,r2⟩:=trodAll_cons r1;obtain⟨rfl,rfl,rfl⟩:=trodAll_nil r2;obtain rfl:args=#[v0,v1,v2]:=by cases args;simp_all
 obtain⟨rfl,rfl⟩:=trodVars_none hV;simp only[List.append_nil]at hW';obtain⟨a,len,cap,rfl⟩:=okWide_slice Tryz.underlying22 (hval 0 22 v0 rfl rfl);obtain⟨s,rfl⟩:=okWide_string Tryz.underlying9 (hval 1 9 v1 rfl rfl);obtain⟨f0,h0'⟩:=id h0;obtain⟨Os,hO,hl,hz,hA64⟩:=objs_of2 (v:=.slice a len cap) h0' (hwt 0 22 d0 rfl rfl);obtain⟨f1,h1'⟩:=id h1;obtain⟨s',e0,x0,hs⟩:=DataW.trod_string Tryz.underlying9 h1';obtain rfl:s=s':=by have h:[Value.string s]=[Value.string s']:=e0;simpa using h
 obtain⟨fa,fl,fc,rfl⟩:=okWide_slice Tryz.underlying23 (hval 2 23 v2 rfl rfl);obtain⟨f2,h2'⟩:=id h2;obtain⟨fed,hF⟩:=feds_of (v:=.slice fa fl fc) h2' (hwt 2 23 d2 rfl rfl);have hL:laidMetH Tryz.prog Rows.runsRow.laid W:=hL;obtain⟨adr,hS⟩:=sentAt hL;refine(runs_law Os _ s fed _ W adr hO hl hz hs hA64 hF (tabAt hL) hS (Lib.tabBelow_of_tabIs (pow_of (laid_split hL).1))).mono λe W' ⟨he,hb⟩=>?_;subst he;have hp1:p1=[]:=(Prod.mk.inj x0).2;have hd1:d1=.lit (.string s.data.toList):=(Prod.mk.inj x0).1;subst hp1 hd1;have hlt:∀x∈p0,x.block<W.heap.size:=λx hx=>by simpa using hW'.lt x (by simp[hx])
 have hlt2:∀x∈p2,x.block<W.heap.size:=λx hx=>by simpa using hW'.lt x (by simp[hx])
 refine⟨_,rfl,_,_,_,[],p0++([]++p2),[],by simpa using hW',?_,?_,?_,?_,λh=>by cases h⟩
 ·exact trodAll_mk1 (shut_bool Tryz.underlying4 true)
 ·rw[Tryz.params3];exact trodAll_mk3 (Below.trod Tryz.laidOut Tryz.readObjs (of_decide_eq_true (by kernel_rfl)) h0 hb hlt) (Go.Deep.shut_string_cell Tryz.underlying9 hs) (Below.trod Tryz.laidOut Tryz.readFeds (of_decide_eq_true (by kernel_rfl)) h2 hb hlt2)
 ·rfl
 ·exact hb.frame _
theorem runs_lifted(os:Os)(started:os.Started)(H:Type)(enc:TypeId×Value->H)(F:Stop.Interp):
 ReturnsInHanded {} Tryz.checked os 3 .any ((OpenSpec.ofChange Rows.runsSpec).preRow enc Tryz.prog Tryz.f3 Rows.runsRow.domain false Rows.runsRow.laid) (((OpenSpec.ofChange Rows.runsSpec).at F).post enc Tryz.prog Tryz.f3 false true false false):=by
 obtain⟨places,hx⟩:=reads os enc;refine returnsInHanded_of_row (C:=Tryz.checked) (s:=OpenSpec.ofChange Rows.runsSpec) Tryz.own started (by kernel_rfl) Tryz.func3
  (witness_row_at (enc:=enc) (C:=Tryz.checked) false (laidWorld os) argR rfl (by kernel_rfl) (by kernel_rfl) (by kernel_rfl)
   (OpenSpec.preRow_of_cond 8 hx (by kernel_rfl) (λk hk=>by cases hk) (by kernel_rfl) (laid_met os))) ?_
 intro W base args ds gs before hval hW _ _ hwt hL _ _;refine runs_contract H enc W base args ds gs before hval hW (λj t d ht hd n hn=>?_) hL;have:=List.all_eq_true.1 hwt n (DataW.weights_mem_each (j:=j) (t:=t) (d:=d) (by rw[List.getElem?_append_left (List.getElem?_eq_some_iff.1 ht).1];exact ht) (by rw[List.getElem?_append_left (List.getElem?_eq_some_iff.1 hd).1];exact hd) n hn);simpa using this
theorem runs_said:Rows.RunsSaid:=
 OpenClaim.holds_of_cond 3 Tryz.f3 rfl rfl rfl rfl rfl rfl rfl ⟨rfl,rfl,rfl,rfl,rfl⟩ rfl rfl rfl rfl rfl (by kernel_rfl) Tryz.func3 runs_facts
  (of_decide_eq_true (by kernel_rfl)) (by unfold Func.isWrapper;first|(rw[if_pos (by decide+kernel)];kernel_rfl)|(rw[if_neg (by decide+kernel)];exact⟨rfl,rfl⟩))
  (λos started H enc _ F=>by rw[OpenClaim.pre_eq_preRow];exact runs_lifted os started H enc F)
end Go.Proofs.YtahmgjjgikgpoaaGreatDoor

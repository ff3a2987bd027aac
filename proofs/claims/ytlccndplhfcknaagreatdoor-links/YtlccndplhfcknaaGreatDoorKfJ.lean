import Derived.Test.YtlccndplhfcknaaGreatDoorJoJ
import Derived.Test.YtlccndplhfcknaaGreatDoorJjJ
import Derived.Test.YtlccndplhfcknaaGreatDoorJlJ
set_option maxRecDepth 100000
set_option maxHeartbeats 4000000
namespace Go.Proofs.YtlccndplhfcknaaGreatDoor
open Go.RowKit Go.Sort
def code7:List LIns:=[⟨0,7,[]⟩,⟨5,0,[]⟩,⟨19,0,[]⟩]
def tMain:ByteArray:=⟨#[109,97,105,110]⟩
def G7:LGlob:=⟨tMain,0,true,code7⟩
def O7:LObj:=⟨⟨#[109]⟩,[],[G7]⟩
theorem o7_vals:valsG O7=true:=by kernel_rfl
theorem out70:outI ⟨0,7,[]⟩ 1=2:=by kernel_rfl
theorem out75:outI ⟨5,0,[]⟩ 2=1:=by kernel_rfl
theorem least7:Least code7 1 [1,2,1]:=by
 refine⟨⟨rfl,leI.refl _,λk hk s hs=>?_⟩,λg hg i hi=>?_⟩
 ·rcases(show k=0∨k=1∨k=2 by simp[code7]at hk;omega) with rfl|rfl|rfl
  ·obtain rfl:s=1:=by simpa[code7,succs]using hs
   show leI (outI ⟨0,7,[]⟩ 1) 2;rw[out70];exact leI.refl _
  ·obtain rfl:s=2:=by simpa[code7,succs]using hs
   show leI (outI ⟨5,0,[]⟩ 2) 1;rw[out75];exact leI.refl _
  ·simp[code7,succs]at hs
 ·have h0:leI 1 (g.getD 0 0):=hg.start;have h1:leI 2 (g.getD 1 0):=(out70▸outI_mono ⟨0,7,[]⟩ h0:leI 2 (outI ⟨0,7,[]⟩ (g.getD 0 0))).trans (hg.step 0 (by simp[code7]) 1 (by simp[code7,succs]));have h2:leI 1 (g.getD 2 0):=(out75▸outI_mono ⟨5,0,[]⟩ h1:leI 1 (outI ⟨5,0,[]⟩ (g.getD 1 0))).trans (hg.step 1 (by simp[code7]) 2 (by simp[code7,succs]));rcases(show i=0∨i=1∨i=2 by simp[code7]at hi;omega) with rfl|rfl|rfl
  ·exact h0
  ·exact h1
  ·exact h2
theorem o7_bad:sBad 1 [G7] 0=none:=by
 have h:gBad code7 1 1=none:=by
  rw[gBad_depth (d0:=1) (most:=1) (code:=code7) (by kernel_rfl) (by simp[code7]) (by kernel_rfl) least7];kernel_rfl
 show(match gBad code7 (0+1) 1 with|some (e,i)=>some (e,0,i)|none=>sBad 1 [] 1)=none;rw[show(0:Int)+1=1 from rfl,h];rfl
theorem o7_doc:docS O7=resS none:=by
 unfold docS;rw[o7_vals];show resS (sBad (((0:Nat):Int)+((1:Nat):Int)) [G7] 0)=_;rw[show(((0:Nat):Int)+((1:Nat):Int))=1 by rfl,o7_bad]
theorem o7_ok:okO O7=true:=by
 unfold okO;rw[o7_vals];show(sBad (((0:Nat):Int)+((1:Nat):Int)) [G7] 0).isNone=_;rw[show(((0:Nat):Int)+((1:Nat):Int))=1 by rfl,o7_bad];rfl
theorem o7_lnk:lnkE [O7] tMain=none:=by
 unfold lnkE;rw[if_neg (by simp)];have h0:fstF (λ_ O=>!okO O) [O7] 0=none:=by
  unfold fstF;rw[o7_ok];rfl
 rw[h0];have h1:fstF (twB [O7]) [O7] 0=none:=by kernel_rfl
 have h2:fstF (λ_=>miB [O7]) [O7] 0=none:=by kernel_rfl
 have h3:fstF (λ_=>arB2 [O7]) [O7] 0=none:=by kernel_rfl
 rw[h1,h2,h3];show lnkX [O7] tMain=none;kernel_rfl
theorem o7_img:img [O7]=[⟨tMain,0,true,code7⟩]:=by kernel_rfl
theorem o7_ent:imgE [O7] tMain=0:=by kernel_rfl
theorem lnkX_kind{Os:List LObj}{entry:ByteArray}{x:Nat×Nat}(h:lnkX Os entry=some x):x=(17,0)∨x=(18,0):=by
 unfold lnkX at h;split at h
 ·cases h;exact Or.inl rfl
 ·split at h
  ·cases h;exact Or.inl rfl
  ·split at h
   ·cases h;exact Or.inr rfl
   ·cases h
theorem lnk_kind{Os:List LObj}{entry:ByteArray}{x:Nat×Nat}(h:lnkE Os entry=some x):(x=(17,0)∨x=(18,0))∨((x.1=0∨x.1=14∨x.1=15∨x.1=16)∧x.2<Os.length):=by
 unfold lnkE at h;split at h
 ·cases h;exact Or.inl (Or.inr rfl)
 ·unfold orE at h;split at h
  ·rename_i k hk;cases h;have:=fstF_ge hk;exact Or.inr ⟨Or.inl rfl,by simpa using this.2⟩
  ·split at h
   ·rename_i k hk;cases h;have:=fstF_ge hk;exact Or.inr ⟨Or.inr (Or.inl rfl),by simpa using this.2⟩
   ·split at h
    ·rename_i k hk;cases h;have:=fstF_ge hk;exact Or.inr ⟨Or.inr (Or.inr (Or.inl rfl)),by simpa using this.2⟩
    ·split at h
     ·rename_i k hk;cases h;have:=fstF_ge hk;exact Or.inr ⟨Or.inr (Or.inr (Or.inr rfl)),by simpa using this.2⟩
     ·exact Or.inl (lnkX_kind h)
theorem lnk_told{w:World}{adr:Nat->Addr}(hS:SentAt w adr){Os:List LObj}{entry:ByteArray}{x:Nat×Nat}(h:lnkE Os entry=some x):(∃t y,lnkV adr x=.iface t y)∧Told w (lnkV adr x) (kCode x.1) 0 (x.2:Int):=by
 rcases lnk_kind h with h1|⟨h1,h2⟩
 ·rcases h1 with rfl|rfl
  ·exact⟨⟨_,_,rfl⟩,told_plain hS 17 (by omega)⟩
  ·exact⟨⟨_,_,rfl⟩,told_plain hS 18 (by omega)⟩
 ·obtain⟨i,k⟩:=x;have e:lnkV adr (i,k)=errF (adr i) 0 (k:Int):=by
   unfold lnkV;rw[if_neg (by simp only at h1 ⊢;omega)]
  rw[e];simp only at h1;exact⟨⟨_,_,rfl⟩,told_fault hS i (by omega) 0 _⟩
def LinkRes(Os:List LObj)(entry:ByteArray)(w:World)(e:Ending)(w':World):Prop:=Below w.heap.size w w'∧match lnkE Os entry with
 |some x=>e=.returned (.tuple #[.pointer none,.int .i64 (kCode x.1),.int .i64 (x.2:Int)])
 |none=>∃I p n c,e=.returned (.tuple #[.pointer (some ⟨I,0,none⟩),.int .i64 0,.int .i64 0])∧w.heap.size<=I∧R2 w' I (.slice p n c) (.int .i64 (imgE Os entry))∧MGAt 0 w' (.slice p n c) (img Os)
theorem fldP1(x y:Value)(w:World):Sem.run Tryz.prog (Instr.field 46 (.agg #[x,y]) 1) w=.ok y w:=by kernel_rfl
theorem tarnLink_any(Os:List LObj)(v:Value)(entry:ByteArray)(w:World)(adr:Nat->Addr)(h:ObjsAt w v Os)(hZ:Szd Os)(he:entry.size<=maxLen)(hT:TabAt w)(hS:SentAt w adr):
 Calls Tryz.prog 6 #[v,.string entry] w λe w'=>LinkRes Os entry w e w':=by
 have HO:=hid (objects_any Os v entry w adr h hZ he hT hS);obtain⟨p,cap,rfl,-⟩:=id h;have F1:=fldP1;cases hL:lnkE Os entry with
 |some x=>
  obtain⟨⟨et,ey,hv⟩,-⟩:=lnk_told (adr:=adr) hS hL;have HOS:Hid (Calls Tryz.prog 13 #[.slice p Os.length cap,.string entry] w λe w'=>e=.returned (.tuple #[.agg #[.slice none 0 0,.int .i64 0],.iface et ey])∧Below w.heap.size w w'):=HO.out.mono λe w' hr=>by
   obtain⟨h1,h2⟩:=hr;rw[hL]at h2;rw[<-hv];exact⟨h2,h1⟩
  have HTD:=hid (λw1 (hb:Below w.heap.size w w1)=>hv▸(lnk_told (adr:=adr) (hS.keep hb) hL).2);have HL:=hid hL;clear h hT hS HO hL hv;go_enter Tryz.func6,Tryz.ntmps6;go_wp2_with (first
   |(go_at_call 13;refine HOS.out.mono ?_;rintro e w1 ⟨rfl,hb1⟩;have HB1:=hid hb1;have HTW:=hid (HTD.out w1 hb1);clear hb1)
   |(go_at_call 14;refine(HTW.out.kind _ ((Below.refl _ _).alloc (Nat.le_refl _) _)).mono ?_;rintro e w3 ⟨rfl,hb3⟩;have HB3:=hid (((Below.refl _ _).alloc (Nat.le_refl _) _).trans (hb3.mono (by simp)):Below w1.heap.size w1 w3);clear hb3)
   |(go_at_call 15;refine(HTW.out.place _ HB3.out).mono ?_;rintro e w5 ⟨rfl,hb5⟩;have HB5:=hid (HB1.out.trans ((HB3.out.trans (hb5.mono HB3.out.size)).mono HB1.out.size));clear hb5))
  go_ret3
  refine⟨HB5.out,?_⟩;rw[HL.out];rfl
 |none=>
  have HOS:Hid (Calls Tryz.prog 13 #[.slice p Os.length cap,.string entry] w λe w'=>∃gp gn gc,e=.returned (.tuple #[.agg #[.slice gp gn gc,.int .i64 (imgE Os entry)],.nilIface])∧Below w.heap.size w w'∧Hid (MGAt 0 w' (.slice gp gn gc) (img Os))):=HO.out.mono λe w' hr=>by
   obtain⟨h1,h2⟩:=hr;rw[hL]at h2;obtain⟨a,b,c,h2,h3⟩:=h2;exact⟨a,b,c,h2,h1,h3⟩
  have HL:=hid hL;clear h hT hS HO hL;go_enter Tryz.func6,Tryz.ntmps6;go_wp2_with (first
   |(go_at_call 13;refine HOS.out.mono ?_;rintro e w1 ⟨gp,gn,gc,rfl,hb1,HMG⟩;have HB1:=hid hb1;clear hb1))
  go_ret3
  have hz:=HB1.out.size;refine⟨(HB1.out.alloc hz _).alloc (by simp;omega) _,?_⟩;rw[HL.out];have hr:=R2.new (w1.alloc (.cells #[.slice gp gn gc,.int .i64 (imgE Os entry)] 55)) (.slice gp gn gc) (.int .i64 (imgE Os entry)) 63;rw[World.size_alloc]at hr;exact⟨_,gp,gn,gc,rfl,by omega,hr,(HMG.out.keep ((Below.refl _ _).alloc (Nat.le_refl _) _)).keep ((Below.refl _ _).alloc (Nat.le_refl _) _)⟩
theorem RoomsR.keep{w w':World}{v rv:Value}{Os:List LObj}{V:List (Value×Value)}(h:RoomsR w v rv Os V)(hb:Below w.heap.size w w'):RoomsR w' v rv Os V:=by
 rcases h with h|⟨a,n,c,g,cap,R,e1,e2,h1,h2,h3,h4⟩
 ·exact Or.inl h
 ·refine Or.inr ⟨a,n,c,g,cap,R,e1,e2,h1,h2,λi k1 k2 k3=>?_,cell_keep hb h4⟩;obtain⟨c0,c1,c2,hq⟩:=h3 i k1 k2 k3;exact⟨cell_keep hb c0,cell_keep hb c1,cell_keep hb c2,hq.fr hb.size λb _ hl=>⟨trivial,hb.block b hl⟩⟩
theorem RoomsR.objs{w:World}{p rp:Option Addr}{cap rc:Nat}{Os:List LObj}{V:List (Value×Value)}(h:RoomsR w (.slice p Os.length cap) (.slice rp Os.length rc) Os V)(hV:OV w p Os V)(hs:short Os.length)(hp:p=none->Os.length=0):ObjsAt w (.slice rp Os.length rc) Os:=by
 rcases h with⟨n,c,e1,e2⟩|⟨a,n,c,g,cap',R,e1,e2,h1,h2,h3,h4⟩
 ·cases e1;have h0:=hp rfl;exact⟨rp,rc,rfl,hs,λi hi=>absurd hi (by omega)⟩
 ·cases e2;refine⟨_,_,rfl,hs,λi hi=>?_⟩;have hv:i<V.length:=by rw[hV.len];exact hi
  have hr:i<R.length:=by rw[h2];exact hi
  obtain⟨c0,c1,c2,hq⟩:=h3 i hi hv hr;obtain⟨b,o,-,-,-,-,hO⟩:=hV.c i hi hv;have hO2:=room_obj hO (Below.refl _ _) hq.kept.1 hq.kept.2;obtain⟨ip,ic,gp,gc,e3,e4⟩:=room_slices hO2;rw[e3]at c1 hO2;rw[e4]at c2 hO2;exact⟨g,0,ip,ic,gp,gc,rfl,by rw[Nat.zero_add];exact c0,by rw[Nat.zero_add];exact c1,by rw[Nat.zero_add];exact c2,hO2⟩
theorem links_but(Os:List LObj)(v:Value)(entry:ByteArray)(w:World)(adr:Nat->Addr)(h:ObjsAt w v Os)(hl:Os.length*64<=140737488351232)(hz:∀O∈Os,SizedO O.imps O.globs)(he:entry.size<=maxLen)(hT:TabAt w)(hS:SentAt w adr)
 (hr:Calls Tryz.prog 4 #[] w λe w'=>e=.returned (.bool true)∧Below w.heap.size w w'):
 Calls Tryz.prog 3 #[v,.string entry] w λe w'=>e=.returned (.bool true)∧Below w.heap.size w w':=by
 have HZ:Hid (Szd Os):=λO hO=>⟨(hz O hO).2.1,(hz O hO).1⟩;obtain⟨p,cap,rfl,hs,hI⟩:=id h;have hp:p=none->Os.length=0:=λe=>by
  by_cases h0:Os.length=0
  ·exact h0
  ·obtain⟨b,o,ip,ic,gp,gc,e2,-⟩:=hI 0 (by omega);rw[e]at e2;cases e2
 obtain⟨V,hV⟩:=hI.v;have HR:=hid hr;have HRM:Hid (∀w1,Below w.heap.size w w1->Calls Tryz.prog 5 #[.slice p Os.length cap] w1 λe w2=>∃rp rc,e=.returned (.slice rp Os.length rc)∧Hid (Below w.heap.size w w2∧RoomsR w2 (.slice p Os.length cap) (.slice rp Os.length rc) Os V)):=λw1 hb1=>(rooms_any Os p cap V w1 (hV.keep hb1) hp hz hl).mono λe w2 ⟨hb2,rp,rc,e2,h2⟩=>⟨rp,rc,e2,hb1.trans (hb2.mono hb1.size),h2⟩;have HKP:Hid (∀w1 rp rc,Below w.heap.size w w1->RoomsR w1 (.slice p Os.length cap) (.slice rp Os.length rc) Os V->Calls Tryz.prog 8 #[.slice rp Os.length rc,.slice p Os.length cap] w1 λe w2=>e=.returned (.bool true)∧Hid (Below w.heap.size w w2)):=λw1 rp rc hb1 hR=>(keeps_any Os p rp cap rc V w1 (hV.keep hb1) hp hR hl).mono λe w2 ⟨e2,hb2⟩=>⟨e2,hb1.trans (hb2.mono hb1.size)⟩;cases hL:lnkE Os entry with
 |some x=>
  have HLK:Hid (∀w1 rp rc,Below w.heap.size w w1->RoomsR w1 (.slice p Os.length cap) (.slice rp Os.length rc) Os V->Calls Tryz.prog 6 #[.slice rp Os.length rc,.string entry] w1 λe w2=>e=.returned (.tuple #[.pointer none,.int .i64 (kCode x.1),.int .i64 (x.2:Int)])∧Hid (Below w.heap.size w w2∧RoomsR w2 (.slice p Os.length cap) (.slice rp Os.length rc) Os V)):=λw1 rp rc hb1 hR=>(tarnLink_any Os _ entry w1 adr (hR.objs (hV.keep hb1) hs hp) HZ.out he (hT.keep hb1) (hS.keep hb1)).mono λe w2 ⟨hb2,h2⟩=>by
   rw[hL]at h2;exact⟨h2,hb1.trans (hb2.mono hb1.size),hR.keep hb2⟩
  have HRL:Hid (∀w1 rp rc,Below w.heap.size w w1->RoomsR w1 (.slice p Os.length cap) (.slice rp Os.length rc) Os V->Calls Tryz.prog 7 #[.slice p Os.length cap,.string entry] w1 λe w2=>e=.returned (.tuple #[.pointer none,.int .i64 (kCode x.1),.int .i64 (x.2:Int)])∧Hid (Below w.heap.size w w2∧RoomsR w2 (.slice p Os.length cap) (.slice rp Os.length rc) Os V)):=λw1 rp rc hb1 hR=>(refLink_any Os _ entry w1 (h.keep hb1) HZ.out).mono λe w2 ⟨hb2,h2⟩=>by
   rw[hL]at h2;exact⟨h2,hb1.trans (hb2.mono hb1.size),hR.keep hb2⟩
  clear h hT hS hr hI hV hz hL;go_enter Tryz.func3,Tryz.ntmps3;go_wp2_with (first
   |(go_at_call 4;refine HR.out.mono ?_;rintro e w1 ⟨rfl,hb1⟩;have HM:=hid (HRM.out w1 hb1);clear hb1)
   |(go_at_call 5;refine HM.out.mono ?_;rintro e w2 ⟨rp,rc,rfl,hq2⟩;have HL2:=hid (HLK.out w2 rp rc hq2.out.1 hq2.out.2);clear hq2 HM)
   |(go_at_call 6;refine HL2.out.mono ?_;rintro e w3 ⟨rfl,hq3⟩;have HL3:=hid (HRL.out w3 rp rc hq3.out.1 hq3.out.2);clear hq3)
   |(go_at_call 7;refine HL3.out.mono ?_;rintro e w4 ⟨rfl,hq4⟩;have HK4:=hid (HKP.out w4 rp rc hq4.out.1 hq4.out.2);clear hq4)
   |(go_at_call 8;refine HK4.out.mono ?_;rintro e w5 ⟨rfl,HB5⟩)
   |(go_at_call 9;refine(lawNum_any _ _).mono ?_;rintro e w6 ⟨rfl,rfl⟩))
  go_ret;exact⟨rfl,HB5.out⟩
 |none=>
  have HLK:Hid (∀w1 rp rc,Below w.heap.size w w1->RoomsR w1 (.slice p Os.length cap) (.slice rp Os.length rc) Os V->Calls Tryz.prog 6 #[.slice rp Os.length rc,.string entry] w1 λe w2=>∃I:Nat,e=.returned (.tuple #[.pointer (some ⟨I,0,none⟩),.int .i64 0,.int .i64 0])∧Hid (Below w.heap.size w w2∧RoomsR w2 (.slice p Os.length cap) (.slice rp Os.length rc) Os V)):=λw1 rp rc hb1 hR=>(tarnLink_any Os _ entry w1 adr (hR.objs (hV.keep hb1) hs hp) HZ.out he (hT.keep hb1) (hS.keep hb1)).mono λe w2 ⟨hb2,h2⟩=>by
   rw[hL]at h2;obtain⟨I,q,n,c,h2,-⟩:=h2;exact⟨I,h2,hb1.trans (hb2.mono hb1.size),hR.keep hb2⟩
  have HRL:Hid (∀w1 rp rc,Below w.heap.size w w1->RoomsR w1 (.slice p Os.length cap) (.slice rp Os.length rc) Os V->Calls Tryz.prog 7 #[.slice p Os.length cap,.string entry] w1 λe w2=>∃I:Nat,e=.returned (.tuple #[.pointer (some ⟨I,0,none⟩),.int .i64 0,.int .i64 0])∧Hid (Below w.heap.size w w2∧RoomsR w2 (.slice p Os.length cap) (.slice rp Os.length rc) Os V)):=λw1 rp rc hb1 hR=>(refLink_any Os _ entry w1 (h.keep hb1) HZ.out).mono λe w2 ⟨hb2,h2⟩=>by
   rw[hL]at h2;obtain⟨I,gv,h2,-⟩:=h2;exact⟨I,h2,hb1.trans (hb2.mono hb1.size),hR.keep hb2⟩
  clear h hT hS hr hI hV hz hL;go_enter Tryz.func3,Tryz.ntmps3;go_wp2_with (first
   |(go_at_call 4;refine HR.out.mono ?_;rintro e w1 ⟨rfl,hb1⟩;have HM:=hid (HRM.out w1 hb1);clear hb1)
   |(go_at_call 5;refine HM.out.mono ?_;rintro e w2 ⟨rp,rc,rfl,hq2⟩;have HL2:=hid (HLK.out w2 rp rc hq2.out.1 hq2.out.2);clear hq2 HM)
   |(go_at_call 6;refine HL2.out.mono ?_;rintro e w3 ⟨I,rfl,hq3⟩;have HL3:=hid (HRL.out w3 rp rc hq3.out.1 hq3.out.2);clear hq3)
   |(go_at_call 7;refine HL3.out.mono ?_;rintro e w4 ⟨I2,rfl,hq4⟩;have HK4:=hid (HKP.out w4 rp rc hq4.out.1 hq4.out.2);clear hq4)
   |(go_at_call 8;refine HK4.out.mono ?_;rintro e w5 ⟨rfl,HB5⟩)
   |(go_at_call 9;refine(lawNum_any _ _).mono ?_;rintro e w6 ⟨rfl,rfl⟩))
  go_ret;exact⟨rfl,HB5.out⟩
end Go.Proofs.YtlccndplhfcknaaGreatDoor

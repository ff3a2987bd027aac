import Derived.Test.YtcpcplaeaimmpaaGreatDoorJuS
set_option maxRecDepth 100000
set_option maxHeartbeats 4000000
namespace Go.Proofs.YtcpcplaeaimmpaaGreatDoor
open Go.RowKit Go.Sort
theorem lnkX_kind{Os:List LObj}{entry:ByteArray}{x:Nat×Nat}(h:lnkX Os entry=some x):x=(17,0)∨x=(18,0):=by
 unfold lnkX at h;split at h
 ·cases h;exact Or.inl rfl
 ·split at h
  ·cases h;exact Or.inl rfl
  ·split at h
   ·cases h;exact Or.inr rfl
   ·cases h
theorem lnk_kind{Os:List LObj}{entry:ByteArray}{x:Nat×Nat}(h:lnkE Os entry=some x):(x=(17,0)∨x=(18,0))∨((x.1=0∨x.1=14∨x.1=15∨x.1=16)∧x.2<Os.length):=by
 unfold lnkE at h;split at h
 ·cases h;exact Or.inl (Or.inr rfl)
 ·unfold orE at h;split at h
  ·rename_i k hk;cases h;have:=fstF_ge hk;exact Or.inr ⟨Or.inl rfl,by simpa using this.2⟩
  ·split at h
   ·rename_i k hk;cases h;have:=fstF_ge hk;exact Or.inr ⟨Or.inr (Or.inl rfl),by simpa using this.2⟩
   ·split at h
    ·rename_i k hk;cases h;have:=fstF_ge hk;exact Or.inr ⟨Or.inr (Or.inr (Or.inl rfl)),by simpa using this.2⟩
    ·split at h
     ·rename_i k hk;cases h;have:=fstF_ge hk;exact Or.inr ⟨Or.inr (Or.inr (Or.inr rfl)),by simpa using this.2⟩
     ·exact Or.inl (lnkX_kind h)
theorem lnk_told{w:World}{adr:Nat->Addr}(hS:SentAt w adr){Os:List LObj}{entry:ByteArray}{x:Nat×Nat}(h:lnkE Os entry=some x):(∃t y,lnkV adr x=.iface t y)∧Told w (lnkV adr x) (kCode x.1) 0 (x.2:Int):=by
 rcases lnk_kind h with h1|⟨h1,h2⟩
 ·rcases h1 with rfl|rfl
  ·exact⟨⟨_,_,rfl⟩,told_plain hS 17 (by omega)⟩
  ·exact⟨⟨_,_,rfl⟩,told_plain hS 18 (by omega)⟩
 ·obtain⟨i,k⟩:=x;have e:lnkV adr (i,k)=errF (adr i) 0 (k:Int):=by
   unfold lnkV;rw[if_neg (by simp only at h1 ⊢;omega)]
  rw[e];simp only at h1;exact⟨⟨_,_,rfl⟩,told_fault hS i (by omega) 0 _⟩
def LinkRes(Os:List LObj)(entry:ByteArray)(w:World)(e:Ending)(w':World):Prop:=Below w.heap.size w w'∧match lnkE Os entry with
 |some x=>e=.returned (.tuple #[.pointer none,.int .i64 (kCode x.1),.int .i64 (x.2:Int)])
 |none=>∃I p n c,e=.returned (.tuple #[.pointer (some ⟨I,0,none⟩),.int .i64 0,.int .i64 0])∧w.heap.size<=I∧R2 w' I (.slice p n c) (.int .i64 (imgE Os entry))∧MGAt w.heap.size w' (.slice p n c) (img Os)
theorem fldP1(x y:Value)(w:World):Sem.run Tryz.prog (Instr.field 31 (.agg #[x,y]) 1) w=.ok y w:=by kernel_rfl
theorem tarnLink_any(Os:List LObj)(v:Value)(entry:ByteArray)(w:World)(adr:Nat->Addr)(h:ObjsAt w v Os)(hZ:Szd Os)(he:entry.size<=maxLen)(hT:TabAt w)(hS:SentAt w adr):
 Calls Tryz.prog 31 #[v,.string entry] w λe w'=>LinkRes Os entry w e w':=by
 have HO:=hid (objects_any Os v entry w adr h hZ he hT hS);obtain⟨p,cap,rfl,-⟩:=id h;have F1:=fldP1;cases hL:lnkE Os entry with
 |some x=>
  obtain⟨⟨et,ey,hv⟩,-⟩:=lnk_told (adr:=adr) hS hL;have HOS:Hid (Calls Tryz.prog 60 #[.slice p Os.length cap,.string entry] w λe w'=>e=.returned (.tuple #[.agg #[.slice none 0 0,.int .i64 0],.iface et ey])∧Below w.heap.size w w'):=HO.out.mono λe w' hr=>by
   obtain⟨h1,h2⟩:=hr;rw[hL]at h2;rw[<-hv];exact⟨h2,h1⟩
  have HTD:=hid (λw1 (hb:Below w.heap.size w w1)=>hv▸(lnk_told (adr:=adr) (hS.keep hb) hL).2);have HL:=hid hL;clear h hT hS HO hL hv;go_enter Tryz.func31,Tryz.ntmps31;go_wp2_with (first
   |(go_at_call 60;refine HOS.out.mono ?_;rintro e w1 ⟨rfl,hb1⟩;have HB1:=hid hb1;have HTW:=hid (HTD.out w1 hb1);clear hb1)
   |(go_at_call 14;refine(HTW.out.kind _ ((Below.refl _ _).alloc (Nat.le_refl _) _)).mono ?_;rintro e w3 ⟨rfl,hb3⟩;have HB3:=hid (((Below.refl _ _).alloc (Nat.le_refl _) _).trans (hb3.mono (by simp)):Below w1.heap.size w1 w3);clear hb3)
   |(go_at_call 16;refine(HTW.out.place _ HB3.out).mono ?_;rintro e w5 ⟨rfl,hb5⟩;have HB5:=hid (HB1.out.trans ((HB3.out.trans (hb5.mono HB3.out.size)).mono HB1.out.size));clear hb5))
  go_ret3
  refine⟨HB5.out,?_⟩;rw[HL.out];rfl
 |none=>
  have HOS:Hid (Calls Tryz.prog 60 #[.slice p Os.length cap,.string entry] w λe w'=>∃gp gn gc,e=.returned (.tuple #[.agg #[.slice gp gn gc,.int .i64 (imgE Os entry)],.nilIface])∧Below w.heap.size w w'∧Hid (MGAt w.heap.size w' (.slice gp gn gc) (img Os))):=HO.out.mono λe w' hr=>by
   obtain⟨h1,h2⟩:=hr;rw[hL]at h2;obtain⟨a,b,c,h2,h3⟩:=h2;exact⟨a,b,c,h2,h1,h3⟩
  have HL:=hid hL;clear h hT hS HO hL;go_enter Tryz.func31,Tryz.ntmps31;go_wp2_with (first
   |(go_at_call 60;refine HOS.out.mono ?_;rintro e w1 ⟨gp,gn,gc,rfl,hb1,HMG⟩;have HB1:=hid hb1;clear hb1))
  go_ret3
  have hz:=HB1.out.size;refine⟨(HB1.out.alloc hz _).alloc (by simp;omega) _,?_⟩;rw[HL.out];have hr:=R2.new (w1.alloc (.cells #[.slice gp gn gc,.int .i64 (imgE Os entry)] 99)) (.slice gp gn gc) (.int .i64 (imgE Os entry)) 101;rw[World.size_alloc]at hr;exact⟨_,gp,gn,gc,rfl,by omega,hr,(HMG.out.keep ((Below.refl _ _).alloc (Nat.le_refl _) _)).keep ((Below.refl _ _).alloc (Nat.le_refl _) _)⟩
end Go.Proofs.YtcpcplaeaimmpaaGreatDoor

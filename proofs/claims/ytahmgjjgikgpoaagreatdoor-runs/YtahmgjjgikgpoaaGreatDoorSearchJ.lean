import Derived.Test.YtahmgjjgikgpoaaGreatDoorLeaf3J
import Derived.Test.YtahmgjjgikgpoaaGreatDoorShIJ
set_option maxRecDepth 100000
set_option maxHeartbeats 1000000
namespace Go.Proofs.YtahmgjjgikgpoaaGreatDoor
open Go.RowKit
theorem cmp_run(a b:ByteArray)(w:World):(callFunc 140 #[.string a,.string b]).run Tryz.prog w=.ok (.value (.int .i64 (cmpB a b))) w:=by
 have h:=@run_callFunc_extern Tryz.prog 140 _ Extern.BytealgCompare.compare Tryz.func140 (by kernel_rfl) (by kernel_rfl) (by kernel_rfl) (by kernel_rfl);rw[h,Lib.run_compareString];rfl
theorem Compare_any(a b:ByteArray)(w:World):Calls Tryz.prog 121 #[.string a,.string b] w λe w'=>e=.returned (.int .i64 (cmpB a b))∧w'=w:=by
 have h:=cmp_run;go_enter Tryz.func121,Tryz.ntmps121;go_wp2;go_ret;exact⟨rfl,rfl⟩
theorem closure_any(a b:ByteArray)(n:Int)(w:World):Calls Tryz.prog 120 #[.agg #[.string a,.int .i64 n],.string b] w λe w'=>e=.returned (.int .i64 (cmpB a b))∧Below w.heap.size w w':=by
 go_enter Tryz.func120,Tryz.ntmps120;go_wp2_with (first|(go_at_call 121;refine(Compare_any _ _ _).mono ?_;rintro e w' ⟨rfl,rfl⟩))
 go_ret;exact⟨rfl,(Below.refl _ _).alloc (Nat.le_refl _) _⟩
theorem int_eq{k:IntKind}{a b:Int}(h:a=b):Value.int k a=.int k b:=by rw[h]
theorem search_any(l:List LImp)(v:Value)(n:ByteArray)(w:World)(hI:ImpsAt w v l)(hr:Rising l):
 Calls Tryz.prog 119 #[v,.string n,.func (.func 120) #[] #[]] w λe w'=>(∃k:Int,e=.returned (.tuple #[.int .i64 k,.bool (hasN l n)]))∧Below w.heap.size w w':=by
 obtain⟨p,cap,rfl,hs1,hcell⟩:=hI.open;have HC:Hid (∀w',Below w.heap.size w w'->ImpsIn w' p l):=hcell;have HR:Hid (Rising l):=hr;clear hcell hI hr;go_enter Tryz.func119,Tryz.ntmps119;go_wp2;go_loopw [9,10] (λs t wr=>∃i j:Nat,i<=j∧j<=l.length∧s=.int .i64 i∧t=.int .i64 j∧Hid (Sides l n i j)∧Below w.heap.size w wr) (λs t _=>(intOf t).toNat-(intOf s).toNat)
 case atStart=>exact⟨0,l.length,Nat.zero_le _,Nat.le_refl _,rfl,rfl,⟨λ_ _ h=>absurd h (by omega),λa h1 h2=>absurd h1 (by omega)⟩,Below.refl _ _⟩
 case round=>
  obtain⟨i,j,hij,hjl,rfl,rfl,hs,hb⟩:=hrel;by_cases hlt:i<j
  ·obtain⟨b,o,rfl,c0,c1,_⟩:=HC.out _ hb ((i+j) / 2) (by omega);have e2:(((i:Int)+(j:Int)) / 2).toNat=(i+j) / 2:=by omega
   have HH:(i+j) / 2<l.length:=by omega
   generalize hnm:(l[(i+j) / 2]'HH).name=nm at*;generalize har:(l[(i+j) / 2]'HH).arity=ar at*;have HN:Hid ((l[(i+j) / 2]'HH).name=nm):=hnm;clear hnm har;go_wp2_with (first|(go_at_call 120;refine(closure_any _ _ _ _).mono ?_;rintro e w' ⟨rfl,hb2⟩))
   case roundEnd=>exact⟨⟨(i+j) / 2+1,j,by omega,hjl,int_eq (by omega),rfl,hs.out.left HR.out HH (by rw[HN.out];assumption),hb.trans (hb2.mono hb.size)⟩,by simp[intOf];omega⟩
   case roundEnd=>exact⟨⟨i,(i+j) / 2,by omega,by omega,rfl,int_eq (by omega),hs.out.right HR.out HH (by rw[HN.out];omega),hb.trans (hb2.mono hb.size)⟩,by simp[intOf];omega⟩
  ·obtain rfl:i=j:=by omega
   by_cases hil:i<l.length
   ·obtain⟨b,o,rfl,c0,c1,_⟩:=HC.out _ hb i hil;have HF:Hid (hasN l n=(cmpB l[i].name n==0)):=hs.out.found HR.out hil;go_wp2_with (first|(go_at_call 120;refine(closure_any _ _ _ _).mono ?_;rintro e w' ⟨rfl,hb2⟩))
    go_ret2
    exact⟨⟨_,by rw[HF.out];rfl⟩,hb.trans (hb2.mono hb.size)⟩
   ·have HF:Hid (hasN l n=false):=hs.out.none hil;go_wp2;go_ret2
    exact⟨⟨_,by rw[HF.out];rfl⟩,hb⟩
theorem Imported_any(l:List LImp)(v:Value)(n:ByteArray)(w:World)(hI:ImpsAt w v l)(hr:Rising l):
 Calls Tryz.prog 91 #[v,.string n] w λe w'=>e=.returned (.bool (hasN l n))∧Below w.heap.size w w':=by
 have HI:Hid (ImpsAt w v l):=hI;have HR:Hid (Rising l):=hr;clear hI hr;go_enter Tryz.func91,Tryz.ntmps91;go_wp2_with (first|(go_at_call 119;refine(search_any l _ _ _ HI.out HR.out).mono ?_;rintro e w' ⟨⟨k,rfl⟩,hb2⟩))
 go_ret;exact⟨rfl,hb2⟩
end Go.Proofs.YtahmgjjgikgpoaaGreatDoor

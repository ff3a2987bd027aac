import Derived.Test.YtlccndplhfcknaaGreatDoorLeaf2J
set_option maxRecDepth 100000
namespace Go.Proofs.YtlccndplhfcknaaGreatDoor
open Go.RowKit
theorem within7_any(w:World):
 Calls Tryz.prog 35 #[.int .i64 7,.int .i64 2000000] w λe w'=>e=.returned (.int .i64 7)∧w'=w:=by
 go_enter Tryz.func35,Tryz.ntmps35;go_wp2;go_ret;exact⟨rfl,rfl⟩
theorem within1_any(w:World):
 Calls Tryz.prog 35 #[.int .i64 1,.int .i64 2000000] w λe w'=>e=.returned (.int .i64 1)∧w'=w:=by
 go_enter Tryz.func35,Tryz.ntmps35;go_wp2;go_ret;exact⟨rfl,rfl⟩
theorem small7_any(w:World):
 Calls Tryz.prog 116 #[.int .i64 7] w λe w'=>e=.returned (.string ⟨#[55]⟩)∧w'=w:=by
 go_enter Tryz.func116,Tryz.ntmps116;go_wp2;go_ret;exact⟨rfl,rfl⟩
theorem format7_any(w:World):
 Calls Tryz.prog 106 #[.int .i64 7,.int .i64 10] w λe w'=>e=.returned (.string ⟨#[55]⟩)∧w'=w:=by
 have HS:=small7_any w;go_enter Tryz.func106,Tryz.ntmps106;go_wp2_with (first
  |(go_at_call 116;refine HS.mono ?_;rintro e w1 ⟨rfl,rfl⟩))
 go_ret;exact⟨rfl,rfl⟩
theorem itoa7'_any(w:World):
 Calls Tryz.prog 83 #[.int .i64 7] w λe w'=>e=.returned (.string ⟨#[55]⟩)∧w'=w:=by
 have HS:=format7_any w;go_enter Tryz.func83,Tryz.ntmps83;go_wp2_with (first
  |(go_at_call 106;refine HS.mono ?_;rintro e w1 ⟨rfl,rfl⟩))
 go_ret;exact⟨rfl,rfl⟩
theorem itoa7_any(w:World):
 Calls Tryz.prog 60 #[.int .i64 7] w λe w'=>e=.returned (.string ⟨#[55]⟩)∧w'=w:=by
 have HS:=itoa7'_any w;go_enter Tryz.func60,Tryz.ntmps60;go_wp2_with (first
  |(go_at_call 83;refine HS.mono ?_;rintro e w1 ⟨rfl,rfl⟩))
 go_ret;exact⟨rfl,rfl⟩
end Go.Proofs.YtlccndplhfcknaaGreatDoor

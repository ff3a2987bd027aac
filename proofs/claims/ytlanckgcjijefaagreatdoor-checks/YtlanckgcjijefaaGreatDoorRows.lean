/-
  NARROWER THAN 'FOR EVERY INPUT', by the rows' own cells (each row's printed sentence says how): Checks: laid.
  DERIVED. THE GIVEN ROWS OF THIS SEAT. 1 by the template 'for every input the law returns true; each argument reads behind the call as it read before'; 0 by the template 'total and deterministic' (their statements: YtlanckgcjijefaaGreatDoorTotals.lean).
  GIVEN WITH THE SEED: the statements are not yours to turn. If you find one false, say at which input.
  Laid BY PROGRAM, IN A SANDBOX (cutbox-rows.mjs): the forced cells as the released guide's own fill.sh prints them over the translation 4b5fc19cc56bc172… (all of the seat's roots in one cut). By AI agents, Wed Nov 11 2026. No macro, syntax, notation, axiom, sorry.
-/
import Derived.Test.YtlanckgcjijefaaGreatDoorChecked
import GoSem.Claim
import GoSem.ClaimJoined
import GoSem.ClaimMapViews
import Derived.JoinedTies
import Derived.KernelRfl
namespace Go.Proofs.YtlanckgcjijefaaGreatDoor
/- THE CELL 'sum', in the pinned program and in every row, IS THE sha256 OF THE DUMP (.gsa) THAT YtlanckgcjijefaaGreatDoorProg.lean LOADS. Nothing in Lean hashes anything: it is a label: what it is worth is what the hold of that sum in a sandbox is worth. -/
noncomputable def Tryz.pinned : Pinned := { name := "ytlanckgcjijefaagreatdoor", sum := "4b5fc19cc56bc172cb39bc72d78e81b6856a3579fb5b3cc70e9084c30de92629", checked := Tryz.checked }
namespace Rows
def none {H : Type} : Left H := { results := [], args := [] }

/- WHAT THE LISTED PACKAGE-LEVEL VARIABLES READ AS WHEN THE CALL BEGINS. Each datum BY PROGRAM (the guide's laid-datum.mjs) off the statement by which the dump's own 'gosem.cut.vars' lays the variable. In a bare row this is a premise. The card (YtlanckgcjijefaaGreatDoorCards.lean) ties it to the program's text. -/
def laid_math_bits_deBruijn32tab {H : Type} : DataW H := .agg [.lit (.int .u8 0), .lit (.int .u8 1), .lit (.int .u8 28), .lit (.int .u8 2), .lit (.int .u8 29), .lit (.int .u8 14), .lit (.int .u8 24), .lit (.int .u8 3), .lit (.int .u8 30), .lit (.int .u8 22), .lit (.int .u8 20), .lit (.int .u8 15), .lit (.int .u8 25), .lit (.int .u8 17), .lit (.int .u8 4), .lit (.int .u8 8), .lit (.int .u8 31), .lit (.int .u8 27), .lit (.int .u8 13), .lit (.int .u8 23), .lit (.int .u8 21), .lit (.int .u8 19), .lit (.int .u8 16), .lit (.int .u8 7), .lit (.int .u8 26), .lit (.int .u8 12), .lit (.int .u8 18), .lit (.int .u8 6), .lit (.int .u8 11), .lit (.int .u8 5), .lit (.int .u8 10), .lit (.int .u8 9)]
def laid_math_bits_deBruijn64tab {H : Type} : DataW H := .agg [.lit (.int .u8 0), .lit (.int .u8 1), .lit (.int .u8 56), .lit (.int .u8 2), .lit (.int .u8 57), .lit (.int .u8 49), .lit (.int .u8 28), .lit (.int .u8 3), .lit (.int .u8 61), .lit (.int .u8 58), .lit (.int .u8 42), .lit (.int .u8 50), .lit (.int .u8 38), .lit (.int .u8 29), .lit (.int .u8 17), .lit (.int .u8 4), .lit (.int .u8 62), .lit (.int .u8 47), .lit (.int .u8 59), .lit (.int .u8 36), .lit (.int .u8 45), .lit (.int .u8 43), .lit (.int .u8 51), .lit (.int .u8 22), .lit (.int .u8 53), .lit (.int .u8 39), .lit (.int .u8 33), .lit (.int .u8 30), .lit (.int .u8 24), .lit (.int .u8 18), .lit (.int .u8 12), .lit (.int .u8 5), .lit (.int .u8 63), .lit (.int .u8 55), .lit (.int .u8 48), .lit (.int .u8 27), .lit (.int .u8 60), .lit (.int .u8 41), .lit (.int .u8 37), .lit (.int .u8 16), .lit (.int .u8 46), .lit (.int .u8 35), .lit (.int .u8 44), .lit (.int .u8 21), .lit (.int .u8 52), .lit (.int .u8 32), .lit (.int .u8 23), .lit (.int .u8 11), .lit (.int .u8 54), .lit (.int .u8 26), .lit (.int .u8 40), .lit (.int .u8 15), .lit (.int .u8 34), .lit (.int .u8 20), .lit (.int .u8 31), .lit (.int .u8 10), .lit (.int .u8 25), .lit (.int .u8 14), .lit (.int .u8 19), .lit (.int .u8 9), .lit (.int .u8 13), .lit (.int .u8 8), .lit (.int .u8 7), .lit (.int .u8 6)]
def laid_internal_strconv_uint64pow10 {H : Type} : DataW H := .agg [.lit (.int .u64 1), .lit (.int .u64 10), .lit (.int .u64 100), .lit (.int .u64 1000), .lit (.int .u64 10000), .lit (.int .u64 100000), .lit (.int .u64 1000000), .lit (.int .u64 10000000), .lit (.int .u64 100000000), .lit (.int .u64 1000000000), .lit (.int .u64 10000000000), .lit (.int .u64 100000000000), .lit (.int .u64 1000000000000), .lit (.int .u64 10000000000000), .lit (.int .u64 100000000000000), .lit (.int .u64 1000000000000000), .lit (.int .u64 10000000000000000), .lit (.int .u64 100000000000000000), .lit (.int .u64 1000000000000000000), .lit (.int .u64 10000000000000000000)]
def laid_errors_errorType {H : Type} : DataW H := .iface "internal/reflectlite.rtype" (.agg [.ptr (.lit (.string [101, 114, 114, 111, 114]))])
def laid_strconv_ErrRange {H : Type} : DataW H := .iface "*errors.errorString" (.ptr (.agg [.lit (.string [118, 97, 108, 117, 101, 32, 111, 117, 116, 32, 111, 102, 32, 114, 97, 110, 103, 101])]))
def laid_strconv_ErrSyntax {H : Type} : DataW H := .iface "*errors.errorString" (.ptr (.agg [.lit (.string [105, 110, 118, 97, 108, 105, 100, 32, 115, 121, 110, 116, 97, 120])]))
def laid_tarn_fault_Long {H : Type} : DataW H := .iface "*errors.errorString" (.ptr (.agg [.lit (.string [108, 111, 110, 103, 101, 114, 32, 116, 104, 97, 110, 32, 109, 97, 121, 32, 98, 101])]))
def laid_tarn_fault_Syntax {H : Type} : DataW H := .iface "*errors.errorString" (.ptr (.agg [.lit (.string [110, 111, 32, 119, 111, 114, 100, 32, 111, 114, 32, 98, 114, 97, 99, 107, 101, 116, 32, 116, 104, 97, 116, 32, 99, 97, 110, 32, 115, 116, 97, 110, 100, 32, 104, 101, 114, 101])]))
def laid_tarn_fault_Deep {H : Type} : DataW H := .iface "*errors.errorString" (.ptr (.agg [.lit (.string [119, 105, 116, 104, 105, 110, 32, 116, 111, 111, 32, 109, 97, 110, 121, 32, 111, 116, 104, 101, 114, 115])]))
def laid_tarn_fault_Twice {H : Type} : DataW H := .iface "*errors.errorString" (.ptr (.agg [.lit (.string [116, 104, 101, 114, 101, 32, 97, 108, 114, 101, 97, 100, 121])]))
def laid_tarn_fault_Name {H : Type} : DataW H := .iface "*errors.errorString" (.ptr (.agg [.lit (.string [110, 111, 32, 110, 97, 109, 101, 44, 32, 111, 114, 32, 111, 110, 101, 32, 116, 104, 97, 116, 32, 115, 116, 97, 110, 100, 115, 32, 102, 111, 114, 32, 110, 111, 116, 104, 105, 110, 103])]))
def laid_tarn_fault_Short {H : Type} : DataW H := .iface "*errors.errorString" (.ptr (.agg [.lit (.string [101, 110, 100, 115, 32, 116, 111, 111, 32, 101, 97, 114, 108, 121])]))
def laid_tarn_fault_Sum {H : Type} : DataW H := .iface "*errors.errorString" (.ptr (.agg [.lit (.string [110, 111, 116, 32, 116, 104, 101, 32, 115, 117, 109, 32, 111, 102, 32, 116, 104, 101, 32, 98, 121, 116, 101, 115, 32, 97, 104, 101, 97, 100, 32, 111, 102, 32, 105, 116])]))
def laid_tarn_fault_Form {H : Type} : DataW H := .iface "*errors.errorString" (.ptr (.agg [.lit (.string [99, 97, 110, 110, 111, 116, 32, 115, 116, 97, 110, 100, 32, 104, 101, 114, 101])]))
def laid_tarn_fault_Varint {H : Type} : DataW H := .iface "*errors.errorString" (.ptr (.agg [.lit (.string [110, 111, 32, 118, 97, 114, 105, 110, 116])]))
def laid_tarn_fault_Order {H : Type} : DataW H := .iface "*errors.errorString" (.ptr (.agg [.lit (.string [111, 117, 116, 32, 111, 102, 32, 111, 114, 100, 101, 114])]))
def laid_tarn_fault_More {H : Type} : DataW H := .iface "*errors.errorString" (.ptr (.agg [.lit (.string [109, 111, 114, 101, 32, 116, 104, 97, 110, 32, 116, 104, 101, 114, 101, 32, 115, 104, 111, 117, 108, 100, 32, 98, 101])]))
def laid_tarn_fault_Index {H : Type} : DataW H := .iface "*errors.errorString" (.ptr (.agg [.lit (.string [110, 111, 32, 103, 108, 111, 98, 97, 108, 32, 104, 97, 115, 32, 116, 104, 105, 115, 32, 110, 117, 109, 98, 101, 114])]))
def laid_tarn_fault_Jump {H : Type} : DataW H := .iface "*errors.errorString" (.ptr (.agg [.lit (.string [103, 111, 101, 115, 32, 111, 110, 32, 119, 104, 101, 114, 101, 32, 110, 111, 32, 105, 110, 115, 116, 114, 117, 99, 116, 105, 111, 110, 32, 105, 115])]))
def laid_tarn_fault_Depth {H : Type} : DataW H := .iface "*errors.errorString" (.ptr (.agg [.lit (.string [110, 111, 116, 32, 116, 104, 101, 32, 100, 101, 112, 116, 104, 32, 111, 102, 32, 115, 116, 97, 99, 107, 32, 116, 104, 97, 116, 32, 105, 115, 32, 110, 101, 101, 100, 101, 100])]))
def laid_tarn_fault_Missing {H : Type} : DataW H := .iface "*errors.errorString" (.ptr (.agg [.lit (.string [105, 109, 112, 111, 114, 116, 101, 100, 44, 32, 97, 110, 100, 32, 101, 120, 112, 111, 114, 116, 101, 100, 32, 98, 121, 32, 110, 111, 110, 101])]))
def laid_tarn_fault_Arity {H : Type} : DataW H := .iface "*errors.errorString" (.ptr (.agg [.lit (.string [105, 109, 112, 111, 114, 116, 101, 100, 32, 119, 105, 116, 104, 32, 97, 110, 111, 116, 104, 101, 114, 32, 97, 114, 105, 116, 121, 32, 116, 104, 97, 110, 32, 105, 116, 32, 104, 97, 115])]))
def laid_tarn_fault_Entry {H : Type} : DataW H := .iface "*errors.errorString" (.ptr (.agg [.lit (.string [110, 111, 32, 101, 110, 116, 114, 121, 32, 116, 104, 97, 116, 32, 99, 97, 110, 32, 98, 101, 32, 119, 111, 114, 107, 101, 100, 32, 111, 117, 116])]))
def laid_tarn_fault_Big {H : Type} : DataW H := .iface "*errors.errorString" (.ptr (.agg [.lit (.string [109, 111, 114, 101, 32, 116, 104, 97, 110, 32, 97, 110, 32, 105, 109, 97, 103, 101, 32, 109, 97, 121, 32, 104, 97, 118, 101])]))

/-- 'tarnlaw.Checks': WHATEVER THE INPUT: true; the input reads as it did. -/
def checksSpec : ChangeSpec := { name := "checks", fn := fun _ => fun
  | [d] => { results := [.lit (.bool true)], args := [d] }
  | _ => none }
def checksRow : OpenClaim := { program := "ytlanckgcjijefaagreatdoor", sum := "4b5fc19cc56bc172cb39bc72d78e81b6856a3579fb5b3cc70e9084c30de92629", func := "tarn/tarnlaw.Checks", spec := "checks", inPlace := ["internal/bytealg.IndexByteString", "internal/bytealg.IndexString", "internal/reflectlite.TypeOf", "internal/reflectlite.ValueOf", "(internal/reflectlite.Value).Type", "(internal/reflectlite.Value).IsNil", "(internal/reflectlite.Value).Elem", "(internal/reflectlite.Value).Set"], unfollowed := true, recurses := true, named := ["tarn/fault.Long", "tarn/fault.Syntax", "tarn/fault.Twice", "internal/bytealg.MaxLen", "strconv.ErrSyntax", "strconv.ErrRange", "internal/strconv.uint64pow10", "math/bits.deBruijn32tab", "math/bits.deBruijn64tab", "tarn/fault.Deep", "tarn/fault.Name", "tarn/fault.Short", "tarn/fault.Sum", "tarn/fault.Form", "tarn/fault.Varint", "tarn/fault.Order", "tarn/fault.More", "tarn/fault.Index", "tarn/fault.Jump", "tarn/fault.Depth", "tarn/fault.Missing", "tarn/fault.Arity", "tarn/fault.Entry", "tarn/fault.Big", "errors.errorType"], apart := false, laid := [("math/bits.deBruijn32tab", laid_math_bits_deBruijn32tab), ("math/bits.deBruijn64tab", laid_math_bits_deBruijn64tab), ("internal/strconv.uint64pow10", laid_internal_strconv_uint64pow10), ("errors.errorType", laid_errors_errorType), ("strconv.ErrRange", laid_strconv_ErrRange), ("strconv.ErrSyntax", laid_strconv_ErrSyntax), ("tarn/fault.Long", laid_tarn_fault_Long), ("tarn/fault.Syntax", laid_tarn_fault_Syntax), ("tarn/fault.Deep", laid_tarn_fault_Deep), ("tarn/fault.Twice", laid_tarn_fault_Twice), ("tarn/fault.Name", laid_tarn_fault_Name), ("tarn/fault.Short", laid_tarn_fault_Short), ("tarn/fault.Sum", laid_tarn_fault_Sum), ("tarn/fault.Form", laid_tarn_fault_Form), ("tarn/fault.Varint", laid_tarn_fault_Varint), ("tarn/fault.Order", laid_tarn_fault_Order), ("tarn/fault.More", laid_tarn_fault_More), ("tarn/fault.Index", laid_tarn_fault_Index), ("tarn/fault.Jump", laid_tarn_fault_Jump), ("tarn/fault.Depth", laid_tarn_fault_Depth), ("tarn/fault.Missing", laid_tarn_fault_Missing), ("tarn/fault.Arity", laid_tarn_fault_Arity), ("tarn/fault.Entry", laid_tarn_fault_Entry), ("tarn/fault.Big", laid_tarn_fault_Big)] }
def ChecksSaid : Prop := checksRow.holds Tryz.pinned (OpenSpec.ofChange checksSpec)

/-- ITS FALSE NEIGHBOUR: 'it returns false'. Refute it at one input. -/
def checksWrong : ChangeSpec := { name := "checks", fn := fun _ => fun
  | [d] => { results := [.lit (.bool false)], args := [d] }
  | _ => none }
def ChecksWrongFalsely : Prop := checksRow.holds Tryz.pinned (OpenSpec.ofChange checksWrong)

/- THE SECOND FORM. 'bulk': how many values and letters a reading holds, each counted each time it is reached (what is shared counts as often as it is met; a slice's spare places count too). A statement '..UptoSaid' is the law's where the arguments, and the package variables that the reading takes, are together of bulk at most 1048576: NARROWER than '..Said'. Prove '..Said' where nothing that the law and all that it calls make is longer than what came in: it says more and counts as full. Else prove '..UptoSaid'. A law counts once. -/
mutual
def uptoBulk {H : Type} : DataW H → Nat
  | .lit (.string bytes) => bytes.length + 1
  | .lit _ => 1
  | .nil => 1
  | .ptr d => uptoBulk d + 1
  | .slice elems spare => uptoBulkAll elems + uptoBulkAll spare + 1
  | .agg parts => uptoBulkAll parts + 1
  | .iface _ d => uptoBulk d + 1
  | .map entries => uptoBulkEntries entries + 1
  | .held _ => 1
def uptoBulkAll {H : Type} : List (DataW H) → Nat
  | [] => 0
  | d :: r => uptoBulk d + uptoBulkAll r
def uptoBulkEntries {H : Type} : List (Lit × DataW H) → Nat
  | [] => 0
  | x :: r => uptoBulkEntry x + uptoBulkEntries r
def uptoBulkEntry {H : Type} : Lit × DataW H → Nat
  | (.string bytes, d) => bytes.length + uptoBulk d + 1
  | (_, d) => uptoBulk d + 1
 end
def uptoSmall : (H : Type) → List (DataW H) → Bool := fun _ ds => decide (uptoBulkAll ds ≤ 1048576)
def OpenSpec.upto (s : _root_.Go.ChangeSpec) : _root_.Go.OpenSpec := { _root_.Go.OpenSpec.ofChange s with cond := some uptoSmall }

/-- 'tarnlaw.Checks', WHERE WHAT IT READS IS OF BULK AT MOST 1048576: true; the input reads as it did. -/
def checksUptoRow : OpenClaim := { program := "ytlanckgcjijefaagreatdoor", sum := "4b5fc19cc56bc172cb39bc72d78e81b6856a3579fb5b3cc70e9084c30de92629", func := "tarn/tarnlaw.Checks", spec := "checks", inPlace := ["internal/bytealg.IndexByteString", "internal/bytealg.IndexString", "internal/reflectlite.TypeOf", "internal/reflectlite.ValueOf", "(internal/reflectlite.Value).Type", "(internal/reflectlite.Value).IsNil", "(internal/reflectlite.Value).Elem", "(internal/reflectlite.Value).Set"], unfollowed := true, recurses := true, named := ["tarn/fault.Long", "tarn/fault.Syntax", "tarn/fault.Twice", "internal/bytealg.MaxLen", "strconv.ErrSyntax", "strconv.ErrRange", "internal/strconv.uint64pow10", "math/bits.deBruijn32tab", "math/bits.deBruijn64tab", "tarn/fault.Deep", "tarn/fault.Name", "tarn/fault.Short", "tarn/fault.Sum", "tarn/fault.Form", "tarn/fault.Varint", "tarn/fault.Order", "tarn/fault.More", "tarn/fault.Index", "tarn/fault.Jump", "tarn/fault.Depth", "tarn/fault.Missing", "tarn/fault.Arity", "tarn/fault.Entry", "tarn/fault.Big", "errors.errorType"], apart := false, laid := [("math/bits.deBruijn32tab", laid_math_bits_deBruijn32tab), ("math/bits.deBruijn64tab", laid_math_bits_deBruijn64tab), ("internal/strconv.uint64pow10", laid_internal_strconv_uint64pow10), ("errors.errorType", laid_errors_errorType), ("strconv.ErrRange", laid_strconv_ErrRange), ("strconv.ErrSyntax", laid_strconv_ErrSyntax), ("tarn/fault.Long", laid_tarn_fault_Long), ("tarn/fault.Syntax", laid_tarn_fault_Syntax), ("tarn/fault.Deep", laid_tarn_fault_Deep), ("tarn/fault.Twice", laid_tarn_fault_Twice), ("tarn/fault.Name", laid_tarn_fault_Name), ("tarn/fault.Short", laid_tarn_fault_Short), ("tarn/fault.Sum", laid_tarn_fault_Sum), ("tarn/fault.Form", laid_tarn_fault_Form), ("tarn/fault.Varint", laid_tarn_fault_Varint), ("tarn/fault.Order", laid_tarn_fault_Order), ("tarn/fault.More", laid_tarn_fault_More), ("tarn/fault.Index", laid_tarn_fault_Index), ("tarn/fault.Jump", laid_tarn_fault_Jump), ("tarn/fault.Depth", laid_tarn_fault_Depth), ("tarn/fault.Missing", laid_tarn_fault_Missing), ("tarn/fault.Arity", laid_tarn_fault_Arity), ("tarn/fault.Entry", laid_tarn_fault_Entry), ("tarn/fault.Big", laid_tarn_fault_Big)], narrowed := true }
def ChecksUptoSaid : Prop := checksUptoRow.holds Tryz.pinned (OpenSpec.upto checksSpec)

end Rows
end Go.Proofs.YtlanckgcjijefaaGreatDoor

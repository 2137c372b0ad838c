/-
  NARROWER THAN 'FOR EVERY INPUT', by the rows' own cells (each row's printed sentence says how): FnExactPlanWidth: loops · FnExactPlanSize: loops · FnExactSelectivity: loops · FnExactEstimateCost: loops · FnExactCheapestPlan: loops.
  DERIVED. THE GIVEN ROWS OF THIS SEAT. 5 by the template 'for every input the law returns true; each argument reads behind the call as it read before'; 0 by the template 'total and deterministic' (their statements: YtmdijgcaffpgiaaTotals.lean).
  GIVEN WITH THE SEED: the statements are not yours to turn. If you find one false, say at which input.
  Laid BY PROGRAM, IN A SANDBOX (cutbox-rows.mjs): the forced cells as the released guide's own fill.sh prints them over the translation d75ac98aef326703… (all of the seat's roots in one cut). By AI agents, Wed Nov 11 2026. No macro, syntax, notation, axiom, sorry.
-/
import Derived.Test.YtmdijgcaffpgiaaChecked
import GoSem.Claim
import GoSem.ClaimJoined
import GoSem.ClaimMapViews
import Derived.JoinedTies
import Derived.KernelRfl
namespace Go.Proofs.Ytmdijgcaffpgiaa
/- THE CELL 'sum', in the pinned program and in every row, IS THE sha256 OF THE DUMP (.gsa) THAT YtmdijgcaffpgiaaProg.lean LOADS. Nothing in Lean hashes anything: it is a label: what it is worth is what the hold of that sum in a sandbox is worth. -/
noncomputable def Try.pinned : Pinned := { name := "ytmdijgcaffpgiaa", sum := "d75ac98aef326703e8682ace3047aae075fb94e1f34fcd9bdcf10533cd54cb28", checked := Try.checked }
namespace Rows
def none {H : Type} : Left H := { results := [], args := [] }

/-- 'laws.FnExactPlanWidth': WHATEVER THE INPUT: true; the input reads as it did. -/
def fnExactPlanWidthSpec : ChangeSpec := { name := "fnExactPlanWidth", fn := fun _ => fun
  | [d1, d2] => { results := [.lit (.bool true)], args := [d1, d2] }
  | _ => none }
def fnExactPlanWidthRow : OpenClaim := { program := "ytmdijgcaffpgiaa", sum := "d75ac98aef326703e8682ace3047aae075fb94e1f34fcd9bdcf10533cd54cb28", func := "loop.example/queryoptimizer/laws.FnExactPlanWidth", spec := "fnExactPlanWidth", recurses := true, loops := true, apart := false }
def FnExactPlanWidthSaid : Prop := fnExactPlanWidthRow.holds Try.pinned (OpenSpec.ofChange fnExactPlanWidthSpec)

/-- ITS FALSE NEIGHBOUR: 'it returns false'. Refute it at one input. -/
def fnExactPlanWidthWrong : ChangeSpec := { name := "fnExactPlanWidth", fn := fun _ => fun
  | [d1, d2] => { results := [.lit (.bool false)], args := [d1, d2] }
  | _ => none }
def FnExactPlanWidthWrongFalsely : Prop := fnExactPlanWidthRow.holds Try.pinned (OpenSpec.ofChange fnExactPlanWidthWrong)

/-- 'laws.FnExactPlanSize': WHATEVER THE INPUT: true; the input reads as it did. -/
def fnExactPlanSizeSpec : ChangeSpec := { name := "fnExactPlanSize", fn := fun _ => fun
  | [d1, d2] => { results := [.lit (.bool true)], args := [d1, d2] }
  | _ => none }
def fnExactPlanSizeRow : OpenClaim := { program := "ytmdijgcaffpgiaa", sum := "d75ac98aef326703e8682ace3047aae075fb94e1f34fcd9bdcf10533cd54cb28", func := "loop.example/queryoptimizer/laws.FnExactPlanSize", spec := "fnExactPlanSize", recurses := true, loops := true, apart := false }
def FnExactPlanSizeSaid : Prop := fnExactPlanSizeRow.holds Try.pinned (OpenSpec.ofChange fnExactPlanSizeSpec)

/-- ITS FALSE NEIGHBOUR: 'it returns false'. Refute it at one input. -/
def fnExactPlanSizeWrong : ChangeSpec := { name := "fnExactPlanSize", fn := fun _ => fun
  | [d1, d2] => { results := [.lit (.bool false)], args := [d1, d2] }
  | _ => none }
def FnExactPlanSizeWrongFalsely : Prop := fnExactPlanSizeRow.holds Try.pinned (OpenSpec.ofChange fnExactPlanSizeWrong)

/-- 'laws.FnExactSelectivity': WHATEVER THE INPUT: true; the input reads as it did. -/
def fnExactSelectivitySpec : ChangeSpec := { name := "fnExactSelectivity", fn := fun _ => fun
  | [d1, d2] => { results := [.lit (.bool true)], args := [d1, d2] }
  | _ => none }
def fnExactSelectivityRow : OpenClaim := { program := "ytmdijgcaffpgiaa", sum := "d75ac98aef326703e8682ace3047aae075fb94e1f34fcd9bdcf10533cd54cb28", func := "loop.example/queryoptimizer/laws.FnExactSelectivity", spec := "fnExactSelectivity", recurses := true, loops := true, apart := false }
def FnExactSelectivitySaid : Prop := fnExactSelectivityRow.holds Try.pinned (OpenSpec.ofChange fnExactSelectivitySpec)

/-- ITS FALSE NEIGHBOUR: 'it returns false'. Refute it at one input. -/
def fnExactSelectivityWrong : ChangeSpec := { name := "fnExactSelectivity", fn := fun _ => fun
  | [d1, d2] => { results := [.lit (.bool false)], args := [d1, d2] }
  | _ => none }
def FnExactSelectivityWrongFalsely : Prop := fnExactSelectivityRow.holds Try.pinned (OpenSpec.ofChange fnExactSelectivityWrong)

/-- 'laws.FnExactEstimateCost': WHATEVER THE INPUT: true; the input reads as it did. -/
def fnExactEstimateCostSpec : ChangeSpec := { name := "fnExactEstimateCost", fn := fun _ => fun
  | [d1, d2] => { results := [.lit (.bool true)], args := [d1, d2] }
  | _ => none }
def fnExactEstimateCostRow : OpenClaim := { program := "ytmdijgcaffpgiaa", sum := "d75ac98aef326703e8682ace3047aae075fb94e1f34fcd9bdcf10533cd54cb28", func := "loop.example/queryoptimizer/laws.FnExactEstimateCost", spec := "fnExactEstimateCost", unfollowed := true, recurses := true, loops := true, apart := false }
def FnExactEstimateCostSaid : Prop := fnExactEstimateCostRow.holds Try.pinned (OpenSpec.ofChange fnExactEstimateCostSpec)

/-- ITS FALSE NEIGHBOUR: 'it returns false'. Refute it at one input. -/
def fnExactEstimateCostWrong : ChangeSpec := { name := "fnExactEstimateCost", fn := fun _ => fun
  | [d1, d2] => { results := [.lit (.bool false)], args := [d1, d2] }
  | _ => none }
def FnExactEstimateCostWrongFalsely : Prop := fnExactEstimateCostRow.holds Try.pinned (OpenSpec.ofChange fnExactEstimateCostWrong)

/-- 'laws.FnExactCheapestPlan': WHATEVER THE INPUT: true; the input reads as it did. -/
def fnExactCheapestPlanSpec : ChangeSpec := { name := "fnExactCheapestPlan", fn := fun _ => fun
  | [d1, d2] => { results := [.lit (.bool true)], args := [d1, d2] }
  | _ => none }
def fnExactCheapestPlanRow : OpenClaim := { program := "ytmdijgcaffpgiaa", sum := "d75ac98aef326703e8682ace3047aae075fb94e1f34fcd9bdcf10533cd54cb28", func := "loop.example/queryoptimizer/laws.FnExactCheapestPlan", spec := "fnExactCheapestPlan", unfollowed := true, recurses := true, loops := true, apart := false }
def FnExactCheapestPlanSaid : Prop := fnExactCheapestPlanRow.holds Try.pinned (OpenSpec.ofChange fnExactCheapestPlanSpec)

/-- ITS FALSE NEIGHBOUR: 'it returns false'. Refute it at one input. -/
def fnExactCheapestPlanWrong : ChangeSpec := { name := "fnExactCheapestPlan", fn := fun _ => fun
  | [d1, d2] => { results := [.lit (.bool false)], args := [d1, d2] }
  | _ => none }
def FnExactCheapestPlanWrongFalsely : Prop := fnExactCheapestPlanRow.holds Try.pinned (OpenSpec.ofChange fnExactCheapestPlanWrong)

/- THE SECOND FORM. 'bulk': how many values and letters a reading holds, each counted each time it is reached (what is shared counts as often as it is met; a slice's spare places count too). A statement '..UptoSaid' is the law's where the arguments, and the package variables that the reading takes, are together of bulk at most 1048576: NARROWER than '..Said'. Prove '..Said' where nothing that the law and all that it calls make is longer than what came in: it says more and counts as full. Else prove '..UptoSaid'. A law counts once. -/
mutual
def uptoBulk {H : Type} : DataW H → Nat
  | .lit (.string bytes) => bytes.length + 1
  | .lit _ => 1
  | .nil => 1
  | .ptr d => uptoBulk d + 1
  | .slice elems spare => uptoBulkAll elems + uptoBulkAll spare + 1
  | .agg parts => uptoBulkAll parts + 1
  | .iface _ d => uptoBulk d + 1
  | .map entries => uptoBulkEntries entries + 1
  | .held _ => 1
def uptoBulkAll {H : Type} : List (DataW H) → Nat
  | [] => 0
  | d :: r => uptoBulk d + uptoBulkAll r
def uptoBulkEntries {H : Type} : List (Lit × DataW H) → Nat
  | [] => 0
  | x :: r => uptoBulkEntry x + uptoBulkEntries r
def uptoBulkEntry {H : Type} : Lit × DataW H → Nat
  | (.string bytes, d) => bytes.length + uptoBulk d + 1
  | (_, d) => uptoBulk d + 1
 end
def uptoSmall : (H : Type) → List (DataW H) → Bool := fun _ ds => decide (uptoBulkAll ds ≤ 1048576)
def OpenSpec.upto (s : _root_.Go.ChangeSpec) : _root_.Go.OpenSpec := { _root_.Go.OpenSpec.ofChange s with cond := some uptoSmall }

/-- 'laws.FnExactPlanWidth', WHERE WHAT IT READS IS OF BULK AT MOST 1048576: true; the input reads as it did. -/
def fnExactPlanWidthUptoRow : OpenClaim := { program := "ytmdijgcaffpgiaa", sum := "d75ac98aef326703e8682ace3047aae075fb94e1f34fcd9bdcf10533cd54cb28", func := "loop.example/queryoptimizer/laws.FnExactPlanWidth", spec := "fnExactPlanWidth", recurses := true, loops := true, apart := false, narrowed := true }
def FnExactPlanWidthUptoSaid : Prop := fnExactPlanWidthUptoRow.holds Try.pinned (OpenSpec.upto fnExactPlanWidthSpec)

/-- 'laws.FnExactPlanSize', WHERE WHAT IT READS IS OF BULK AT MOST 1048576: true; the input reads as it did. -/
def fnExactPlanSizeUptoRow : OpenClaim := { program := "ytmdijgcaffpgiaa", sum := "d75ac98aef326703e8682ace3047aae075fb94e1f34fcd9bdcf10533cd54cb28", func := "loop.example/queryoptimizer/laws.FnExactPlanSize", spec := "fnExactPlanSize", recurses := true, loops := true, apart := false, narrowed := true }
def FnExactPlanSizeUptoSaid : Prop := fnExactPlanSizeUptoRow.holds Try.pinned (OpenSpec.upto fnExactPlanSizeSpec)

/-- 'laws.FnExactSelectivity', WHERE WHAT IT READS IS OF BULK AT MOST 1048576: true; the input reads as it did. -/
def fnExactSelectivityUptoRow : OpenClaim := { program := "ytmdijgcaffpgiaa", sum := "d75ac98aef326703e8682ace3047aae075fb94e1f34fcd9bdcf10533cd54cb28", func := "loop.example/queryoptimizer/laws.FnExactSelectivity", spec := "fnExactSelectivity", recurses := true, loops := true, apart := false, narrowed := true }
def FnExactSelectivityUptoSaid : Prop := fnExactSelectivityUptoRow.holds Try.pinned (OpenSpec.upto fnExactSelectivitySpec)

/-- 'laws.FnExactEstimateCost', WHERE WHAT IT READS IS OF BULK AT MOST 1048576: true; the input reads as it did. -/
def fnExactEstimateCostUptoRow : OpenClaim := { program := "ytmdijgcaffpgiaa", sum := "d75ac98aef326703e8682ace3047aae075fb94e1f34fcd9bdcf10533cd54cb28", func := "loop.example/queryoptimizer/laws.FnExactEstimateCost", spec := "fnExactEstimateCost", unfollowed := true, recurses := true, loops := true, apart := false, narrowed := true }
def FnExactEstimateCostUptoSaid : Prop := fnExactEstimateCostUptoRow.holds Try.pinned (OpenSpec.upto fnExactEstimateCostSpec)

/-- 'laws.FnExactCheapestPlan', WHERE WHAT IT READS IS OF BULK AT MOST 1048576: true; the input reads as it did. -/
def fnExactCheapestPlanUptoRow : OpenClaim := { program := "ytmdijgcaffpgiaa", sum := "d75ac98aef326703e8682ace3047aae075fb94e1f34fcd9bdcf10533cd54cb28", func := "loop.example/queryoptimizer/laws.FnExactCheapestPlan", spec := "fnExactCheapestPlan", unfollowed := true, recurses := true, loops := true, apart := false, narrowed := true }
def FnExactCheapestPlanUptoSaid : Prop := fnExactCheapestPlanUptoRow.holds Try.pinned (OpenSpec.upto fnExactCheapestPlanSpec)

end Rows
end Go.Proofs.Ytmdijgcaffpgiaa

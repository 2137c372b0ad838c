/-
  NARROWER THAN 'FOR EVERY INPUT', by the rows' own cells (each row's printed sentence says how): FnExactEstimateCost: loops · FnExactCheapestPlan: loops · FnExactEstimateRows: loops.
  DERIVED. THE GIVEN ROWS OF THIS SEAT. 3 by the template 'for every input the law returns true; each argument reads behind the call as it read before'; 0 by the template 'total and deterministic' (their statements: YtfaaihalfecgiaaTotals.lean).
  GIVEN WITH THE SEED: the statements are not yours to turn. If you find one false, say at which input.
  Laid BY PROGRAM, IN A SANDBOX (cutbox-rows.mjs): the forced cells as the released guide's own fill.sh prints them over the translation 38658e1b9cb57cf1… (all of the seat's roots in one cut). By AI agents, Wed Nov 11 2026. No macro, syntax, notation, axiom, sorry.
-/
import Derived.Test.YtfaaihalfecgiaaChecked
import GoSem.Claim
import GoSem.ClaimJoined
import GoSem.ClaimMapViews
import Derived.JoinedTies
import Derived.KernelRfl
namespace Go.Proofs.Ytfaaihalfecgiaa
/- THE CELL 'sum', in the pinned program and in every row, IS THE sha256 OF THE DUMP (.gsa) THAT YtfaaihalfecgiaaProg.lean LOADS. Nothing in Lean hashes anything: it is a label: what it is worth is what the hold of that sum in a sandbox is worth. -/
noncomputable def Try.pinned : Pinned := { name := "ytfaaihalfecgiaa", sum := "38658e1b9cb57cf1339b617b8ed3b1482a7e088d33836d619bfffb67be45f78f", checked := Try.checked }
namespace Rows
def none {H : Type} : Left H := { results := [], args := [] }

/-- 'laws.FnExactEstimateCost': WHATEVER THE INPUT: true; the input reads as it did. -/
def fnExactEstimateCostSpec : ChangeSpec := { name := "fnExactEstimateCost", fn := fun _ => fun
  | [d1, d2] => { results := [.lit (.bool true)], args := [d1, d2] }
  | _ => none }
def fnExactEstimateCostRow : OpenClaim := { program := "ytfaaihalfecgiaa", sum := "38658e1b9cb57cf1339b617b8ed3b1482a7e088d33836d619bfffb67be45f78f", func := "loop.example/queryoptimizer/laws.FnExactEstimateCost", spec := "fnExactEstimateCost", unfollowed := true, recurses := true, loops := true, apart := false }
def FnExactEstimateCostSaid : Prop := fnExactEstimateCostRow.holds Try.pinned (OpenSpec.ofChange fnExactEstimateCostSpec)

/-- ITS FALSE NEIGHBOUR: 'it returns false'. Refute it at one input. -/
def fnExactEstimateCostWrong : ChangeSpec := { name := "fnExactEstimateCost", fn := fun _ => fun
  | [d1, d2] => { results := [.lit (.bool false)], args := [d1, d2] }
  | _ => none }
def FnExactEstimateCostWrongFalsely : Prop := fnExactEstimateCostRow.holds Try.pinned (OpenSpec.ofChange fnExactEstimateCostWrong)

/-- 'laws.FnExactCheapestPlan': WHATEVER THE INPUT: true; the input reads as it did. -/
def fnExactCheapestPlanSpec : ChangeSpec := { name := "fnExactCheapestPlan", fn := fun _ => fun
  | [d1, d2] => { results := [.lit (.bool true)], args := [d1, d2] }
  | _ => none }
def fnExactCheapestPlanRow : OpenClaim := { program := "ytfaaihalfecgiaa", sum := "38658e1b9cb57cf1339b617b8ed3b1482a7e088d33836d619bfffb67be45f78f", func := "loop.example/queryoptimizer/laws.FnExactCheapestPlan", spec := "fnExactCheapestPlan", unfollowed := true, recurses := true, loops := true, apart := false }
def FnExactCheapestPlanSaid : Prop := fnExactCheapestPlanRow.holds Try.pinned (OpenSpec.ofChange fnExactCheapestPlanSpec)

/-- ITS FALSE NEIGHBOUR: 'it returns false'. Refute it at one input. -/
def fnExactCheapestPlanWrong : ChangeSpec := { name := "fnExactCheapestPlan", fn := fun _ => fun
  | [d1, d2] => { results := [.lit (.bool false)], args := [d1, d2] }
  | _ => none }
def FnExactCheapestPlanWrongFalsely : Prop := fnExactCheapestPlanRow.holds Try.pinned (OpenSpec.ofChange fnExactCheapestPlanWrong)

/-- 'laws.FnExactEstimateRows': WHATEVER THE INPUT: true; the input reads as it did. -/
def fnExactEstimateRowsSpec : ChangeSpec := { name := "fnExactEstimateRows", fn := fun _ => fun
  | [d1, d2] => { results := [.lit (.bool true)], args := [d1, d2] }
  | _ => none }
def fnExactEstimateRowsRow : OpenClaim := { program := "ytfaaihalfecgiaa", sum := "38658e1b9cb57cf1339b617b8ed3b1482a7e088d33836d619bfffb67be45f78f", func := "loop.example/queryoptimizer/laws.FnExactEstimateRows", spec := "fnExactEstimateRows", unfollowed := true, recurses := true, loops := true, apart := false }
def FnExactEstimateRowsSaid : Prop := fnExactEstimateRowsRow.holds Try.pinned (OpenSpec.ofChange fnExactEstimateRowsSpec)

/-- ITS FALSE NEIGHBOUR: 'it returns false'. Refute it at one input. -/
def fnExactEstimateRowsWrong : ChangeSpec := { name := "fnExactEstimateRows", fn := fun _ => fun
  | [d1, d2] => { results := [.lit (.bool false)], args := [d1, d2] }
  | _ => none }
def FnExactEstimateRowsWrongFalsely : Prop := fnExactEstimateRowsRow.holds Try.pinned (OpenSpec.ofChange fnExactEstimateRowsWrong)

/- THE SECOND FORM. 'bulk': how many values and letters a reading holds, each counted each time it is reached (what is shared counts as often as it is met; a slice's spare places count too). A statement '..UptoSaid' is the law's where the arguments, and the package variables that the reading takes, are together of bulk at most 1048576: NARROWER than '..Said'. Prove '..Said' where nothing that the law and all that it calls make is longer than what came in: it says more and counts as full. Else prove '..UptoSaid'. A law counts once. -/
mutual
def uptoBulk {H : Type} : DataW H → Nat
  | .lit (.string bytes) => bytes.length + 1
  | .lit _ => 1
  | .nil => 1
  | .ptr d => uptoBulk d + 1
  | .slice elems spare => uptoBulkAll elems + uptoBulkAll spare + 1
  | .agg parts => uptoBulkAll parts + 1
  | .iface _ d => uptoBulk d + 1
  | .map entries => uptoBulkEntries entries + 1
  | .held _ => 1
def uptoBulkAll {H : Type} : List (DataW H) → Nat
  | [] => 0
  | d :: r => uptoBulk d + uptoBulkAll r
def uptoBulkEntries {H : Type} : List (Lit × DataW H) → Nat
  | [] => 0
  | x :: r => uptoBulkEntry x + uptoBulkEntries r
def uptoBulkEntry {H : Type} : Lit × DataW H → Nat
  | (.string bytes, d) => bytes.length + uptoBulk d + 1
  | (_, d) => uptoBulk d + 1
 end
def uptoSmall : (H : Type) → List (DataW H) → Bool := fun _ ds => decide (uptoBulkAll ds ≤ 1048576)
def OpenSpec.upto (s : _root_.Go.ChangeSpec) : _root_.Go.OpenSpec := { _root_.Go.OpenSpec.ofChange s with cond := some uptoSmall }

/-- 'laws.FnExactEstimateCost', WHERE WHAT IT READS IS OF BULK AT MOST 1048576: true; the input reads as it did. -/
def fnExactEstimateCostUptoRow : OpenClaim := { program := "ytfaaihalfecgiaa", sum := "38658e1b9cb57cf1339b617b8ed3b1482a7e088d33836d619bfffb67be45f78f", func := "loop.example/queryoptimizer/laws.FnExactEstimateCost", spec := "fnExactEstimateCost", unfollowed := true, recurses := true, loops := true, apart := false, narrowed := true }
def FnExactEstimateCostUptoSaid : Prop := fnExactEstimateCostUptoRow.holds Try.pinned (OpenSpec.upto fnExactEstimateCostSpec)

/-- 'laws.FnExactCheapestPlan', WHERE WHAT IT READS IS OF BULK AT MOST 1048576: true; the input reads as it did. -/
def fnExactCheapestPlanUptoRow : OpenClaim := { program := "ytfaaihalfecgiaa", sum := "38658e1b9cb57cf1339b617b8ed3b1482a7e088d33836d619bfffb67be45f78f", func := "loop.example/queryoptimizer/laws.FnExactCheapestPlan", spec := "fnExactCheapestPlan", unfollowed := true, recurses := true, loops := true, apart := false, narrowed := true }
def FnExactCheapestPlanUptoSaid : Prop := fnExactCheapestPlanUptoRow.holds Try.pinned (OpenSpec.upto fnExactCheapestPlanSpec)

/-- 'laws.FnExactEstimateRows', WHERE WHAT IT READS IS OF BULK AT MOST 1048576: true; the input reads as it did. -/
def fnExactEstimateRowsUptoRow : OpenClaim := { program := "ytfaaihalfecgiaa", sum := "38658e1b9cb57cf1339b617b8ed3b1482a7e088d33836d619bfffb67be45f78f", func := "loop.example/queryoptimizer/laws.FnExactEstimateRows", spec := "fnExactEstimateRows", unfollowed := true, recurses := true, loops := true, apart := false, narrowed := true }
def FnExactEstimateRowsUptoSaid : Prop := fnExactEstimateRowsUptoRow.holds Try.pinned (OpenSpec.upto fnExactEstimateRowsSpec)

end Rows
end Go.Proofs.Ytfaaihalfecgiaa

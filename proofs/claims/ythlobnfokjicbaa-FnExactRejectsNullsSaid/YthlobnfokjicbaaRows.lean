/-
  NARROWER THAN 'FOR EVERY INPUT', by the rows' own cells (each row's printed sentence says how): FnExactEvalExpr: loops · FnExactOutcomes: loops · FnExactRejectsNulls: loops · FnExactPlanWidth: loops · FnExactPlanSize: loops · FnExactSelectivity: loops.
  DERIVED. THE GIVEN ROWS OF THIS SEAT. 7 by the template 'for every input the law returns true; each argument reads behind the call as it read before'; 0 by the template 'total and deterministic' (their statements: YthlobnfokjicbaaTotals.lean).
  GIVEN WITH THE SEED: the statements are not yours to turn. If you find one false, say at which input.
  Laid BY PROGRAM, IN A SANDBOX (cutbox-rows.mjs): the forced cells as the released guide's own fill.sh prints them over the translation 009607736c596c2a… (all of the seat's roots in one cut). By AI agents, Wed Nov 11 2026. No macro, syntax, notation, axiom, sorry.
-/
import Derived.Test.YthlobnfokjicbaaChecked
import GoSem.Claim
import GoSem.ClaimJoined
import GoSem.ClaimMapViews
import Derived.JoinedTies
import Derived.KernelRfl
namespace Go.Proofs.Ythlobnfokjicbaa
/- THE CELL 'sum', in the pinned program and in every row, IS THE sha256 OF THE DUMP (.gsa) THAT YthlobnfokjicbaaProg.lean LOADS. Nothing in Lean hashes anything: it is a label: what it is worth is what the hold of that sum in a sandbox is worth. -/
noncomputable def Try.pinned : Pinned := { name := "ythlobnfokjicbaa", sum := "009607736c596c2ac3bbf2fe63b08bda2c92479ebb03eacc887ea848b43f766d", checked := Try.checked }
namespace Rows
def none {H : Type} : Left H := { results := [], args := [] }

/-- 'laws.FnExactEvalExpr': WHATEVER THE INPUT: true; the input reads as it did. -/
def fnExactEvalExprSpec : ChangeSpec := { name := "fnExactEvalExpr", fn := fun _ => fun
  | [d1, d2] => { results := [.lit (.bool true)], args := [d1, d2] }
  | _ => none }
def fnExactEvalExprRow : OpenClaim := { program := "ythlobnfokjicbaa", sum := "009607736c596c2ac3bbf2fe63b08bda2c92479ebb03eacc887ea848b43f766d", func := "loop.example/queryoptimizer/laws.FnExactEvalExpr", spec := "fnExactEvalExpr", unfollowed := true, recurses := true, loops := true, apart := false }
def FnExactEvalExprSaid : Prop := fnExactEvalExprRow.holds Try.pinned (OpenSpec.ofChange fnExactEvalExprSpec)

/-- ITS FALSE NEIGHBOUR: 'it returns false'. Refute it at one input. -/
def fnExactEvalExprWrong : ChangeSpec := { name := "fnExactEvalExpr", fn := fun _ => fun
  | [d1, d2] => { results := [.lit (.bool false)], args := [d1, d2] }
  | _ => none }
def FnExactEvalExprWrongFalsely : Prop := fnExactEvalExprRow.holds Try.pinned (OpenSpec.ofChange fnExactEvalExprWrong)

/-- 'laws.FnExactOutcomes': WHATEVER THE INPUT: true; the input reads as it did. -/
def fnExactOutcomesSpec : ChangeSpec := { name := "fnExactOutcomes", fn := fun _ => fun
  | [d1, d2] => { results := [.lit (.bool true)], args := [d1, d2] }
  | _ => none }
def fnExactOutcomesRow : OpenClaim := { program := "ythlobnfokjicbaa", sum := "009607736c596c2ac3bbf2fe63b08bda2c92479ebb03eacc887ea848b43f766d", func := "loop.example/queryoptimizer/laws.FnExactOutcomes", spec := "fnExactOutcomes", unfollowed := true, recurses := true, loops := true, apart := false }
def FnExactOutcomesSaid : Prop := fnExactOutcomesRow.holds Try.pinned (OpenSpec.ofChange fnExactOutcomesSpec)

/-- ITS FALSE NEIGHBOUR: 'it returns false'. Refute it at one input. -/
def fnExactOutcomesWrong : ChangeSpec := { name := "fnExactOutcomes", fn := fun _ => fun
  | [d1, d2] => { results := [.lit (.bool false)], args := [d1, d2] }
  | _ => none }
def FnExactOutcomesWrongFalsely : Prop := fnExactOutcomesRow.holds Try.pinned (OpenSpec.ofChange fnExactOutcomesWrong)

/-- 'laws.FnExactRejectsNulls': WHATEVER THE INPUT: true; the input reads as it did. -/
def fnExactRejectsNullsSpec : ChangeSpec := { name := "fnExactRejectsNulls", fn := fun _ => fun
  | [d1, d2, d3] => { results := [.lit (.bool true)], args := [d1, d2, d3] }
  | _ => none }
def fnExactRejectsNullsRow : OpenClaim := { program := "ythlobnfokjicbaa", sum := "009607736c596c2ac3bbf2fe63b08bda2c92479ebb03eacc887ea848b43f766d", func := "loop.example/queryoptimizer/laws.FnExactRejectsNulls", spec := "fnExactRejectsNulls", unfollowed := true, recurses := true, loops := true, apart := false }
def FnExactRejectsNullsSaid : Prop := fnExactRejectsNullsRow.holds Try.pinned (OpenSpec.ofChange fnExactRejectsNullsSpec)

/-- ITS FALSE NEIGHBOUR: 'it returns false'. Refute it at one input. -/
def fnExactRejectsNullsWrong : ChangeSpec := { name := "fnExactRejectsNulls", fn := fun _ => fun
  | [d1, d2, d3] => { results := [.lit (.bool false)], args := [d1, d2, d3] }
  | _ => none }
def FnExactRejectsNullsWrongFalsely : Prop := fnExactRejectsNullsRow.holds Try.pinned (OpenSpec.ofChange fnExactRejectsNullsWrong)

/-- 'laws.FnExactPlanWidth': WHATEVER THE INPUT: true; the input reads as it did. -/
def fnExactPlanWidthSpec : ChangeSpec := { name := "fnExactPlanWidth", fn := fun _ => fun
  | [d1, d2] => { results := [.lit (.bool true)], args := [d1, d2] }
  | _ => none }
def fnExactPlanWidthRow : OpenClaim := { program := "ythlobnfokjicbaa", sum := "009607736c596c2ac3bbf2fe63b08bda2c92479ebb03eacc887ea848b43f766d", func := "loop.example/queryoptimizer/laws.FnExactPlanWidth", spec := "fnExactPlanWidth", recurses := true, loops := true, apart := false }
def FnExactPlanWidthSaid : Prop := fnExactPlanWidthRow.holds Try.pinned (OpenSpec.ofChange fnExactPlanWidthSpec)

/-- ITS FALSE NEIGHBOUR: 'it returns false'. Refute it at one input. -/
def fnExactPlanWidthWrong : ChangeSpec := { name := "fnExactPlanWidth", fn := fun _ => fun
  | [d1, d2] => { results := [.lit (.bool false)], args := [d1, d2] }
  | _ => none }
def FnExactPlanWidthWrongFalsely : Prop := fnExactPlanWidthRow.holds Try.pinned (OpenSpec.ofChange fnExactPlanWidthWrong)

/-- 'laws.FnExactPlanSize': WHATEVER THE INPUT: true; the input reads as it did. -/
def fnExactPlanSizeSpec : ChangeSpec := { name := "fnExactPlanSize", fn := fun _ => fun
  | [d1, d2] => { results := [.lit (.bool true)], args := [d1, d2] }
  | _ => none }
def fnExactPlanSizeRow : OpenClaim := { program := "ythlobnfokjicbaa", sum := "009607736c596c2ac3bbf2fe63b08bda2c92479ebb03eacc887ea848b43f766d", func := "loop.example/queryoptimizer/laws.FnExactPlanSize", spec := "fnExactPlanSize", recurses := true, loops := true, apart := false }
def FnExactPlanSizeSaid : Prop := fnExactPlanSizeRow.holds Try.pinned (OpenSpec.ofChange fnExactPlanSizeSpec)

/-- ITS FALSE NEIGHBOUR: 'it returns false'. Refute it at one input. -/
def fnExactPlanSizeWrong : ChangeSpec := { name := "fnExactPlanSize", fn := fun _ => fun
  | [d1, d2] => { results := [.lit (.bool false)], args := [d1, d2] }
  | _ => none }
def FnExactPlanSizeWrongFalsely : Prop := fnExactPlanSizeRow.holds Try.pinned (OpenSpec.ofChange fnExactPlanSizeWrong)

/-- 'laws.FnExactValidStats': WHATEVER THE INPUT: true; the input reads as it did. -/
def fnExactValidStatsSpec : ChangeSpec := { name := "fnExactValidStats", fn := fun _ => fun
  | [d1, d2] => { results := [.lit (.bool true)], args := [d1, d2] }
  | _ => none }
def fnExactValidStatsRow : OpenClaim := { program := "ythlobnfokjicbaa", sum := "009607736c596c2ac3bbf2fe63b08bda2c92479ebb03eacc887ea848b43f766d", func := "loop.example/queryoptimizer/laws.FnExactValidStats", spec := "fnExactValidStats", apart := false }
def FnExactValidStatsSaid : Prop := fnExactValidStatsRow.holds Try.pinned (OpenSpec.ofChange fnExactValidStatsSpec)

/-- ITS FALSE NEIGHBOUR: 'it returns false'. Refute it at one input. -/
def fnExactValidStatsWrong : ChangeSpec := { name := "fnExactValidStats", fn := fun _ => fun
  | [d1, d2] => { results := [.lit (.bool false)], args := [d1, d2] }
  | _ => none }
def FnExactValidStatsWrongFalsely : Prop := fnExactValidStatsRow.holds Try.pinned (OpenSpec.ofChange fnExactValidStatsWrong)

/-- 'laws.FnExactSelectivity': WHATEVER THE INPUT: true; the input reads as it did. -/
def fnExactSelectivitySpec : ChangeSpec := { name := "fnExactSelectivity", fn := fun _ => fun
  | [d1, d2] => { results := [.lit (.bool true)], args := [d1, d2] }
  | _ => none }
def fnExactSelectivityRow : OpenClaim := { program := "ythlobnfokjicbaa", sum := "009607736c596c2ac3bbf2fe63b08bda2c92479ebb03eacc887ea848b43f766d", func := "loop.example/queryoptimizer/laws.FnExactSelectivity", spec := "fnExactSelectivity", recurses := true, loops := true, apart := false }
def FnExactSelectivitySaid : Prop := fnExactSelectivityRow.holds Try.pinned (OpenSpec.ofChange fnExactSelectivitySpec)

/-- ITS FALSE NEIGHBOUR: 'it returns false'. Refute it at one input. -/
def fnExactSelectivityWrong : ChangeSpec := { name := "fnExactSelectivity", fn := fun _ => fun
  | [d1, d2] => { results := [.lit (.bool false)], args := [d1, d2] }
  | _ => none }
def FnExactSelectivityWrongFalsely : Prop := fnExactSelectivityRow.holds Try.pinned (OpenSpec.ofChange fnExactSelectivityWrong)

/- THE SECOND FORM. 'bulk': how many values and letters a reading holds, each counted each time it is reached (what is shared counts as often as it is met; a slice's spare places count too). A statement '..UptoSaid' is the law's where the arguments, and the package variables that the reading takes, are together of bulk at most 1048576: NARROWER than '..Said'. Prove '..Said' where nothing that the law and all that it calls make is longer than what came in: it says more and counts as full. Else prove '..UptoSaid'. A law counts once. -/
mutual
def uptoBulk {H : Type} : DataW H → Nat
  | .lit (.string bytes) => bytes.length + 1
  | .lit _ => 1
  | .nil => 1
  | .ptr d => uptoBulk d + 1
  | .slice elems spare => uptoBulkAll elems + uptoBulkAll spare + 1
  | .agg parts => uptoBulkAll parts + 1
  | .iface _ d => uptoBulk d + 1
  | .map entries => uptoBulkEntries entries + 1
  | .held _ => 1
def uptoBulkAll {H : Type} : List (DataW H) → Nat
  | [] => 0
  | d :: r => uptoBulk d + uptoBulkAll r
def uptoBulkEntries {H : Type} : List (Lit × DataW H) → Nat
  | [] => 0
  | x :: r => uptoBulkEntry x + uptoBulkEntries r
def uptoBulkEntry {H : Type} : Lit × DataW H → Nat
  | (.string bytes, d) => bytes.length + uptoBulk d + 1
  | (_, d) => uptoBulk d + 1
 end
def uptoSmall : (H : Type) → List (DataW H) → Bool := fun _ ds => decide (uptoBulkAll ds ≤ 1048576)
def OpenSpec.upto (s : _root_.Go.ChangeSpec) : _root_.Go.OpenSpec := { _root_.Go.OpenSpec.ofChange s with cond := some uptoSmall }

/-- 'laws.FnExactEvalExpr', WHERE WHAT IT READS IS OF BULK AT MOST 1048576: true; the input reads as it did. -/
def fnExactEvalExprUptoRow : OpenClaim := { program := "ythlobnfokjicbaa", sum := "009607736c596c2ac3bbf2fe63b08bda2c92479ebb03eacc887ea848b43f766d", func := "loop.example/queryoptimizer/laws.FnExactEvalExpr", spec := "fnExactEvalExpr", unfollowed := true, recurses := true, loops := true, apart := false, narrowed := true }
def FnExactEvalExprUptoSaid : Prop := fnExactEvalExprUptoRow.holds Try.pinned (OpenSpec.upto fnExactEvalExprSpec)

/-- 'laws.FnExactOutcomes', WHERE WHAT IT READS IS OF BULK AT MOST 1048576: true; the input reads as it did. -/
def fnExactOutcomesUptoRow : OpenClaim := { program := "ythlobnfokjicbaa", sum := "009607736c596c2ac3bbf2fe63b08bda2c92479ebb03eacc887ea848b43f766d", func := "loop.example/queryoptimizer/laws.FnExactOutcomes", spec := "fnExactOutcomes", unfollowed := true, recurses := true, loops := true, apart := false, narrowed := true }
def FnExactOutcomesUptoSaid : Prop := fnExactOutcomesUptoRow.holds Try.pinned (OpenSpec.upto fnExactOutcomesSpec)

/-- 'laws.FnExactRejectsNulls', WHERE WHAT IT READS IS OF BULK AT MOST 1048576: true; the input reads as it did. -/
def fnExactRejectsNullsUptoRow : OpenClaim := { program := "ythlobnfokjicbaa", sum := "009607736c596c2ac3bbf2fe63b08bda2c92479ebb03eacc887ea848b43f766d", func := "loop.example/queryoptimizer/laws.FnExactRejectsNulls", spec := "fnExactRejectsNulls", unfollowed := true, recurses := true, loops := true, apart := false, narrowed := true }
def FnExactRejectsNullsUptoSaid : Prop := fnExactRejectsNullsUptoRow.holds Try.pinned (OpenSpec.upto fnExactRejectsNullsSpec)

/-- 'laws.FnExactPlanWidth', WHERE WHAT IT READS IS OF BULK AT MOST 1048576: true; the input reads as it did. -/
def fnExactPlanWidthUptoRow : OpenClaim := { program := "ythlobnfokjicbaa", sum := "009607736c596c2ac3bbf2fe63b08bda2c92479ebb03eacc887ea848b43f766d", func := "loop.example/queryoptimizer/laws.FnExactPlanWidth", spec := "fnExactPlanWidth", recurses := true, loops := true, apart := false, narrowed := true }
def FnExactPlanWidthUptoSaid : Prop := fnExactPlanWidthUptoRow.holds Try.pinned (OpenSpec.upto fnExactPlanWidthSpec)

/-- 'laws.FnExactPlanSize', WHERE WHAT IT READS IS OF BULK AT MOST 1048576: true; the input reads as it did. -/
def fnExactPlanSizeUptoRow : OpenClaim := { program := "ythlobnfokjicbaa", sum := "009607736c596c2ac3bbf2fe63b08bda2c92479ebb03eacc887ea848b43f766d", func := "loop.example/queryoptimizer/laws.FnExactPlanSize", spec := "fnExactPlanSize", recurses := true, loops := true, apart := false, narrowed := true }
def FnExactPlanSizeUptoSaid : Prop := fnExactPlanSizeUptoRow.holds Try.pinned (OpenSpec.upto fnExactPlanSizeSpec)

/-- 'laws.FnExactValidStats', WHERE WHAT IT READS IS OF BULK AT MOST 1048576: true; the input reads as it did. -/
def fnExactValidStatsUptoRow : OpenClaim := { program := "ythlobnfokjicbaa", sum := "009607736c596c2ac3bbf2fe63b08bda2c92479ebb03eacc887ea848b43f766d", func := "loop.example/queryoptimizer/laws.FnExactValidStats", spec := "fnExactValidStats", apart := false, narrowed := true }
def FnExactValidStatsUptoSaid : Prop := fnExactValidStatsUptoRow.holds Try.pinned (OpenSpec.upto fnExactValidStatsSpec)

/-- 'laws.FnExactSelectivity', WHERE WHAT IT READS IS OF BULK AT MOST 1048576: true; the input reads as it did. -/
def fnExactSelectivityUptoRow : OpenClaim := { program := "ythlobnfokjicbaa", sum := "009607736c596c2ac3bbf2fe63b08bda2c92479ebb03eacc887ea848b43f766d", func := "loop.example/queryoptimizer/laws.FnExactSelectivity", spec := "fnExactSelectivity", recurses := true, loops := true, apart := false, narrowed := true }
def FnExactSelectivityUptoSaid : Prop := fnExactSelectivityUptoRow.holds Try.pinned (OpenSpec.upto fnExactSelectivitySpec)

end Rows
end Go.Proofs.Ythlobnfokjicbaa

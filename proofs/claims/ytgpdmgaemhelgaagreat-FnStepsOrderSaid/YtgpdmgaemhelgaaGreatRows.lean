/-
  NARROWER THAN 'FOR EVERY INPUT', by the rows' own cells (each row's printed sentence says how): FnExactCheckRewrite: loops · FnExactIsNormal: loops.
  DERIVED. THE GIVEN ROWS OF THIS SEAT. 12 by the template 'for every input the law returns true; each argument reads behind the call as it read before'; 0 by the template 'total and deterministic' (their statements: YtgpdmgaemhelgaaGreatTotals.lean).
  GIVEN WITH THE SEED: the statements are not yours to turn. If you find one false, say at which input.
  Laid BY PROGRAM, IN A SANDBOX (cutbox-rows.mjs): the forced cells as the released guide's own fill.sh prints them over the translation 9503dc3f30820e1c… (all of the seat's roots in one cut). By AI agents, Wed Nov 11 2026. No macro, syntax, notation, axiom, sorry.
-/
import Derived.Test.YtgpdmgaemhelgaaGreatChecked
import GoSem.Claim
import GoSem.ClaimJoined
import GoSem.ClaimMapViews
import Derived.JoinedTies
import Derived.KernelRfl
namespace Go.Proofs.YtgpdmgaemhelgaaGreat
/- THE CELL 'sum', in the pinned program and in every row, IS THE sha256 OF THE DUMP (.gsa) THAT YtgpdmgaemhelgaaGreatProg.lean LOADS. Nothing in Lean hashes anything: it is a label: what it is worth is what the hold of that sum in a sandbox is worth. -/
noncomputable def Tryz.pinned : Pinned := { name := "ytgpdmgaemhelgaagreat", sum := "9503dc3f30820e1c796e1c292d77355080f40fa75c17ea1fded177db43b39488", checked := Tryz.checked }
namespace Rows
def none {H : Type} : Left H := { results := [], args := [] }

/-- 'laws.FnStepWidth': WHATEVER THE INPUT: true; the input reads as it did. -/
def fnStepWidthSpec : ChangeSpec := { name := "fnStepWidth", fn := fun _ => fun
  | [d] => { results := [.lit (.bool true)], args := [d] }
  | _ => none }
def fnStepWidthRow : OpenClaim := { program := "ytgpdmgaemhelgaagreat", sum := "9503dc3f30820e1c796e1c292d77355080f40fa75c17ea1fded177db43b39488", func := "loop.example/queryoptimizer/laws.FnStepWidth", spec := "fnStepWidth", unfollowed := true, recurses := true, apart := false }
def FnStepWidthSaid : Prop := fnStepWidthRow.holds Tryz.pinned (OpenSpec.ofChange fnStepWidthSpec)

/-- ITS FALSE NEIGHBOUR: 'it returns false'. Refute it at one input. -/
def fnStepWidthWrong : ChangeSpec := { name := "fnStepWidth", fn := fun _ => fun
  | [d] => { results := [.lit (.bool false)], args := [d] }
  | _ => none }
def FnStepWidthWrongFalsely : Prop := fnStepWidthRow.holds Tryz.pinned (OpenSpec.ofChange fnStepWidthWrong)

/-- 'laws.FnStepsFor': WHATEVER THE INPUT: true; the input reads as it did. -/
def fnStepsForSpec : ChangeSpec := { name := "fnStepsFor", fn := fun _ => fun
  | [d] => { results := [.lit (.bool true)], args := [d] }
  | _ => none }
def fnStepsForRow : OpenClaim := { program := "ytgpdmgaemhelgaagreat", sum := "9503dc3f30820e1c796e1c292d77355080f40fa75c17ea1fded177db43b39488", func := "loop.example/queryoptimizer/laws.FnStepsFor", spec := "fnStepsFor", unfollowed := true, recurses := true, apart := false }
def FnStepsForSaid : Prop := fnStepsForRow.holds Tryz.pinned (OpenSpec.ofChange fnStepsForSpec)

/-- ITS FALSE NEIGHBOUR: 'it returns false'. Refute it at one input. -/
def fnStepsForWrong : ChangeSpec := { name := "fnStepsFor", fn := fun _ => fun
  | [d] => { results := [.lit (.bool false)], args := [d] }
  | _ => none }
def FnStepsForWrongFalsely : Prop := fnStepsForRow.holds Tryz.pinned (OpenSpec.ofChange fnStepsForWrong)

/-- 'laws.FnStepsOrder': WHATEVER THE INPUT: true; the input reads as it did. -/
def fnStepsOrderSpec : ChangeSpec := { name := "fnStepsOrder", fn := fun _ => fun
  | [d] => { results := [.lit (.bool true)], args := [d] }
  | _ => none }
def fnStepsOrderRow : OpenClaim := { program := "ytgpdmgaemhelgaagreat", sum := "9503dc3f30820e1c796e1c292d77355080f40fa75c17ea1fded177db43b39488", func := "loop.example/queryoptimizer/laws.FnStepsOrder", spec := "fnStepsOrder", unfollowed := true, recurses := true, apart := false }
def FnStepsOrderSaid : Prop := fnStepsOrderRow.holds Tryz.pinned (OpenSpec.ofChange fnStepsOrderSpec)

/-- ITS FALSE NEIGHBOUR: 'it returns false'. Refute it at one input. -/
def fnStepsOrderWrong : ChangeSpec := { name := "fnStepsOrder", fn := fun _ => fun
  | [d] => { results := [.lit (.bool false)], args := [d] }
  | _ => none }
def FnStepsOrderWrongFalsely : Prop := fnStepsOrderRow.holds Tryz.pinned (OpenSpec.ofChange fnStepsOrderWrong)

/-- 'laws.FnMergeSplit': WHATEVER THE INPUT: true; the input reads as it did. -/
def fnMergeSplitSpec : ChangeSpec := { name := "fnMergeSplit", fn := fun _ => fun
  | [d] => { results := [.lit (.bool true)], args := [d] }
  | _ => none }
def fnMergeSplitRow : OpenClaim := { program := "ytgpdmgaemhelgaagreat", sum := "9503dc3f30820e1c796e1c292d77355080f40fa75c17ea1fded177db43b39488", func := "loop.example/queryoptimizer/laws.FnMergeSplit", spec := "fnMergeSplit", unfollowed := true, recurses := true, apart := false }
def FnMergeSplitSaid : Prop := fnMergeSplitRow.holds Tryz.pinned (OpenSpec.ofChange fnMergeSplitSpec)

/-- ITS FALSE NEIGHBOUR: 'it returns false'. Refute it at one input. -/
def fnMergeSplitWrong : ChangeSpec := { name := "fnMergeSplit", fn := fun _ => fun
  | [d] => { results := [.lit (.bool false)], args := [d] }
  | _ => none }
def FnMergeSplitWrongFalsely : Prop := fnMergeSplitRow.holds Tryz.pinned (OpenSpec.ofChange fnMergeSplitWrong)

/-- 'laws.FnCommuteTwice': WHATEVER THE INPUT: true; the input reads as it did. -/
def fnCommuteTwiceSpec : ChangeSpec := { name := "fnCommuteTwice", fn := fun _ => fun
  | [d] => { results := [.lit (.bool true)], args := [d] }
  | _ => none }
def fnCommuteTwiceRow : OpenClaim := { program := "ytgpdmgaemhelgaagreat", sum := "9503dc3f30820e1c796e1c292d77355080f40fa75c17ea1fded177db43b39488", func := "loop.example/queryoptimizer/laws.FnCommuteTwice", spec := "fnCommuteTwice", unfollowed := true, recurses := true, apart := false }
def FnCommuteTwiceSaid : Prop := fnCommuteTwiceRow.holds Tryz.pinned (OpenSpec.ofChange fnCommuteTwiceSpec)

/-- ITS FALSE NEIGHBOUR: 'it returns false'. Refute it at one input. -/
def fnCommuteTwiceWrong : ChangeSpec := { name := "fnCommuteTwice", fn := fun _ => fun
  | [d] => { results := [.lit (.bool false)], args := [d] }
  | _ => none }
def FnCommuteTwiceWrongFalsely : Prop := fnCommuteTwiceRow.holds Tryz.pinned (OpenSpec.ofChange fnCommuteTwiceWrong)

/-- 'laws.FnApplySteps': WHATEVER THE INPUT: true; the input reads as it did. -/
def fnApplyStepsSpec : ChangeSpec := { name := "fnApplySteps", fn := fun _ => fun
  | [d1, d2] => { results := [.lit (.bool true)], args := [d1, d2] }
  | _ => none }
def fnApplyStepsRow : OpenClaim := { program := "ytgpdmgaemhelgaagreat", sum := "9503dc3f30820e1c796e1c292d77355080f40fa75c17ea1fded177db43b39488", func := "loop.example/queryoptimizer/laws.FnApplySteps", spec := "fnApplySteps", unfollowed := true, recurses := true, apart := false }
def FnApplyStepsSaid : Prop := fnApplyStepsRow.holds Tryz.pinned (OpenSpec.ofChange fnApplyStepsSpec)

/-- ITS FALSE NEIGHBOUR: 'it returns false'. Refute it at one input. -/
def fnApplyStepsWrong : ChangeSpec := { name := "fnApplySteps", fn := fun _ => fun
  | [d1, d2] => { results := [.lit (.bool false)], args := [d1, d2] }
  | _ => none }
def FnApplyStepsWrongFalsely : Prop := fnApplyStepsRow.holds Tryz.pinned (OpenSpec.ofChange fnApplyStepsWrong)

/-- 'laws.FnCheckRewrite': WHATEVER THE INPUT: true; the input reads as it did. -/
def fnCheckRewriteSpec : ChangeSpec := { name := "fnCheckRewrite", fn := fun _ => fun
  | [d] => { results := [.lit (.bool true)], args := [d] }
  | _ => none }
def fnCheckRewriteRow : OpenClaim := { program := "ytgpdmgaemhelgaagreat", sum := "9503dc3f30820e1c796e1c292d77355080f40fa75c17ea1fded177db43b39488", func := "loop.example/queryoptimizer/laws.FnCheckRewrite", spec := "fnCheckRewrite", unfollowed := true, recurses := true, apart := false }
def FnCheckRewriteSaid : Prop := fnCheckRewriteRow.holds Tryz.pinned (OpenSpec.ofChange fnCheckRewriteSpec)

/-- ITS FALSE NEIGHBOUR: 'it returns false'. Refute it at one input. -/
def fnCheckRewriteWrong : ChangeSpec := { name := "fnCheckRewrite", fn := fun _ => fun
  | [d] => { results := [.lit (.bool false)], args := [d] }
  | _ => none }
def FnCheckRewriteWrongFalsely : Prop := fnCheckRewriteRow.holds Tryz.pinned (OpenSpec.ofChange fnCheckRewriteWrong)

/-- 'laws.FnNormalize': WHATEVER THE INPUT: true; the input reads as it did. -/
def fnNormalizeSpec : ChangeSpec := { name := "fnNormalize", fn := fun _ => fun
  | [d] => { results := [.lit (.bool true)], args := [d] }
  | _ => none }
def fnNormalizeRow : OpenClaim := { program := "ytgpdmgaemhelgaagreat", sum := "9503dc3f30820e1c796e1c292d77355080f40fa75c17ea1fded177db43b39488", func := "loop.example/queryoptimizer/laws.FnNormalize", spec := "fnNormalize", unfollowed := true, recurses := true, apart := false }
def FnNormalizeSaid : Prop := fnNormalizeRow.holds Tryz.pinned (OpenSpec.ofChange fnNormalizeSpec)

/-- ITS FALSE NEIGHBOUR: 'it returns false'. Refute it at one input. -/
def fnNormalizeWrong : ChangeSpec := { name := "fnNormalize", fn := fun _ => fun
  | [d] => { results := [.lit (.bool false)], args := [d] }
  | _ => none }
def FnNormalizeWrongFalsely : Prop := fnNormalizeRow.holds Tryz.pinned (OpenSpec.ofChange fnNormalizeWrong)

/-- 'laws.FnIsNormal': WHATEVER THE INPUT: true; the input reads as it did. -/
def fnIsNormalSpec : ChangeSpec := { name := "fnIsNormal", fn := fun _ => fun
  | [d] => { results := [.lit (.bool true)], args := [d] }
  | _ => none }
def fnIsNormalRow : OpenClaim := { program := "ytgpdmgaemhelgaagreat", sum := "9503dc3f30820e1c796e1c292d77355080f40fa75c17ea1fded177db43b39488", func := "loop.example/queryoptimizer/laws.FnIsNormal", spec := "fnIsNormal", unfollowed := true, recurses := true, apart := false }
def FnIsNormalSaid : Prop := fnIsNormalRow.holds Tryz.pinned (OpenSpec.ofChange fnIsNormalSpec)

/-- ITS FALSE NEIGHBOUR: 'it returns false'. Refute it at one input. -/
def fnIsNormalWrong : ChangeSpec := { name := "fnIsNormal", fn := fun _ => fun
  | [d] => { results := [.lit (.bool false)], args := [d] }
  | _ => none }
def FnIsNormalWrongFalsely : Prop := fnIsNormalRow.holds Tryz.pinned (OpenSpec.ofChange fnIsNormalWrong)

/-- 'laws.FnNormalizeWidth': WHATEVER THE INPUT: true; the input reads as it did. -/
def fnNormalizeWidthSpec : ChangeSpec := { name := "fnNormalizeWidth", fn := fun _ => fun
  | [d] => { results := [.lit (.bool true)], args := [d] }
  | _ => none }
def fnNormalizeWidthRow : OpenClaim := { program := "ytgpdmgaemhelgaagreat", sum := "9503dc3f30820e1c796e1c292d77355080f40fa75c17ea1fded177db43b39488", func := "loop.example/queryoptimizer/laws.FnNormalizeWidth", spec := "fnNormalizeWidth", unfollowed := true, recurses := true, apart := false }
def FnNormalizeWidthSaid : Prop := fnNormalizeWidthRow.holds Tryz.pinned (OpenSpec.ofChange fnNormalizeWidthSpec)

/-- ITS FALSE NEIGHBOUR: 'it returns false'. Refute it at one input. -/
def fnNormalizeWidthWrong : ChangeSpec := { name := "fnNormalizeWidth", fn := fun _ => fun
  | [d] => { results := [.lit (.bool false)], args := [d] }
  | _ => none }
def FnNormalizeWidthWrongFalsely : Prop := fnNormalizeWidthRow.holds Tryz.pinned (OpenSpec.ofChange fnNormalizeWidthWrong)

/-- 'laws.FnExactCheckRewrite': WHATEVER THE INPUT: true; the input reads as it did. -/
def fnExactCheckRewriteSpec : ChangeSpec := { name := "fnExactCheckRewrite", fn := fun _ => fun
  | [d1, d2, d3, d4] => { results := [.lit (.bool true)], args := [d1, d2, d3, d4] }
  | _ => none }
def fnExactCheckRewriteRow : OpenClaim := { program := "ytgpdmgaemhelgaagreat", sum := "9503dc3f30820e1c796e1c292d77355080f40fa75c17ea1fded177db43b39488", func := "loop.example/queryoptimizer/laws.FnExactCheckRewrite", spec := "fnExactCheckRewrite", unfollowed := true, recurses := true, loops := true, apart := false }
def FnExactCheckRewriteSaid : Prop := fnExactCheckRewriteRow.holds Tryz.pinned (OpenSpec.ofChange fnExactCheckRewriteSpec)

/-- ITS FALSE NEIGHBOUR: 'it returns false'. Refute it at one input. -/
def fnExactCheckRewriteWrong : ChangeSpec := { name := "fnExactCheckRewrite", fn := fun _ => fun
  | [d1, d2, d3, d4] => { results := [.lit (.bool false)], args := [d1, d2, d3, d4] }
  | _ => none }
def FnExactCheckRewriteWrongFalsely : Prop := fnExactCheckRewriteRow.holds Tryz.pinned (OpenSpec.ofChange fnExactCheckRewriteWrong)

/-- 'laws.FnExactIsNormal': WHATEVER THE INPUT: true; the input reads as it did. -/
def fnExactIsNormalSpec : ChangeSpec := { name := "fnExactIsNormal", fn := fun _ => fun
  | [d1, d2] => { results := [.lit (.bool true)], args := [d1, d2] }
  | _ => none }
def fnExactIsNormalRow : OpenClaim := { program := "ytgpdmgaemhelgaagreat", sum := "9503dc3f30820e1c796e1c292d77355080f40fa75c17ea1fded177db43b39488", func := "loop.example/queryoptimizer/laws.FnExactIsNormal", spec := "fnExactIsNormal", unfollowed := true, recurses := true, loops := true, apart := false }
def FnExactIsNormalSaid : Prop := fnExactIsNormalRow.holds Tryz.pinned (OpenSpec.ofChange fnExactIsNormalSpec)

/-- ITS FALSE NEIGHBOUR: 'it returns false'. Refute it at one input. -/
def fnExactIsNormalWrong : ChangeSpec := { name := "fnExactIsNormal", fn := fun _ => fun
  | [d1, d2] => { results := [.lit (.bool false)], args := [d1, d2] }
  | _ => none }
def FnExactIsNormalWrongFalsely : Prop := fnExactIsNormalRow.holds Tryz.pinned (OpenSpec.ofChange fnExactIsNormalWrong)

/- THE SECOND FORM. 'bulk': how many values and letters a reading holds, each counted each time it is reached (what is shared counts as often as it is met; a slice's spare places count too). A statement '..UptoSaid' is the law's where the arguments, and the package variables that the reading takes, are together of bulk at most 1048576: NARROWER than '..Said'. Prove '..Said' where nothing that the law and all that it calls make is longer than what came in: it says more and counts as full. Else prove '..UptoSaid'. A law counts once. -/
mutual
def uptoBulk {H : Type} : DataW H → Nat
  | .lit (.string bytes) => bytes.length + 1
  | .lit _ => 1
  | .nil => 1
  | .ptr d => uptoBulk d + 1
  | .slice elems spare => uptoBulkAll elems + uptoBulkAll spare + 1
  | .agg parts => uptoBulkAll parts + 1
  | .iface _ d => uptoBulk d + 1
  | .map entries => uptoBulkEntries entries + 1
  | .held _ => 1
def uptoBulkAll {H : Type} : List (DataW H) → Nat
  | [] => 0
  | d :: r => uptoBulk d + uptoBulkAll r
def uptoBulkEntries {H : Type} : List (Lit × DataW H) → Nat
  | [] => 0
  | x :: r => uptoBulkEntry x + uptoBulkEntries r
def uptoBulkEntry {H : Type} : Lit × DataW H → Nat
  | (.string bytes, d) => bytes.length + uptoBulk d + 1
  | (_, d) => uptoBulk d + 1
 end
def uptoSmall : (H : Type) → List (DataW H) → Bool := fun _ ds => decide (uptoBulkAll ds ≤ 1048576)
def OpenSpec.upto (s : _root_.Go.ChangeSpec) : _root_.Go.OpenSpec := { _root_.Go.OpenSpec.ofChange s with cond := some uptoSmall }

/-- 'laws.FnStepWidth', WHERE WHAT IT READS IS OF BULK AT MOST 1048576: true; the input reads as it did. -/
def fnStepWidthUptoRow : OpenClaim := { program := "ytgpdmgaemhelgaagreat", sum := "9503dc3f30820e1c796e1c292d77355080f40fa75c17ea1fded177db43b39488", func := "loop.example/queryoptimizer/laws.FnStepWidth", spec := "fnStepWidth", unfollowed := true, recurses := true, apart := false, narrowed := true }
def FnStepWidthUptoSaid : Prop := fnStepWidthUptoRow.holds Tryz.pinned (OpenSpec.upto fnStepWidthSpec)

/-- 'laws.FnStepsFor', WHERE WHAT IT READS IS OF BULK AT MOST 1048576: true; the input reads as it did. -/
def fnStepsForUptoRow : OpenClaim := { program := "ytgpdmgaemhelgaagreat", sum := "9503dc3f30820e1c796e1c292d77355080f40fa75c17ea1fded177db43b39488", func := "loop.example/queryoptimizer/laws.FnStepsFor", spec := "fnStepsFor", unfollowed := true, recurses := true, apart := false, narrowed := true }
def FnStepsForUptoSaid : Prop := fnStepsForUptoRow.holds Tryz.pinned (OpenSpec.upto fnStepsForSpec)

/-- 'laws.FnStepsOrder', WHERE WHAT IT READS IS OF BULK AT MOST 1048576: true; the input reads as it did. -/
def fnStepsOrderUptoRow : OpenClaim := { program := "ytgpdmgaemhelgaagreat", sum := "9503dc3f30820e1c796e1c292d77355080f40fa75c17ea1fded177db43b39488", func := "loop.example/queryoptimizer/laws.FnStepsOrder", spec := "fnStepsOrder", unfollowed := true, recurses := true, apart := false, narrowed := true }
def FnStepsOrderUptoSaid : Prop := fnStepsOrderUptoRow.holds Tryz.pinned (OpenSpec.upto fnStepsOrderSpec)

/-- 'laws.FnMergeSplit', WHERE WHAT IT READS IS OF BULK AT MOST 1048576: true; the input reads as it did. -/
def fnMergeSplitUptoRow : OpenClaim := { program := "ytgpdmgaemhelgaagreat", sum := "9503dc3f30820e1c796e1c292d77355080f40fa75c17ea1fded177db43b39488", func := "loop.example/queryoptimizer/laws.FnMergeSplit", spec := "fnMergeSplit", unfollowed := true, recurses := true, apart := false, narrowed := true }
def FnMergeSplitUptoSaid : Prop := fnMergeSplitUptoRow.holds Tryz.pinned (OpenSpec.upto fnMergeSplitSpec)

/-- 'laws.FnCommuteTwice', WHERE WHAT IT READS IS OF BULK AT MOST 1048576: true; the input reads as it did. -/
def fnCommuteTwiceUptoRow : OpenClaim := { program := "ytgpdmgaemhelgaagreat", sum := "9503dc3f30820e1c796e1c292d77355080f40fa75c17ea1fded177db43b39488", func := "loop.example/queryoptimizer/laws.FnCommuteTwice", spec := "fnCommuteTwice", unfollowed := true, recurses := true, apart := false, narrowed := true }
def FnCommuteTwiceUptoSaid : Prop := fnCommuteTwiceUptoRow.holds Tryz.pinned (OpenSpec.upto fnCommuteTwiceSpec)

/-- 'laws.FnApplySteps', WHERE WHAT IT READS IS OF BULK AT MOST 1048576: true; the input reads as it did. -/
def fnApplyStepsUptoRow : OpenClaim := { program := "ytgpdmgaemhelgaagreat", sum := "9503dc3f30820e1c796e1c292d77355080f40fa75c17ea1fded177db43b39488", func := "loop.example/queryoptimizer/laws.FnApplySteps", spec := "fnApplySteps", unfollowed := true, recurses := true, apart := false, narrowed := true }
def FnApplyStepsUptoSaid : Prop := fnApplyStepsUptoRow.holds Tryz.pinned (OpenSpec.upto fnApplyStepsSpec)

/-- 'laws.FnCheckRewrite', WHERE WHAT IT READS IS OF BULK AT MOST 1048576: true; the input reads as it did. -/
def fnCheckRewriteUptoRow : OpenClaim := { program := "ytgpdmgaemhelgaagreat", sum := "9503dc3f30820e1c796e1c292d77355080f40fa75c17ea1fded177db43b39488", func := "loop.example/queryoptimizer/laws.FnCheckRewrite", spec := "fnCheckRewrite", unfollowed := true, recurses := true, apart := false, narrowed := true }
def FnCheckRewriteUptoSaid : Prop := fnCheckRewriteUptoRow.holds Tryz.pinned (OpenSpec.upto fnCheckRewriteSpec)

/-- 'laws.FnNormalize', WHERE WHAT IT READS IS OF BULK AT MOST 1048576: true; the input reads as it did. -/
def fnNormalizeUptoRow : OpenClaim := { program := "ytgpdmgaemhelgaagreat", sum := "9503dc3f30820e1c796e1c292d77355080f40fa75c17ea1fded177db43b39488", func := "loop.example/queryoptimizer/laws.FnNormalize", spec := "fnNormalize", unfollowed := true, recurses := true, apart := false, narrowed := true }
def FnNormalizeUptoSaid : Prop := fnNormalizeUptoRow.holds Tryz.pinned (OpenSpec.upto fnNormalizeSpec)

/-- 'laws.FnIsNormal', WHERE WHAT IT READS IS OF BULK AT MOST 1048576: true; the input reads as it did. -/
def fnIsNormalUptoRow : OpenClaim := { program := "ytgpdmgaemhelgaagreat", sum := "9503dc3f30820e1c796e1c292d77355080f40fa75c17ea1fded177db43b39488", func := "loop.example/queryoptimizer/laws.FnIsNormal", spec := "fnIsNormal", unfollowed := true, recurses := true, apart := false, narrowed := true }
def FnIsNormalUptoSaid : Prop := fnIsNormalUptoRow.holds Tryz.pinned (OpenSpec.upto fnIsNormalSpec)

/-- 'laws.FnNormalizeWidth', WHERE WHAT IT READS IS OF BULK AT MOST 1048576: true; the input reads as it did. -/
def fnNormalizeWidthUptoRow : OpenClaim := { program := "ytgpdmgaemhelgaagreat", sum := "9503dc3f30820e1c796e1c292d77355080f40fa75c17ea1fded177db43b39488", func := "loop.example/queryoptimizer/laws.FnNormalizeWidth", spec := "fnNormalizeWidth", unfollowed := true, recurses := true, apart := false, narrowed := true }
def FnNormalizeWidthUptoSaid : Prop := fnNormalizeWidthUptoRow.holds Tryz.pinned (OpenSpec.upto fnNormalizeWidthSpec)

/-- 'laws.FnExactCheckRewrite', WHERE WHAT IT READS IS OF BULK AT MOST 1048576: true; the input reads as it did. -/
def fnExactCheckRewriteUptoRow : OpenClaim := { program := "ytgpdmgaemhelgaagreat", sum := "9503dc3f30820e1c796e1c292d77355080f40fa75c17ea1fded177db43b39488", func := "loop.example/queryoptimizer/laws.FnExactCheckRewrite", spec := "fnExactCheckRewrite", unfollowed := true, recurses := true, loops := true, apart := false, narrowed := true }
def FnExactCheckRewriteUptoSaid : Prop := fnExactCheckRewriteUptoRow.holds Tryz.pinned (OpenSpec.upto fnExactCheckRewriteSpec)

/-- 'laws.FnExactIsNormal', WHERE WHAT IT READS IS OF BULK AT MOST 1048576: true; the input reads as it did. -/
def fnExactIsNormalUptoRow : OpenClaim := { program := "ytgpdmgaemhelgaagreat", sum := "9503dc3f30820e1c796e1c292d77355080f40fa75c17ea1fded177db43b39488", func := "loop.example/queryoptimizer/laws.FnExactIsNormal", spec := "fnExactIsNormal", unfollowed := true, recurses := true, loops := true, apart := false, narrowed := true }
def FnExactIsNormalUptoSaid : Prop := fnExactIsNormalUptoRow.holds Tryz.pinned (OpenSpec.upto fnExactIsNormalSpec)

end Rows
end Go.Proofs.YtgpdmgaemhelgaaGreat

/-
  NARROWER THAN 'FOR EVERY INPUT', by the rows' own cells (each row's printed sentence says how): FnExactValidExpr: loops · FnExactEvalExpr: loops · FnExactExprSize: loops.
  DERIVED. THE GIVEN ROWS OF THIS SEAT. 10 by the template 'for every input the law returns true; each argument reads behind the call as it read before'; 0 by the template 'total and deterministic' (their statements: YtpcebjlkckgplaaTotals.lean).
  GIVEN WITH THE SEED: the statements are not yours to turn. If you find one false, say at which input.
  Laid BY PROGRAM, IN A SANDBOX (cutbox-rows.mjs): the forced cells as the released guide's own fill.sh prints them over the translation 3130f41a2db44730… (all of the seat's roots in one cut). By AI agents, Wed Nov 11 2026. No macro, syntax, notation, axiom, sorry.
-/
import Derived.Test.YtpcebjlkckgplaaChecked
import GoSem.Claim
import GoSem.ClaimJoined
import GoSem.ClaimMapViews
import Derived.JoinedTies
import Derived.KernelRfl
namespace Go.Proofs.Ytpcebjlkckgplaa
/- THE CELL 'sum', in the pinned program and in every row, IS THE sha256 OF THE DUMP (.gsa) THAT YtpcebjlkckgplaaProg.lean LOADS. Nothing in Lean hashes anything: it is a label: what it is worth is what the hold of that sum in a sandbox is worth. -/
noncomputable def Try.pinned : Pinned := { name := "ytpcebjlkckgplaa", sum := "3130f41a2db44730d8ebc1c1b45aa32785b5c7263fdf2d32f1c32141893802c2", checked := Try.checked }
namespace Rows
def none {H : Type} : Left H := { results := [], args := [] }

/-- 'laws.FnEvalRange': WHATEVER THE INPUT: true; the input reads as it did. -/
def fnEvalRangeSpec : ChangeSpec := { name := "fnEvalRange", fn := fun _ => fun
  | [d] => { results := [.lit (.bool true)], args := [d] }
  | _ => none }
def fnEvalRangeRow : OpenClaim := { program := "ytpcebjlkckgplaa", sum := "3130f41a2db44730d8ebc1c1b45aa32785b5c7263fdf2d32f1c32141893802c2", func := "loop.example/queryoptimizer/laws.FnEvalRange", spec := "fnEvalRange", unfollowed := true, recurses := true, apart := false }
def FnEvalRangeSaid : Prop := fnEvalRangeRow.holds Try.pinned (OpenSpec.ofChange fnEvalRangeSpec)

/-- ITS FALSE NEIGHBOUR: 'it returns false'. Refute it at one input. -/
def fnEvalRangeWrong : ChangeSpec := { name := "fnEvalRange", fn := fun _ => fun
  | [d] => { results := [.lit (.bool false)], args := [d] }
  | _ => none }
def FnEvalRangeWrongFalsely : Prop := fnEvalRangeRow.holds Try.pinned (OpenSpec.ofChange fnEvalRangeWrong)

/-- 'laws.FnCommute': WHATEVER THE INPUT: true; the input reads as it did. -/
def fnCommuteSpec : ChangeSpec := { name := "fnCommute", fn := fun _ => fun
  | [d] => { results := [.lit (.bool true)], args := [d] }
  | _ => none }
def fnCommuteRow : OpenClaim := { program := "ytpcebjlkckgplaa", sum := "3130f41a2db44730d8ebc1c1b45aa32785b5c7263fdf2d32f1c32141893802c2", func := "loop.example/queryoptimizer/laws.FnCommute", spec := "fnCommute", unfollowed := true, recurses := true, apart := false }
def FnCommuteSaid : Prop := fnCommuteRow.holds Try.pinned (OpenSpec.ofChange fnCommuteSpec)

/-- ITS FALSE NEIGHBOUR: 'it returns false'. Refute it at one input. -/
def fnCommuteWrong : ChangeSpec := { name := "fnCommute", fn := fun _ => fun
  | [d] => { results := [.lit (.bool false)], args := [d] }
  | _ => none }
def FnCommuteWrongFalsely : Prop := fnCommuteRow.holds Try.pinned (OpenSpec.ofChange fnCommuteWrong)

/-- 'laws.FnNullPropagates': WHATEVER THE INPUT: true; the input reads as it did. -/
def fnNullPropagatesSpec : ChangeSpec := { name := "fnNullPropagates", fn := fun _ => fun
  | [d] => { results := [.lit (.bool true)], args := [d] }
  | _ => none }
def fnNullPropagatesRow : OpenClaim := { program := "ytpcebjlkckgplaa", sum := "3130f41a2db44730d8ebc1c1b45aa32785b5c7263fdf2d32f1c32141893802c2", func := "loop.example/queryoptimizer/laws.FnNullPropagates", spec := "fnNullPropagates", unfollowed := true, recurses := true, apart := false }
def FnNullPropagatesSaid : Prop := fnNullPropagatesRow.holds Try.pinned (OpenSpec.ofChange fnNullPropagatesSpec)

/-- ITS FALSE NEIGHBOUR: 'it returns false'. Refute it at one input. -/
def fnNullPropagatesWrong : ChangeSpec := { name := "fnNullPropagates", fn := fun _ => fun
  | [d] => { results := [.lit (.bool false)], args := [d] }
  | _ => none }
def FnNullPropagatesWrongFalsely : Prop := fnNullPropagatesRow.holds Try.pinned (OpenSpec.ofChange fnNullPropagatesWrong)

/-- 'laws.FnDeMorgan': WHATEVER THE INPUT: true; the input reads as it did. -/
def fnDeMorganSpec : ChangeSpec := { name := "fnDeMorgan", fn := fun _ => fun
  | [d] => { results := [.lit (.bool true)], args := [d] }
  | _ => none }
def fnDeMorganRow : OpenClaim := { program := "ytpcebjlkckgplaa", sum := "3130f41a2db44730d8ebc1c1b45aa32785b5c7263fdf2d32f1c32141893802c2", func := "loop.example/queryoptimizer/laws.FnDeMorgan", spec := "fnDeMorgan", unfollowed := true, recurses := true, apart := false }
def FnDeMorganSaid : Prop := fnDeMorganRow.holds Try.pinned (OpenSpec.ofChange fnDeMorganSpec)

/-- ITS FALSE NEIGHBOUR: 'it returns false'. Refute it at one input. -/
def fnDeMorganWrong : ChangeSpec := { name := "fnDeMorgan", fn := fun _ => fun
  | [d] => { results := [.lit (.bool false)], args := [d] }
  | _ => none }
def FnDeMorganWrongFalsely : Prop := fnDeMorganRow.holds Try.pinned (OpenSpec.ofChange fnDeMorganWrong)

/-- 'laws.FnNullTest': WHATEVER THE INPUT: true; the input reads as it did. -/
def fnNullTestSpec : ChangeSpec := { name := "fnNullTest", fn := fun _ => fun
  | [d] => { results := [.lit (.bool true)], args := [d] }
  | _ => none }
def fnNullTestRow : OpenClaim := { program := "ytpcebjlkckgplaa", sum := "3130f41a2db44730d8ebc1c1b45aa32785b5c7263fdf2d32f1c32141893802c2", func := "loop.example/queryoptimizer/laws.FnNullTest", spec := "fnNullTest", unfollowed := true, recurses := true, apart := false }
def FnNullTestSaid : Prop := fnNullTestRow.holds Try.pinned (OpenSpec.ofChange fnNullTestSpec)

/-- ITS FALSE NEIGHBOUR: 'it returns false'. Refute it at one input. -/
def fnNullTestWrong : ChangeSpec := { name := "fnNullTest", fn := fun _ => fun
  | [d] => { results := [.lit (.bool false)], args := [d] }
  | _ => none }
def FnNullTestWrongFalsely : Prop := fnNullTestRow.holds Try.pinned (OpenSpec.ofChange fnNullTestWrong)

/-- 'laws.FnLessThan': WHATEVER THE INPUT: true; the input reads as it did. -/
def fnLessThanSpec : ChangeSpec := { name := "fnLessThan", fn := fun _ => fun
  | [d] => { results := [.lit (.bool true)], args := [d] }
  | _ => none }
def fnLessThanRow : OpenClaim := { program := "ytpcebjlkckgplaa", sum := "3130f41a2db44730d8ebc1c1b45aa32785b5c7263fdf2d32f1c32141893802c2", func := "loop.example/queryoptimizer/laws.FnLessThan", spec := "fnLessThan", unfollowed := true, recurses := true, apart := false }
def FnLessThanSaid : Prop := fnLessThanRow.holds Try.pinned (OpenSpec.ofChange fnLessThanSpec)

/-- ITS FALSE NEIGHBOUR: 'it returns false'. Refute it at one input. -/
def fnLessThanWrong : ChangeSpec := { name := "fnLessThan", fn := fun _ => fun
  | [d] => { results := [.lit (.bool false)], args := [d] }
  | _ => none }
def FnLessThanWrongFalsely : Prop := fnLessThanRow.holds Try.pinned (OpenSpec.ofChange fnLessThanWrong)

/-- 'laws.FnPlusMinus': WHATEVER THE INPUT: true; the input reads as it did. -/
def fnPlusMinusSpec : ChangeSpec := { name := "fnPlusMinus", fn := fun _ => fun
  | [d] => { results := [.lit (.bool true)], args := [d] }
  | _ => none }
def fnPlusMinusRow : OpenClaim := { program := "ytpcebjlkckgplaa", sum := "3130f41a2db44730d8ebc1c1b45aa32785b5c7263fdf2d32f1c32141893802c2", func := "loop.example/queryoptimizer/laws.FnPlusMinus", spec := "fnPlusMinus", unfollowed := true, recurses := true, apart := false }
def FnPlusMinusSaid : Prop := fnPlusMinusRow.holds Try.pinned (OpenSpec.ofChange fnPlusMinusSpec)

/-- ITS FALSE NEIGHBOUR: 'it returns false'. Refute it at one input. -/
def fnPlusMinusWrong : ChangeSpec := { name := "fnPlusMinus", fn := fun _ => fun
  | [d] => { results := [.lit (.bool false)], args := [d] }
  | _ => none }
def FnPlusMinusWrongFalsely : Prop := fnPlusMinusRow.holds Try.pinned (OpenSpec.ofChange fnPlusMinusWrong)

/-- 'laws.FnExactValidExpr': WHATEVER THE INPUT: true; the input reads as it did. -/
def fnExactValidExprSpec : ChangeSpec := { name := "fnExactValidExpr", fn := fun _ => fun
  | [d1, d2] => { results := [.lit (.bool true)], args := [d1, d2] }
  | _ => none }
def fnExactValidExprRow : OpenClaim := { program := "ytpcebjlkckgplaa", sum := "3130f41a2db44730d8ebc1c1b45aa32785b5c7263fdf2d32f1c32141893802c2", func := "loop.example/queryoptimizer/laws.FnExactValidExpr", spec := "fnExactValidExpr", recurses := true, loops := true, apart := false }
def FnExactValidExprSaid : Prop := fnExactValidExprRow.holds Try.pinned (OpenSpec.ofChange fnExactValidExprSpec)

/-- ITS FALSE NEIGHBOUR: 'it returns false'. Refute it at one input. -/
def fnExactValidExprWrong : ChangeSpec := { name := "fnExactValidExpr", fn := fun _ => fun
  | [d1, d2] => { results := [.lit (.bool false)], args := [d1, d2] }
  | _ => none }
def FnExactValidExprWrongFalsely : Prop := fnExactValidExprRow.holds Try.pinned (OpenSpec.ofChange fnExactValidExprWrong)

/-- 'laws.FnExactEvalExpr': WHATEVER THE INPUT: true; the input reads as it did. -/
def fnExactEvalExprSpec : ChangeSpec := { name := "fnExactEvalExpr", fn := fun _ => fun
  | [d1, d2] => { results := [.lit (.bool true)], args := [d1, d2] }
  | _ => none }
def fnExactEvalExprRow : OpenClaim := { program := "ytpcebjlkckgplaa", sum := "3130f41a2db44730d8ebc1c1b45aa32785b5c7263fdf2d32f1c32141893802c2", func := "loop.example/queryoptimizer/laws.FnExactEvalExpr", spec := "fnExactEvalExpr", unfollowed := true, recurses := true, loops := true, apart := false }
def FnExactEvalExprSaid : Prop := fnExactEvalExprRow.holds Try.pinned (OpenSpec.ofChange fnExactEvalExprSpec)

/-- ITS FALSE NEIGHBOUR: 'it returns false'. Refute it at one input. -/
def fnExactEvalExprWrong : ChangeSpec := { name := "fnExactEvalExpr", fn := fun _ => fun
  | [d1, d2] => { results := [.lit (.bool false)], args := [d1, d2] }
  | _ => none }
def FnExactEvalExprWrongFalsely : Prop := fnExactEvalExprRow.holds Try.pinned (OpenSpec.ofChange fnExactEvalExprWrong)

/-- 'laws.FnExactExprSize': WHATEVER THE INPUT: true; the input reads as it did. -/
def fnExactExprSizeSpec : ChangeSpec := { name := "fnExactExprSize", fn := fun _ => fun
  | [d] => { results := [.lit (.bool true)], args := [d] }
  | _ => none }
def fnExactExprSizeRow : OpenClaim := { program := "ytpcebjlkckgplaa", sum := "3130f41a2db44730d8ebc1c1b45aa32785b5c7263fdf2d32f1c32141893802c2", func := "loop.example/queryoptimizer/laws.FnExactExprSize", spec := "fnExactExprSize", recurses := true, loops := true, apart := false }
def FnExactExprSizeSaid : Prop := fnExactExprSizeRow.holds Try.pinned (OpenSpec.ofChange fnExactExprSizeSpec)

/-- ITS FALSE NEIGHBOUR: 'it returns false'. Refute it at one input. -/
def fnExactExprSizeWrong : ChangeSpec := { name := "fnExactExprSize", fn := fun _ => fun
  | [d] => { results := [.lit (.bool false)], args := [d] }
  | _ => none }
def FnExactExprSizeWrongFalsely : Prop := fnExactExprSizeRow.holds Try.pinned (OpenSpec.ofChange fnExactExprSizeWrong)

/- THE SECOND FORM. 'bulk': how many values and letters a reading holds, each counted each time it is reached (what is shared counts as often as it is met; a slice's spare places count too). A statement '..UptoSaid' is the law's where the arguments, and the package variables that the reading takes, are together of bulk at most 1048576: NARROWER than '..Said'. Prove '..Said' where nothing that the law and all that it calls make is longer than what came in: it says more and counts as full. Else prove '..UptoSaid'. A law counts once. -/
mutual
def uptoBulk {H : Type} : DataW H → Nat
  | .lit (.string bytes) => bytes.length + 1
  | .lit _ => 1
  | .nil => 1
  | .ptr d => uptoBulk d + 1
  | .slice elems spare => uptoBulkAll elems + uptoBulkAll spare + 1
  | .agg parts => uptoBulkAll parts + 1
  | .iface _ d => uptoBulk d + 1
  | .map entries => uptoBulkEntries entries + 1
  | .held _ => 1
def uptoBulkAll {H : Type} : List (DataW H) → Nat
  | [] => 0
  | d :: r => uptoBulk d + uptoBulkAll r
def uptoBulkEntries {H : Type} : List (Lit × DataW H) → Nat
  | [] => 0
  | x :: r => uptoBulkEntry x + uptoBulkEntries r
def uptoBulkEntry {H : Type} : Lit × DataW H → Nat
  | (.string bytes, d) => bytes.length + uptoBulk d + 1
  | (_, d) => uptoBulk d + 1
 end
def uptoSmall : (H : Type) → List (DataW H) → Bool := fun _ ds => decide (uptoBulkAll ds ≤ 1048576)
def OpenSpec.upto (s : _root_.Go.ChangeSpec) : _root_.Go.OpenSpec := { _root_.Go.OpenSpec.ofChange s with cond := some uptoSmall }

/-- 'laws.FnEvalRange', WHERE WHAT IT READS IS OF BULK AT MOST 1048576: true; the input reads as it did. -/
def fnEvalRangeUptoRow : OpenClaim := { program := "ytpcebjlkckgplaa", sum := "3130f41a2db44730d8ebc1c1b45aa32785b5c7263fdf2d32f1c32141893802c2", func := "loop.example/queryoptimizer/laws.FnEvalRange", spec := "fnEvalRange", unfollowed := true, recurses := true, apart := false, narrowed := true }
def FnEvalRangeUptoSaid : Prop := fnEvalRangeUptoRow.holds Try.pinned (OpenSpec.upto fnEvalRangeSpec)

/-- 'laws.FnCommute', WHERE WHAT IT READS IS OF BULK AT MOST 1048576: true; the input reads as it did. -/
def fnCommuteUptoRow : OpenClaim := { program := "ytpcebjlkckgplaa", sum := "3130f41a2db44730d8ebc1c1b45aa32785b5c7263fdf2d32f1c32141893802c2", func := "loop.example/queryoptimizer/laws.FnCommute", spec := "fnCommute", unfollowed := true, recurses := true, apart := false, narrowed := true }
def FnCommuteUptoSaid : Prop := fnCommuteUptoRow.holds Try.pinned (OpenSpec.upto fnCommuteSpec)

/-- 'laws.FnNullPropagates', WHERE WHAT IT READS IS OF BULK AT MOST 1048576: true; the input reads as it did. -/
def fnNullPropagatesUptoRow : OpenClaim := { program := "ytpcebjlkckgplaa", sum := "3130f41a2db44730d8ebc1c1b45aa32785b5c7263fdf2d32f1c32141893802c2", func := "loop.example/queryoptimizer/laws.FnNullPropagates", spec := "fnNullPropagates", unfollowed := true, recurses := true, apart := false, narrowed := true }
def FnNullPropagatesUptoSaid : Prop := fnNullPropagatesUptoRow.holds Try.pinned (OpenSpec.upto fnNullPropagatesSpec)

/-- 'laws.FnDeMorgan', WHERE WHAT IT READS IS OF BULK AT MOST 1048576: true; the input reads as it did. -/
def fnDeMorganUptoRow : OpenClaim := { program := "ytpcebjlkckgplaa", sum := "3130f41a2db44730d8ebc1c1b45aa32785b5c7263fdf2d32f1c32141893802c2", func := "loop.example/queryoptimizer/laws.FnDeMorgan", spec := "fnDeMorgan", unfollowed := true, recurses := true, apart := false, narrowed := true }
def FnDeMorganUptoSaid : Prop := fnDeMorganUptoRow.holds Try.pinned (OpenSpec.upto fnDeMorganSpec)

/-- 'laws.FnNullTest', WHERE WHAT IT READS IS OF BULK AT MOST 1048576: true; the input reads as it did. -/
def fnNullTestUptoRow : OpenClaim := { program := "ytpcebjlkckgplaa", sum := "3130f41a2db44730d8ebc1c1b45aa32785b5c7263fdf2d32f1c32141893802c2", func := "loop.example/queryoptimizer/laws.FnNullTest", spec := "fnNullTest", unfollowed := true, recurses := true, apart := false, narrowed := true }
def FnNullTestUptoSaid : Prop := fnNullTestUptoRow.holds Try.pinned (OpenSpec.upto fnNullTestSpec)

/-- 'laws.FnLessThan', WHERE WHAT IT READS IS OF BULK AT MOST 1048576: true; the input reads as it did. -/
def fnLessThanUptoRow : OpenClaim := { program := "ytpcebjlkckgplaa", sum := "3130f41a2db44730d8ebc1c1b45aa32785b5c7263fdf2d32f1c32141893802c2", func := "loop.example/queryoptimizer/laws.FnLessThan", spec := "fnLessThan", unfollowed := true, recurses := true, apart := false, narrowed := true }
def FnLessThanUptoSaid : Prop := fnLessThanUptoRow.holds Try.pinned (OpenSpec.upto fnLessThanSpec)

/-- 'laws.FnPlusMinus', WHERE WHAT IT READS IS OF BULK AT MOST 1048576: true; the input reads as it did. -/
def fnPlusMinusUptoRow : OpenClaim := { program := "ytpcebjlkckgplaa", sum := "3130f41a2db44730d8ebc1c1b45aa32785b5c7263fdf2d32f1c32141893802c2", func := "loop.example/queryoptimizer/laws.FnPlusMinus", spec := "fnPlusMinus", unfollowed := true, recurses := true, apart := false, narrowed := true }
def FnPlusMinusUptoSaid : Prop := fnPlusMinusUptoRow.holds Try.pinned (OpenSpec.upto fnPlusMinusSpec)

/-- 'laws.FnExactValidExpr', WHERE WHAT IT READS IS OF BULK AT MOST 1048576: true; the input reads as it did. -/
def fnExactValidExprUptoRow : OpenClaim := { program := "ytpcebjlkckgplaa", sum := "3130f41a2db44730d8ebc1c1b45aa32785b5c7263fdf2d32f1c32141893802c2", func := "loop.example/queryoptimizer/laws.FnExactValidExpr", spec := "fnExactValidExpr", recurses := true, loops := true, apart := false, narrowed := true }
def FnExactValidExprUptoSaid : Prop := fnExactValidExprUptoRow.holds Try.pinned (OpenSpec.upto fnExactValidExprSpec)

/-- 'laws.FnExactEvalExpr', WHERE WHAT IT READS IS OF BULK AT MOST 1048576: true; the input reads as it did. -/
def fnExactEvalExprUptoRow : OpenClaim := { program := "ytpcebjlkckgplaa", sum := "3130f41a2db44730d8ebc1c1b45aa32785b5c7263fdf2d32f1c32141893802c2", func := "loop.example/queryoptimizer/laws.FnExactEvalExpr", spec := "fnExactEvalExpr", unfollowed := true, recurses := true, loops := true, apart := false, narrowed := true }
def FnExactEvalExprUptoSaid : Prop := fnExactEvalExprUptoRow.holds Try.pinned (OpenSpec.upto fnExactEvalExprSpec)

/-- 'laws.FnExactExprSize', WHERE WHAT IT READS IS OF BULK AT MOST 1048576: true; the input reads as it did. -/
def fnExactExprSizeUptoRow : OpenClaim := { program := "ytpcebjlkckgplaa", sum := "3130f41a2db44730d8ebc1c1b45aa32785b5c7263fdf2d32f1c32141893802c2", func := "loop.example/queryoptimizer/laws.FnExactExprSize", spec := "fnExactExprSize", recurses := true, loops := true, apart := false, narrowed := true }
def FnExactExprSizeUptoSaid : Prop := fnExactExprSizeUptoRow.holds Try.pinned (OpenSpec.upto fnExactExprSizeSpec)

end Rows
end Go.Proofs.Ytpcebjlkckgplaa

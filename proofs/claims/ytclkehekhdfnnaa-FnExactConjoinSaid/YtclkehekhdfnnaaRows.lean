/-
  NARROWER THAN 'FOR EVERY INPUT', by the rows' own cells (each row's printed sentence says how): FnExactColumnsOf: loops · FnExactConjoin: loops · FnExactConjuncts: loops · FnExactSubstitute: loops · FnExactFoldExpr: loops.
  DERIVED. THE GIVEN ROWS OF THIS SEAT. 5 by the template 'for every input the law returns true; each argument reads behind the call as it read before'; 0 by the template 'total and deterministic' (their statements: YtclkehekhdfnnaaTotals.lean).
  GIVEN WITH THE SEED: the statements are not yours to turn. If you find one false, say at which input.
  Laid BY PROGRAM, IN A SANDBOX (cutbox-rows.mjs): the forced cells as the released guide's own fill.sh prints them over the translation 49268c2d91be1381… (all of the seat's roots in one cut). By AI agents, Wed Nov 11 2026. No macro, syntax, notation, axiom, sorry.
-/
import Derived.Test.YtclkehekhdfnnaaChecked
import GoSem.Claim
import GoSem.ClaimJoined
import GoSem.ClaimMapViews
import Derived.JoinedTies
import Derived.KernelRfl
namespace Go.Proofs.Ytclkehekhdfnnaa
/- THE CELL 'sum', in the pinned program and in every row, IS THE sha256 OF THE DUMP (.gsa) THAT YtclkehekhdfnnaaProg.lean LOADS. Nothing in Lean hashes anything: it is a label: what it is worth is what the hold of that sum in a sandbox is worth. -/
noncomputable def Try.pinned : Pinned := { name := "ytclkehekhdfnnaa", sum := "49268c2d91be138146aa6524d8bda30ede434e56a4fe14907abe7073fb09948a", checked := Try.checked }
namespace Rows
def none {H : Type} : Left H := { results := [], args := [] }

/-- 'laws.FnExactColumnsOf': WHATEVER THE INPUT: true; the input reads as it did. -/
def fnExactColumnsOfSpec : ChangeSpec := { name := "fnExactColumnsOf", fn := fun _ => fun
  | [d] => { results := [.lit (.bool true)], args := [d] }
  | _ => none }
def fnExactColumnsOfRow : OpenClaim := { program := "ytclkehekhdfnnaa", sum := "49268c2d91be138146aa6524d8bda30ede434e56a4fe14907abe7073fb09948a", func := "loop.example/queryoptimizer/laws.FnExactColumnsOf", spec := "fnExactColumnsOf", recurses := true, loops := true, apart := false }
def FnExactColumnsOfSaid : Prop := fnExactColumnsOfRow.holds Try.pinned (OpenSpec.ofChange fnExactColumnsOfSpec)

/-- ITS FALSE NEIGHBOUR: 'it returns false'. Refute it at one input. -/
def fnExactColumnsOfWrong : ChangeSpec := { name := "fnExactColumnsOf", fn := fun _ => fun
  | [d] => { results := [.lit (.bool false)], args := [d] }
  | _ => none }
def FnExactColumnsOfWrongFalsely : Prop := fnExactColumnsOfRow.holds Try.pinned (OpenSpec.ofChange fnExactColumnsOfWrong)

/-- 'laws.FnExactConjoin': WHATEVER THE INPUT: true; the input reads as it did. -/
def fnExactConjoinSpec : ChangeSpec := { name := "fnExactConjoin", fn := fun _ => fun
  | [d] => { results := [.lit (.bool true)], args := [d] }
  | _ => none }
def fnExactConjoinRow : OpenClaim := { program := "ytclkehekhdfnnaa", sum := "49268c2d91be138146aa6524d8bda30ede434e56a4fe14907abe7073fb09948a", func := "loop.example/queryoptimizer/laws.FnExactConjoin", spec := "fnExactConjoin", unfollowed := true, recurses := true, loops := true, apart := false }
def FnExactConjoinSaid : Prop := fnExactConjoinRow.holds Try.pinned (OpenSpec.ofChange fnExactConjoinSpec)

/-- ITS FALSE NEIGHBOUR: 'it returns false'. Refute it at one input. -/
def fnExactConjoinWrong : ChangeSpec := { name := "fnExactConjoin", fn := fun _ => fun
  | [d] => { results := [.lit (.bool false)], args := [d] }
  | _ => none }
def FnExactConjoinWrongFalsely : Prop := fnExactConjoinRow.holds Try.pinned (OpenSpec.ofChange fnExactConjoinWrong)

/-- 'laws.FnExactConjuncts': WHATEVER THE INPUT: true; the input reads as it did. -/
def fnExactConjunctsSpec : ChangeSpec := { name := "fnExactConjuncts", fn := fun _ => fun
  | [d] => { results := [.lit (.bool true)], args := [d] }
  | _ => none }
def fnExactConjunctsRow : OpenClaim := { program := "ytclkehekhdfnnaa", sum := "49268c2d91be138146aa6524d8bda30ede434e56a4fe14907abe7073fb09948a", func := "loop.example/queryoptimizer/laws.FnExactConjuncts", spec := "fnExactConjuncts", unfollowed := true, recurses := true, loops := true, apart := false }
def FnExactConjunctsSaid : Prop := fnExactConjunctsRow.holds Try.pinned (OpenSpec.ofChange fnExactConjunctsSpec)

/-- ITS FALSE NEIGHBOUR: 'it returns false'. Refute it at one input. -/
def fnExactConjunctsWrong : ChangeSpec := { name := "fnExactConjuncts", fn := fun _ => fun
  | [d] => { results := [.lit (.bool false)], args := [d] }
  | _ => none }
def FnExactConjunctsWrongFalsely : Prop := fnExactConjunctsRow.holds Try.pinned (OpenSpec.ofChange fnExactConjunctsWrong)

/-- 'laws.FnExactSubstitute': WHATEVER THE INPUT: true; the input reads as it did. -/
def fnExactSubstituteSpec : ChangeSpec := { name := "fnExactSubstitute", fn := fun _ => fun
  | [d1, d2, d3] => { results := [.lit (.bool true)], args := [d1, d2, d3] }
  | _ => none }
def fnExactSubstituteRow : OpenClaim := { program := "ytclkehekhdfnnaa", sum := "49268c2d91be138146aa6524d8bda30ede434e56a4fe14907abe7073fb09948a", func := "loop.example/queryoptimizer/laws.FnExactSubstitute", spec := "fnExactSubstitute", unfollowed := true, recurses := true, loops := true, apart := false }
def FnExactSubstituteSaid : Prop := fnExactSubstituteRow.holds Try.pinned (OpenSpec.ofChange fnExactSubstituteSpec)

/-- ITS FALSE NEIGHBOUR: 'it returns false'. Refute it at one input. -/
def fnExactSubstituteWrong : ChangeSpec := { name := "fnExactSubstitute", fn := fun _ => fun
  | [d1, d2, d3] => { results := [.lit (.bool false)], args := [d1, d2, d3] }
  | _ => none }
def FnExactSubstituteWrongFalsely : Prop := fnExactSubstituteRow.holds Try.pinned (OpenSpec.ofChange fnExactSubstituteWrong)

/-- 'laws.FnExactFoldExpr': WHATEVER THE INPUT: true; the input reads as it did. -/
def fnExactFoldExprSpec : ChangeSpec := { name := "fnExactFoldExpr", fn := fun _ => fun
  | [d] => { results := [.lit (.bool true)], args := [d] }
  | _ => none }
def fnExactFoldExprRow : OpenClaim := { program := "ytclkehekhdfnnaa", sum := "49268c2d91be138146aa6524d8bda30ede434e56a4fe14907abe7073fb09948a", func := "loop.example/queryoptimizer/laws.FnExactFoldExpr", spec := "fnExactFoldExpr", unfollowed := true, recurses := true, loops := true, apart := false }
def FnExactFoldExprSaid : Prop := fnExactFoldExprRow.holds Try.pinned (OpenSpec.ofChange fnExactFoldExprSpec)

/-- ITS FALSE NEIGHBOUR: 'it returns false'. Refute it at one input. -/
def fnExactFoldExprWrong : ChangeSpec := { name := "fnExactFoldExpr", fn := fun _ => fun
  | [d] => { results := [.lit (.bool false)], args := [d] }
  | _ => none }
def FnExactFoldExprWrongFalsely : Prop := fnExactFoldExprRow.holds Try.pinned (OpenSpec.ofChange fnExactFoldExprWrong)

/- THE SECOND FORM. 'bulk': how many values and letters a reading holds, each counted each time it is reached (what is shared counts as often as it is met; a slice's spare places count too). A statement '..UptoSaid' is the law's where the arguments, and the package variables that the reading takes, are together of bulk at most 1048576: NARROWER than '..Said'. Prove '..Said' where nothing that the law and all that it calls make is longer than what came in: it says more and counts as full. Else prove '..UptoSaid'. A law counts once. -/
mutual
def uptoBulk {H : Type} : DataW H → Nat
  | .lit (.string bytes) => bytes.length + 1
  | .lit _ => 1
  | .nil => 1
  | .ptr d => uptoBulk d + 1
  | .slice elems spare => uptoBulkAll elems + uptoBulkAll spare + 1
  | .agg parts => uptoBulkAll parts + 1
  | .iface _ d => uptoBulk d + 1
  | .map entries => uptoBulkEntries entries + 1
  | .held _ => 1
def uptoBulkAll {H : Type} : List (DataW H) → Nat
  | [] => 0
  | d :: r => uptoBulk d + uptoBulkAll r
def uptoBulkEntries {H : Type} : List (Lit × DataW H) → Nat
  | [] => 0
  | x :: r => uptoBulkEntry x + uptoBulkEntries r
def uptoBulkEntry {H : Type} : Lit × DataW H → Nat
  | (.string bytes, d) => bytes.length + uptoBulk d + 1
  | (_, d) => uptoBulk d + 1
 end
def uptoSmall : (H : Type) → List (DataW H) → Bool := fun _ ds => decide (uptoBulkAll ds ≤ 1048576)
def OpenSpec.upto (s : _root_.Go.ChangeSpec) : _root_.Go.OpenSpec := { _root_.Go.OpenSpec.ofChange s with cond := some uptoSmall }

/-- 'laws.FnExactColumnsOf', WHERE WHAT IT READS IS OF BULK AT MOST 1048576: true; the input reads as it did. -/
def fnExactColumnsOfUptoRow : OpenClaim := { program := "ytclkehekhdfnnaa", sum := "49268c2d91be138146aa6524d8bda30ede434e56a4fe14907abe7073fb09948a", func := "loop.example/queryoptimizer/laws.FnExactColumnsOf", spec := "fnExactColumnsOf", recurses := true, loops := true, apart := false, narrowed := true }
def FnExactColumnsOfUptoSaid : Prop := fnExactColumnsOfUptoRow.holds Try.pinned (OpenSpec.upto fnExactColumnsOfSpec)

/-- 'laws.FnExactConjoin', WHERE WHAT IT READS IS OF BULK AT MOST 1048576: true; the input reads as it did. -/
def fnExactConjoinUptoRow : OpenClaim := { program := "ytclkehekhdfnnaa", sum := "49268c2d91be138146aa6524d8bda30ede434e56a4fe14907abe7073fb09948a", func := "loop.example/queryoptimizer/laws.FnExactConjoin", spec := "fnExactConjoin", unfollowed := true, recurses := true, loops := true, apart := false, narrowed := true }
def FnExactConjoinUptoSaid : Prop := fnExactConjoinUptoRow.holds Try.pinned (OpenSpec.upto fnExactConjoinSpec)

/-- 'laws.FnExactConjuncts', WHERE WHAT IT READS IS OF BULK AT MOST 1048576: true; the input reads as it did. -/
def fnExactConjunctsUptoRow : OpenClaim := { program := "ytclkehekhdfnnaa", sum := "49268c2d91be138146aa6524d8bda30ede434e56a4fe14907abe7073fb09948a", func := "loop.example/queryoptimizer/laws.FnExactConjuncts", spec := "fnExactConjuncts", unfollowed := true, recurses := true, loops := true, apart := false, narrowed := true }
def FnExactConjunctsUptoSaid : Prop := fnExactConjunctsUptoRow.holds Try.pinned (OpenSpec.upto fnExactConjunctsSpec)

/-- 'laws.FnExactSubstitute', WHERE WHAT IT READS IS OF BULK AT MOST 1048576: true; the input reads as it did. -/
def fnExactSubstituteUptoRow : OpenClaim := { program := "ytclkehekhdfnnaa", sum := "49268c2d91be138146aa6524d8bda30ede434e56a4fe14907abe7073fb09948a", func := "loop.example/queryoptimizer/laws.FnExactSubstitute", spec := "fnExactSubstitute", unfollowed := true, recurses := true, loops := true, apart := false, narrowed := true }
def FnExactSubstituteUptoSaid : Prop := fnExactSubstituteUptoRow.holds Try.pinned (OpenSpec.upto fnExactSubstituteSpec)

/-- 'laws.FnExactFoldExpr', WHERE WHAT IT READS IS OF BULK AT MOST 1048576: true; the input reads as it did. -/
def fnExactFoldExprUptoRow : OpenClaim := { program := "ytclkehekhdfnnaa", sum := "49268c2d91be138146aa6524d8bda30ede434e56a4fe14907abe7073fb09948a", func := "loop.example/queryoptimizer/laws.FnExactFoldExpr", spec := "fnExactFoldExpr", unfollowed := true, recurses := true, loops := true, apart := false, narrowed := true }
def FnExactFoldExprUptoSaid : Prop := fnExactFoldExprUptoRow.holds Try.pinned (OpenSpec.upto fnExactFoldExprSpec)

end Rows
end Go.Proofs.Ytclkehekhdfnnaa

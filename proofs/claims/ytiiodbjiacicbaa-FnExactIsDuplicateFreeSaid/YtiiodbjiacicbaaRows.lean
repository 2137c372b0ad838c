/-
  NARROWER THAN 'FOR EVERY INPUT', by the rows' own cells (each row's printed sentence says how): FnExactRowBound: loops · FnExactIsDuplicateFree: loops.
  DERIVED. THE GIVEN ROWS OF THIS SEAT. 4 by the template 'for every input the law returns true; each argument reads behind the call as it read before'; 0 by the template 'total and deterministic' (their statements: YtiiodbjiacicbaaTotals.lean).
  GIVEN WITH THE SEED: the statements are not yours to turn. If you find one false, say at which input.
  Laid BY PROGRAM, IN A SANDBOX (cutbox-rows.mjs): the forced cells as the released guide's own fill.sh prints them over the translation 47bb2223827ce9d5… (all of the seat's roots in one cut). By AI agents, Wed Nov 11 2026. No macro, syntax, notation, axiom, sorry.
-/
import Derived.Test.YtiiodbjiacicbaaChecked
import GoSem.Claim
import GoSem.ClaimJoined
import GoSem.ClaimMapViews
import Derived.JoinedTies
import Derived.KernelRfl
namespace Go.Proofs.Ytiiodbjiacicbaa
/- THE CELL 'sum', in the pinned program and in every row, IS THE sha256 OF THE DUMP (.gsa) THAT YtiiodbjiacicbaaProg.lean LOADS. Nothing in Lean hashes anything: it is a label: what it is worth is what the hold of that sum in a sandbox is worth. -/
noncomputable def Try.pinned : Pinned := { name := "ytiiodbjiacicbaa", sum := "47bb2223827ce9d572b37454e523c2d1d5f3d4add38189e658fbc77e626da7cb", checked := Try.checked }
namespace Rows
def none {H : Type} : Left H := { results := [], args := [] }

/-- 'laws.FnRowBoundMonotone': WHATEVER THE INPUT: true; the input reads as it did. -/
def fnRowBoundMonotoneSpec : ChangeSpec := { name := "fnRowBoundMonotone", fn := fun _ => fun
  | [d1, d2] => { results := [.lit (.bool true)], args := [d1, d2] }
  | _ => none }
def fnRowBoundMonotoneRow : OpenClaim := { program := "ytiiodbjiacicbaa", sum := "47bb2223827ce9d572b37454e523c2d1d5f3d4add38189e658fbc77e626da7cb", func := "loop.example/queryoptimizer/laws.FnRowBoundMonotone", spec := "fnRowBoundMonotone", unfollowed := true, recurses := true, apart := false }
def FnRowBoundMonotoneSaid : Prop := fnRowBoundMonotoneRow.holds Try.pinned (OpenSpec.ofChange fnRowBoundMonotoneSpec)

/-- ITS FALSE NEIGHBOUR: 'it returns false'. Refute it at one input. -/
def fnRowBoundMonotoneWrong : ChangeSpec := { name := "fnRowBoundMonotone", fn := fun _ => fun
  | [d1, d2] => { results := [.lit (.bool false)], args := [d1, d2] }
  | _ => none }
def FnRowBoundMonotoneWrongFalsely : Prop := fnRowBoundMonotoneRow.holds Try.pinned (OpenSpec.ofChange fnRowBoundMonotoneWrong)

/-- 'laws.FnDistinctFree': WHATEVER THE INPUT: true; the input reads as it did. -/
def fnDistinctFreeSpec : ChangeSpec := { name := "fnDistinctFree", fn := fun _ => fun
  | [d] => { results := [.lit (.bool true)], args := [d] }
  | _ => none }
def fnDistinctFreeRow : OpenClaim := { program := "ytiiodbjiacicbaa", sum := "47bb2223827ce9d572b37454e523c2d1d5f3d4add38189e658fbc77e626da7cb", func := "loop.example/queryoptimizer/laws.FnDistinctFree", spec := "fnDistinctFree", unfollowed := true, recurses := true, apart := false }
def FnDistinctFreeSaid : Prop := fnDistinctFreeRow.holds Try.pinned (OpenSpec.ofChange fnDistinctFreeSpec)

/-- ITS FALSE NEIGHBOUR: 'it returns false'. Refute it at one input. -/
def fnDistinctFreeWrong : ChangeSpec := { name := "fnDistinctFree", fn := fun _ => fun
  | [d] => { results := [.lit (.bool false)], args := [d] }
  | _ => none }
def FnDistinctFreeWrongFalsely : Prop := fnDistinctFreeRow.holds Try.pinned (OpenSpec.ofChange fnDistinctFreeWrong)

/-- 'laws.FnExactRowBound': WHATEVER THE INPUT: true; the input reads as it did. -/
def fnExactRowBoundSpec : ChangeSpec := { name := "fnExactRowBound", fn := fun _ => fun
  | [d1, d2, d3] => { results := [.lit (.bool true)], args := [d1, d2, d3] }
  | _ => none }
def fnExactRowBoundRow : OpenClaim := { program := "ytiiodbjiacicbaa", sum := "47bb2223827ce9d572b37454e523c2d1d5f3d4add38189e658fbc77e626da7cb", func := "loop.example/queryoptimizer/laws.FnExactRowBound", spec := "fnExactRowBound", unfollowed := true, recurses := true, loops := true, apart := false }
def FnExactRowBoundSaid : Prop := fnExactRowBoundRow.holds Try.pinned (OpenSpec.ofChange fnExactRowBoundSpec)

/-- ITS FALSE NEIGHBOUR: 'it returns false'. Refute it at one input. -/
def fnExactRowBoundWrong : ChangeSpec := { name := "fnExactRowBound", fn := fun _ => fun
  | [d1, d2, d3] => { results := [.lit (.bool false)], args := [d1, d2, d3] }
  | _ => none }
def FnExactRowBoundWrongFalsely : Prop := fnExactRowBoundRow.holds Try.pinned (OpenSpec.ofChange fnExactRowBoundWrong)

/-- 'laws.FnExactIsDuplicateFree': WHATEVER THE INPUT: true; the input reads as it did. -/
def fnExactIsDuplicateFreeSpec : ChangeSpec := { name := "fnExactIsDuplicateFree", fn := fun _ => fun
  | [d1, d2, d3] => { results := [.lit (.bool true)], args := [d1, d2, d3] }
  | _ => none }
def fnExactIsDuplicateFreeRow : OpenClaim := { program := "ytiiodbjiacicbaa", sum := "47bb2223827ce9d572b37454e523c2d1d5f3d4add38189e658fbc77e626da7cb", func := "loop.example/queryoptimizer/laws.FnExactIsDuplicateFree", spec := "fnExactIsDuplicateFree", unfollowed := true, recurses := true, loops := true, apart := false }
def FnExactIsDuplicateFreeSaid : Prop := fnExactIsDuplicateFreeRow.holds Try.pinned (OpenSpec.ofChange fnExactIsDuplicateFreeSpec)

/-- ITS FALSE NEIGHBOUR: 'it returns false'. Refute it at one input. -/
def fnExactIsDuplicateFreeWrong : ChangeSpec := { name := "fnExactIsDuplicateFree", fn := fun _ => fun
  | [d1, d2, d3] => { results := [.lit (.bool false)], args := [d1, d2, d3] }
  | _ => none }
def FnExactIsDuplicateFreeWrongFalsely : Prop := fnExactIsDuplicateFreeRow.holds Try.pinned (OpenSpec.ofChange fnExactIsDuplicateFreeWrong)

/- THE SECOND FORM. 'bulk': how many values and letters a reading holds, each counted each time it is reached (what is shared counts as often as it is met; a slice's spare places count too). A statement '..UptoSaid' is the law's where the arguments, and the package variables that the reading takes, are together of bulk at most 1048576: NARROWER than '..Said'. Prove '..Said' where nothing that the law and all that it calls make is longer than what came in: it says more and counts as full. Else prove '..UptoSaid'. A law counts once. -/
mutual
def uptoBulk {H : Type} : DataW H → Nat
  | .lit (.string bytes) => bytes.length + 1
  | .lit _ => 1
  | .nil => 1
  | .ptr d => uptoBulk d + 1
  | .slice elems spare => uptoBulkAll elems + uptoBulkAll spare + 1
  | .agg parts => uptoBulkAll parts + 1
  | .iface _ d => uptoBulk d + 1
  | .map entries => uptoBulkEntries entries + 1
  | .held _ => 1
def uptoBulkAll {H : Type} : List (DataW H) → Nat
  | [] => 0
  | d :: r => uptoBulk d + uptoBulkAll r
def uptoBulkEntries {H : Type} : List (Lit × DataW H) → Nat
  | [] => 0
  | x :: r => uptoBulkEntry x + uptoBulkEntries r
def uptoBulkEntry {H : Type} : Lit × DataW H → Nat
  | (.string bytes, d) => bytes.length + uptoBulk d + 1
  | (_, d) => uptoBulk d + 1
 end
def uptoSmall : (H : Type) → List (DataW H) → Bool := fun _ ds => decide (uptoBulkAll ds ≤ 1048576)
def OpenSpec.upto (s : _root_.Go.ChangeSpec) : _root_.Go.OpenSpec := { _root_.Go.OpenSpec.ofChange s with cond := some uptoSmall }

/-- 'laws.FnRowBoundMonotone', WHERE WHAT IT READS IS OF BULK AT MOST 1048576: true; the input reads as it did. -/
def fnRowBoundMonotoneUptoRow : OpenClaim := { program := "ytiiodbjiacicbaa", sum := "47bb2223827ce9d572b37454e523c2d1d5f3d4add38189e658fbc77e626da7cb", func := "loop.example/queryoptimizer/laws.FnRowBoundMonotone", spec := "fnRowBoundMonotone", unfollowed := true, recurses := true, apart := false, narrowed := true }
def FnRowBoundMonotoneUptoSaid : Prop := fnRowBoundMonotoneUptoRow.holds Try.pinned (OpenSpec.upto fnRowBoundMonotoneSpec)

/-- 'laws.FnDistinctFree', WHERE WHAT IT READS IS OF BULK AT MOST 1048576: true; the input reads as it did. -/
def fnDistinctFreeUptoRow : OpenClaim := { program := "ytiiodbjiacicbaa", sum := "47bb2223827ce9d572b37454e523c2d1d5f3d4add38189e658fbc77e626da7cb", func := "loop.example/queryoptimizer/laws.FnDistinctFree", spec := "fnDistinctFree", unfollowed := true, recurses := true, apart := false, narrowed := true }
def FnDistinctFreeUptoSaid : Prop := fnDistinctFreeUptoRow.holds Try.pinned (OpenSpec.upto fnDistinctFreeSpec)

/-- 'laws.FnExactRowBound', WHERE WHAT IT READS IS OF BULK AT MOST 1048576: true; the input reads as it did. -/
def fnExactRowBoundUptoRow : OpenClaim := { program := "ytiiodbjiacicbaa", sum := "47bb2223827ce9d572b37454e523c2d1d5f3d4add38189e658fbc77e626da7cb", func := "loop.example/queryoptimizer/laws.FnExactRowBound", spec := "fnExactRowBound", unfollowed := true, recurses := true, loops := true, apart := false, narrowed := true }
def FnExactRowBoundUptoSaid : Prop := fnExactRowBoundUptoRow.holds Try.pinned (OpenSpec.upto fnExactRowBoundSpec)

/-- 'laws.FnExactIsDuplicateFree', WHERE WHAT IT READS IS OF BULK AT MOST 1048576: true; the input reads as it did. -/
def fnExactIsDuplicateFreeUptoRow : OpenClaim := { program := "ytiiodbjiacicbaa", sum := "47bb2223827ce9d572b37454e523c2d1d5f3d4add38189e658fbc77e626da7cb", func := "loop.example/queryoptimizer/laws.FnExactIsDuplicateFree", spec := "fnExactIsDuplicateFree", unfollowed := true, recurses := true, loops := true, apart := false, narrowed := true }
def FnExactIsDuplicateFreeUptoSaid : Prop := fnExactIsDuplicateFreeUptoRow.holds Try.pinned (OpenSpec.upto fnExactIsDuplicateFreeSpec)

end Rows
end Go.Proofs.Ytiiodbjiacicbaa

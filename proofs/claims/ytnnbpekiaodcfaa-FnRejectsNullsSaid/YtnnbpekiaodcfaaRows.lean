/-
  NARROWER THAN 'FOR EVERY INPUT', by the rows' own cells (each row's printed sentence says how): FnExactOutcomes: loops · FnExactRejectsNulls: loops.
  DERIVED. THE GIVEN ROWS OF THIS SEAT. 6 by the template 'for every input the law returns true; each argument reads behind the call as it read before'; 0 by the template 'total and deterministic' (their statements: YtnnbpekiaodcfaaTotals.lean).
  GIVEN WITH THE SEED: the statements are not yours to turn. If you find one false, say at which input.
  Laid BY PROGRAM, IN A SANDBOX (cutbox-rows.mjs): the forced cells as the released guide's own fill.sh prints them over the translation c1d8e9d24fc1f897… (all of the seat's roots in one cut). By AI agents, Wed Nov 11 2026. No macro, syntax, notation, axiom, sorry.
-/
import Derived.Test.YtnnbpekiaodcfaaChecked
import GoSem.Claim
import GoSem.ClaimJoined
import GoSem.ClaimMapViews
import Derived.JoinedTies
import Derived.KernelRfl
namespace Go.Proofs.Ytnnbpekiaodcfaa
/- THE CELL 'sum', in the pinned program and in every row, IS THE sha256 OF THE DUMP (.gsa) THAT YtnnbpekiaodcfaaProg.lean LOADS. Nothing in Lean hashes anything: it is a label: what it is worth is what the hold of that sum in a sandbox is worth. -/
noncomputable def Try.pinned : Pinned := { name := "ytnnbpekiaodcfaa", sum := "c1d8e9d24fc1f897896b251ec728de98dab4d23a4820c992682372767c6b30b1", checked := Try.checked }
namespace Rows
def none {H : Type} : Left H := { results := [], args := [] }

/-- 'laws.FnOutcomes': WHATEVER THE INPUT: true; the input reads as it did. -/
def fnOutcomesSpec : ChangeSpec := { name := "fnOutcomes", fn := fun _ => fun
  | [d1, d2] => { results := [.lit (.bool true)], args := [d1, d2] }
  | _ => none }
def fnOutcomesRow : OpenClaim := { program := "ytnnbpekiaodcfaa", sum := "c1d8e9d24fc1f897896b251ec728de98dab4d23a4820c992682372767c6b30b1", func := "loop.example/queryoptimizer/laws.FnOutcomes", spec := "fnOutcomes", unfollowed := true, recurses := true, apart := false }
def FnOutcomesSaid : Prop := fnOutcomesRow.holds Try.pinned (OpenSpec.ofChange fnOutcomesSpec)

/-- ITS FALSE NEIGHBOUR: 'it returns false'. Refute it at one input. -/
def fnOutcomesWrong : ChangeSpec := { name := "fnOutcomes", fn := fun _ => fun
  | [d1, d2] => { results := [.lit (.bool false)], args := [d1, d2] }
  | _ => none }
def FnOutcomesWrongFalsely : Prop := fnOutcomesRow.holds Try.pinned (OpenSpec.ofChange fnOutcomesWrong)

/-- 'laws.FnOutcomesMonotone': WHATEVER THE INPUT: true; the input reads as it did. -/
def fnOutcomesMonotoneSpec : ChangeSpec := { name := "fnOutcomesMonotone", fn := fun _ => fun
  | [d1, d2] => { results := [.lit (.bool true)], args := [d1, d2] }
  | _ => none }
def fnOutcomesMonotoneRow : OpenClaim := { program := "ytnnbpekiaodcfaa", sum := "c1d8e9d24fc1f897896b251ec728de98dab4d23a4820c992682372767c6b30b1", func := "loop.example/queryoptimizer/laws.FnOutcomesMonotone", spec := "fnOutcomesMonotone", unfollowed := true, recurses := true, apart := false }
def FnOutcomesMonotoneSaid : Prop := fnOutcomesMonotoneRow.holds Try.pinned (OpenSpec.ofChange fnOutcomesMonotoneSpec)

/-- ITS FALSE NEIGHBOUR: 'it returns false'. Refute it at one input. -/
def fnOutcomesMonotoneWrong : ChangeSpec := { name := "fnOutcomesMonotone", fn := fun _ => fun
  | [d1, d2] => { results := [.lit (.bool false)], args := [d1, d2] }
  | _ => none }
def FnOutcomesMonotoneWrongFalsely : Prop := fnOutcomesMonotoneRow.holds Try.pinned (OpenSpec.ofChange fnOutcomesMonotoneWrong)

/-- 'laws.FnRejectsNulls': WHATEVER THE INPUT: true; the input reads as it did. -/
def fnRejectsNullsSpec : ChangeSpec := { name := "fnRejectsNulls", fn := fun _ => fun
  | [d1, d2] => { results := [.lit (.bool true)], args := [d1, d2] }
  | _ => none }
def fnRejectsNullsRow : OpenClaim := { program := "ytnnbpekiaodcfaa", sum := "c1d8e9d24fc1f897896b251ec728de98dab4d23a4820c992682372767c6b30b1", func := "loop.example/queryoptimizer/laws.FnRejectsNulls", spec := "fnRejectsNulls", unfollowed := true, recurses := true, apart := false }
def FnRejectsNullsSaid : Prop := fnRejectsNullsRow.holds Try.pinned (OpenSpec.ofChange fnRejectsNullsSpec)

/-- ITS FALSE NEIGHBOUR: 'it returns false'. Refute it at one input. -/
def fnRejectsNullsWrong : ChangeSpec := { name := "fnRejectsNulls", fn := fun _ => fun
  | [d1, d2] => { results := [.lit (.bool false)], args := [d1, d2] }
  | _ => none }
def FnRejectsNullsWrongFalsely : Prop := fnRejectsNullsRow.holds Try.pinned (OpenSpec.ofChange fnRejectsNullsWrong)

/-- 'laws.FnRejectsMore': WHATEVER THE INPUT: true; the input reads as it did. -/
def fnRejectsMoreSpec : ChangeSpec := { name := "fnRejectsMore", fn := fun _ => fun
  | [d1, d2] => { results := [.lit (.bool true)], args := [d1, d2] }
  | _ => none }
def fnRejectsMoreRow : OpenClaim := { program := "ytnnbpekiaodcfaa", sum := "c1d8e9d24fc1f897896b251ec728de98dab4d23a4820c992682372767c6b30b1", func := "loop.example/queryoptimizer/laws.FnRejectsMore", spec := "fnRejectsMore", unfollowed := true, recurses := true, apart := false }
def FnRejectsMoreSaid : Prop := fnRejectsMoreRow.holds Try.pinned (OpenSpec.ofChange fnRejectsMoreSpec)

/-- ITS FALSE NEIGHBOUR: 'it returns false'. Refute it at one input. -/
def fnRejectsMoreWrong : ChangeSpec := { name := "fnRejectsMore", fn := fun _ => fun
  | [d1, d2] => { results := [.lit (.bool false)], args := [d1, d2] }
  | _ => none }
def FnRejectsMoreWrongFalsely : Prop := fnRejectsMoreRow.holds Try.pinned (OpenSpec.ofChange fnRejectsMoreWrong)

/-- 'laws.FnExactOutcomes': WHATEVER THE INPUT: true; the input reads as it did. -/
def fnExactOutcomesSpec : ChangeSpec := { name := "fnExactOutcomes", fn := fun _ => fun
  | [d1, d2] => { results := [.lit (.bool true)], args := [d1, d2] }
  | _ => none }
def fnExactOutcomesRow : OpenClaim := { program := "ytnnbpekiaodcfaa", sum := "c1d8e9d24fc1f897896b251ec728de98dab4d23a4820c992682372767c6b30b1", func := "loop.example/queryoptimizer/laws.FnExactOutcomes", spec := "fnExactOutcomes", unfollowed := true, recurses := true, loops := true, apart := false }
def FnExactOutcomesSaid : Prop := fnExactOutcomesRow.holds Try.pinned (OpenSpec.ofChange fnExactOutcomesSpec)

/-- ITS FALSE NEIGHBOUR: 'it returns false'. Refute it at one input. -/
def fnExactOutcomesWrong : ChangeSpec := { name := "fnExactOutcomes", fn := fun _ => fun
  | [d1, d2] => { results := [.lit (.bool false)], args := [d1, d2] }
  | _ => none }
def FnExactOutcomesWrongFalsely : Prop := fnExactOutcomesRow.holds Try.pinned (OpenSpec.ofChange fnExactOutcomesWrong)

/-- 'laws.FnExactRejectsNulls': WHATEVER THE INPUT: true; the input reads as it did. -/
def fnExactRejectsNullsSpec : ChangeSpec := { name := "fnExactRejectsNulls", fn := fun _ => fun
  | [d1, d2, d3] => { results := [.lit (.bool true)], args := [d1, d2, d3] }
  | _ => none }
def fnExactRejectsNullsRow : OpenClaim := { program := "ytnnbpekiaodcfaa", sum := "c1d8e9d24fc1f897896b251ec728de98dab4d23a4820c992682372767c6b30b1", func := "loop.example/queryoptimizer/laws.FnExactRejectsNulls", spec := "fnExactRejectsNulls", unfollowed := true, recurses := true, loops := true, apart := false }
def FnExactRejectsNullsSaid : Prop := fnExactRejectsNullsRow.holds Try.pinned (OpenSpec.ofChange fnExactRejectsNullsSpec)

/-- ITS FALSE NEIGHBOUR: 'it returns false'. Refute it at one input. -/
def fnExactRejectsNullsWrong : ChangeSpec := { name := "fnExactRejectsNulls", fn := fun _ => fun
  | [d1, d2, d3] => { results := [.lit (.bool false)], args := [d1, d2, d3] }
  | _ => none }
def FnExactRejectsNullsWrongFalsely : Prop := fnExactRejectsNullsRow.holds Try.pinned (OpenSpec.ofChange fnExactRejectsNullsWrong)

/- THE SECOND FORM. 'bulk': how many values and letters a reading holds, each counted each time it is reached (what is shared counts as often as it is met; a slice's spare places count too). A statement '..UptoSaid' is the law's where the arguments, and the package variables that the reading takes, are together of bulk at most 1048576: NARROWER than '..Said'. Prove '..Said' where nothing that the law and all that it calls make is longer than what came in: it says more and counts as full. Else prove '..UptoSaid'. A law counts once. -/
mutual
def uptoBulk {H : Type} : DataW H → Nat
  | .lit (.string bytes) => bytes.length + 1
  | .lit _ => 1
  | .nil => 1
  | .ptr d => uptoBulk d + 1
  | .slice elems spare => uptoBulkAll elems + uptoBulkAll spare + 1
  | .agg parts => uptoBulkAll parts + 1
  | .iface _ d => uptoBulk d + 1
  | .map entries => uptoBulkEntries entries + 1
  | .held _ => 1
def uptoBulkAll {H : Type} : List (DataW H) → Nat
  | [] => 0
  | d :: r => uptoBulk d + uptoBulkAll r
def uptoBulkEntries {H : Type} : List (Lit × DataW H) → Nat
  | [] => 0
  | x :: r => uptoBulkEntry x + uptoBulkEntries r
def uptoBulkEntry {H : Type} : Lit × DataW H → Nat
  | (.string bytes, d) => bytes.length + uptoBulk d + 1
  | (_, d) => uptoBulk d + 1
 end
def uptoSmall : (H : Type) → List (DataW H) → Bool := fun _ ds => decide (uptoBulkAll ds ≤ 1048576)
def OpenSpec.upto (s : _root_.Go.ChangeSpec) : _root_.Go.OpenSpec := { _root_.Go.OpenSpec.ofChange s with cond := some uptoSmall }

/-- 'laws.FnOutcomes', WHERE WHAT IT READS IS OF BULK AT MOST 1048576: true; the input reads as it did. -/
def fnOutcomesUptoRow : OpenClaim := { program := "ytnnbpekiaodcfaa", sum := "c1d8e9d24fc1f897896b251ec728de98dab4d23a4820c992682372767c6b30b1", func := "loop.example/queryoptimizer/laws.FnOutcomes", spec := "fnOutcomes", unfollowed := true, recurses := true, apart := false, narrowed := true }
def FnOutcomesUptoSaid : Prop := fnOutcomesUptoRow.holds Try.pinned (OpenSpec.upto fnOutcomesSpec)

/-- 'laws.FnOutcomesMonotone', WHERE WHAT IT READS IS OF BULK AT MOST 1048576: true; the input reads as it did. -/
def fnOutcomesMonotoneUptoRow : OpenClaim := { program := "ytnnbpekiaodcfaa", sum := "c1d8e9d24fc1f897896b251ec728de98dab4d23a4820c992682372767c6b30b1", func := "loop.example/queryoptimizer/laws.FnOutcomesMonotone", spec := "fnOutcomesMonotone", unfollowed := true, recurses := true, apart := false, narrowed := true }
def FnOutcomesMonotoneUptoSaid : Prop := fnOutcomesMonotoneUptoRow.holds Try.pinned (OpenSpec.upto fnOutcomesMonotoneSpec)

/-- 'laws.FnRejectsNulls', WHERE WHAT IT READS IS OF BULK AT MOST 1048576: true; the input reads as it did. -/
def fnRejectsNullsUptoRow : OpenClaim := { program := "ytnnbpekiaodcfaa", sum := "c1d8e9d24fc1f897896b251ec728de98dab4d23a4820c992682372767c6b30b1", func := "loop.example/queryoptimizer/laws.FnRejectsNulls", spec := "fnRejectsNulls", unfollowed := true, recurses := true, apart := false, narrowed := true }
def FnRejectsNullsUptoSaid : Prop := fnRejectsNullsUptoRow.holds Try.pinned (OpenSpec.upto fnRejectsNullsSpec)

/-- 'laws.FnRejectsMore', WHERE WHAT IT READS IS OF BULK AT MOST 1048576: true; the input reads as it did. -/
def fnRejectsMoreUptoRow : OpenClaim := { program := "ytnnbpekiaodcfaa", sum := "c1d8e9d24fc1f897896b251ec728de98dab4d23a4820c992682372767c6b30b1", func := "loop.example/queryoptimizer/laws.FnRejectsMore", spec := "fnRejectsMore", unfollowed := true, recurses := true, apart := false, narrowed := true }
def FnRejectsMoreUptoSaid : Prop := fnRejectsMoreUptoRow.holds Try.pinned (OpenSpec.upto fnRejectsMoreSpec)

/-- 'laws.FnExactOutcomes', WHERE WHAT IT READS IS OF BULK AT MOST 1048576: true; the input reads as it did. -/
def fnExactOutcomesUptoRow : OpenClaim := { program := "ytnnbpekiaodcfaa", sum := "c1d8e9d24fc1f897896b251ec728de98dab4d23a4820c992682372767c6b30b1", func := "loop.example/queryoptimizer/laws.FnExactOutcomes", spec := "fnExactOutcomes", unfollowed := true, recurses := true, loops := true, apart := false, narrowed := true }
def FnExactOutcomesUptoSaid : Prop := fnExactOutcomesUptoRow.holds Try.pinned (OpenSpec.upto fnExactOutcomesSpec)

/-- 'laws.FnExactRejectsNulls', WHERE WHAT IT READS IS OF BULK AT MOST 1048576: true; the input reads as it did. -/
def fnExactRejectsNullsUptoRow : OpenClaim := { program := "ytnnbpekiaodcfaa", sum := "c1d8e9d24fc1f897896b251ec728de98dab4d23a4820c992682372767c6b30b1", func := "loop.example/queryoptimizer/laws.FnExactRejectsNulls", spec := "fnExactRejectsNulls", unfollowed := true, recurses := true, loops := true, apart := false, narrowed := true }
def FnExactRejectsNullsUptoSaid : Prop := fnExactRejectsNullsUptoRow.holds Try.pinned (OpenSpec.upto fnExactRejectsNullsSpec)

end Rows
end Go.Proofs.Ytnnbpekiaodcfaa

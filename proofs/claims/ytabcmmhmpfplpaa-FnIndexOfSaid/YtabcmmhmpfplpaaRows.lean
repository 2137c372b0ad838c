/-
  No cell of these rows narrows 'for every input' (looked for: loops, veiled, ifaces, maps, wideKeys, modest, calm, conditions, laid).
  DERIVED. THE GIVEN ROWS OF THIS SEAT. 5 by the template 'for every input the law returns true; each argument reads behind the call as it read before'; 0 by the template 'total and deterministic' (their statements: YtabcmmhmpfplpaaTotals.lean).
  GIVEN WITH THE SEED: the statements are not yours to turn. If you find one false, say at which input.
  Laid BY PROGRAM, IN A SANDBOX (cutbox-rows.mjs): the forced cells as the released guide's own fill.sh prints them over the translation 283a65292262d5f6… (all of the seat's roots in one cut). By AI agents, Wed Nov 11 2026. No macro, syntax, notation, axiom, sorry.
-/
import Derived.Test.YtabcmmhmpfplpaaChecked
import GoSem.Claim
import GoSem.ClaimJoined
import GoSem.ClaimMapViews
import Derived.JoinedTies
import Derived.KernelRfl
namespace Go.Proofs.Ytabcmmhmpfplpaa
/- THE CELL 'sum', in the pinned program and in every row, IS THE sha256 OF THE DUMP (.gsa) THAT YtabcmmhmpfplpaaProg.lean LOADS. Nothing in Lean hashes anything: it is a label: what it is worth is what the hold of that sum in a sandbox is worth. -/
noncomputable def Try.pinned : Pinned := { name := "ytabcmmhmpfplpaa", sum := "283a65292262d5f6351c6b70b524c9ec674179b8c199db3e6b0906fc61c5187f", checked := Try.checked }
namespace Rows
def none {H : Type} : Left H := { results := [], args := [] }

/-- 'laws.FnSemiJoin': WHATEVER THE INPUT: true; the input reads as it did. -/
def fnSemiJoinSpec : ChangeSpec := { name := "fnSemiJoin", fn := fun _ => fun
  | [d] => { results := [.lit (.bool true)], args := [d] }
  | _ => none }
def fnSemiJoinRow : OpenClaim := { program := "ytabcmmhmpfplpaa", sum := "283a65292262d5f6351c6b70b524c9ec674179b8c199db3e6b0906fc61c5187f", func := "loop.example/queryoptimizer/laws.FnSemiJoin", spec := "fnSemiJoin", unfollowed := true, recurses := true, apart := false }
def FnSemiJoinSaid : Prop := fnSemiJoinRow.holds Try.pinned (OpenSpec.ofChange fnSemiJoinSpec)

/-- ITS FALSE NEIGHBOUR: 'it returns false'. Refute it at one input. -/
def fnSemiJoinWrong : ChangeSpec := { name := "fnSemiJoin", fn := fun _ => fun
  | [d] => { results := [.lit (.bool false)], args := [d] }
  | _ => none }
def FnSemiJoinWrongFalsely : Prop := fnSemiJoinRow.holds Try.pinned (OpenSpec.ofChange fnSemiJoinWrong)

/-- 'laws.FnAntiJoin': WHATEVER THE INPUT: true; the input reads as it did. -/
def fnAntiJoinSpec : ChangeSpec := { name := "fnAntiJoin", fn := fun _ => fun
  | [d] => { results := [.lit (.bool true)], args := [d] }
  | _ => none }
def fnAntiJoinRow : OpenClaim := { program := "ytabcmmhmpfplpaa", sum := "283a65292262d5f6351c6b70b524c9ec674179b8c199db3e6b0906fc61c5187f", func := "loop.example/queryoptimizer/laws.FnAntiJoin", spec := "fnAntiJoin", unfollowed := true, recurses := true, apart := false }
def FnAntiJoinSaid : Prop := fnAntiJoinRow.holds Try.pinned (OpenSpec.ofChange fnAntiJoinSpec)

/-- ITS FALSE NEIGHBOUR: 'it returns false'. Refute it at one input. -/
def fnAntiJoinWrong : ChangeSpec := { name := "fnAntiJoin", fn := fun _ => fun
  | [d] => { results := [.lit (.bool false)], args := [d] }
  | _ => none }
def FnAntiJoinWrongFalsely : Prop := fnAntiJoinRow.holds Try.pinned (OpenSpec.ofChange fnAntiJoinWrong)

/-- 'laws.FnNotIn': WHATEVER THE INPUT: true; the input reads as it did. -/
def fnNotInSpec : ChangeSpec := { name := "fnNotIn", fn := fun _ => fun
  | [d] => { results := [.lit (.bool true)], args := [d] }
  | _ => none }
def fnNotInRow : OpenClaim := { program := "ytabcmmhmpfplpaa", sum := "283a65292262d5f6351c6b70b524c9ec674179b8c199db3e6b0906fc61c5187f", func := "loop.example/queryoptimizer/laws.FnNotIn", spec := "fnNotIn", unfollowed := true, recurses := true, apart := false }
def FnNotInSaid : Prop := fnNotInRow.holds Try.pinned (OpenSpec.ofChange fnNotInSpec)

/-- ITS FALSE NEIGHBOUR: 'it returns false'. Refute it at one input. -/
def fnNotInWrong : ChangeSpec := { name := "fnNotIn", fn := fun _ => fun
  | [d] => { results := [.lit (.bool false)], args := [d] }
  | _ => none }
def FnNotInWrongFalsely : Prop := fnNotInRow.holds Try.pinned (OpenSpec.ofChange fnNotInWrong)

/-- 'laws.FnNotInExact': WHATEVER THE INPUT: true; the input reads as it did. -/
def fnNotInExactSpec : ChangeSpec := { name := "fnNotInExact", fn := fun _ => fun
  | [d] => { results := [.lit (.bool true)], args := [d] }
  | _ => none }
def fnNotInExactRow : OpenClaim := { program := "ytabcmmhmpfplpaa", sum := "283a65292262d5f6351c6b70b524c9ec674179b8c199db3e6b0906fc61c5187f", func := "loop.example/queryoptimizer/laws.FnNotInExact", spec := "fnNotInExact", unfollowed := true, recurses := true, apart := false }
def FnNotInExactSaid : Prop := fnNotInExactRow.holds Try.pinned (OpenSpec.ofChange fnNotInExactSpec)

/-- ITS FALSE NEIGHBOUR: 'it returns false'. Refute it at one input. -/
def fnNotInExactWrong : ChangeSpec := { name := "fnNotInExact", fn := fun _ => fun
  | [d] => { results := [.lit (.bool false)], args := [d] }
  | _ => none }
def FnNotInExactWrongFalsely : Prop := fnNotInExactRow.holds Try.pinned (OpenSpec.ofChange fnNotInExactWrong)

/-- 'laws.FnIndexOf': WHATEVER THE INPUT: true; the input reads as it did. -/
def fnIndexOfSpec : ChangeSpec := { name := "fnIndexOf", fn := fun _ => fun
  | [d] => { results := [.lit (.bool true)], args := [d] }
  | _ => none }
def fnIndexOfRow : OpenClaim := { program := "ytabcmmhmpfplpaa", sum := "283a65292262d5f6351c6b70b524c9ec674179b8c199db3e6b0906fc61c5187f", func := "loop.example/queryoptimizer/laws.FnIndexOf", spec := "fnIndexOf", unfollowed := true, recurses := true, apart := false }
def FnIndexOfSaid : Prop := fnIndexOfRow.holds Try.pinned (OpenSpec.ofChange fnIndexOfSpec)

/-- ITS FALSE NEIGHBOUR: 'it returns false'. Refute it at one input. -/
def fnIndexOfWrong : ChangeSpec := { name := "fnIndexOf", fn := fun _ => fun
  | [d] => { results := [.lit (.bool false)], args := [d] }
  | _ => none }
def FnIndexOfWrongFalsely : Prop := fnIndexOfRow.holds Try.pinned (OpenSpec.ofChange fnIndexOfWrong)

/- THE SECOND FORM. 'bulk': how many values and letters a reading holds, each counted each time it is reached (what is shared counts as often as it is met; a slice's spare places count too). A statement '..UptoSaid' is the law's where the arguments, and the package variables that the reading takes, are together of bulk at most 1048576: NARROWER than '..Said'. Prove '..Said' where nothing that the law and all that it calls make is longer than what came in: it says more and counts as full. Else prove '..UptoSaid'. A law counts once. -/
mutual
def uptoBulk {H : Type} : DataW H → Nat
  | .lit (.string bytes) => bytes.length + 1
  | .lit _ => 1
  | .nil => 1
  | .ptr d => uptoBulk d + 1
  | .slice elems spare => uptoBulkAll elems + uptoBulkAll spare + 1
  | .agg parts => uptoBulkAll parts + 1
  | .iface _ d => uptoBulk d + 1
  | .map entries => uptoBulkEntries entries + 1
  | .held _ => 1
def uptoBulkAll {H : Type} : List (DataW H) → Nat
  | [] => 0
  | d :: r => uptoBulk d + uptoBulkAll r
def uptoBulkEntries {H : Type} : List (Lit × DataW H) → Nat
  | [] => 0
  | x :: r => uptoBulkEntry x + uptoBulkEntries r
def uptoBulkEntry {H : Type} : Lit × DataW H → Nat
  | (.string bytes, d) => bytes.length + uptoBulk d + 1
  | (_, d) => uptoBulk d + 1
 end
def uptoSmall : (H : Type) → List (DataW H) → Bool := fun _ ds => decide (uptoBulkAll ds ≤ 1048576)
def OpenSpec.upto (s : _root_.Go.ChangeSpec) : _root_.Go.OpenSpec := { _root_.Go.OpenSpec.ofChange s with cond := some uptoSmall }

/-- 'laws.FnSemiJoin', WHERE WHAT IT READS IS OF BULK AT MOST 1048576: true; the input reads as it did. -/
def fnSemiJoinUptoRow : OpenClaim := { program := "ytabcmmhmpfplpaa", sum := "283a65292262d5f6351c6b70b524c9ec674179b8c199db3e6b0906fc61c5187f", func := "loop.example/queryoptimizer/laws.FnSemiJoin", spec := "fnSemiJoin", unfollowed := true, recurses := true, apart := false, narrowed := true }
def FnSemiJoinUptoSaid : Prop := fnSemiJoinUptoRow.holds Try.pinned (OpenSpec.upto fnSemiJoinSpec)

/-- 'laws.FnAntiJoin', WHERE WHAT IT READS IS OF BULK AT MOST 1048576: true; the input reads as it did. -/
def fnAntiJoinUptoRow : OpenClaim := { program := "ytabcmmhmpfplpaa", sum := "283a65292262d5f6351c6b70b524c9ec674179b8c199db3e6b0906fc61c5187f", func := "loop.example/queryoptimizer/laws.FnAntiJoin", spec := "fnAntiJoin", unfollowed := true, recurses := true, apart := false, narrowed := true }
def FnAntiJoinUptoSaid : Prop := fnAntiJoinUptoRow.holds Try.pinned (OpenSpec.upto fnAntiJoinSpec)

/-- 'laws.FnNotIn', WHERE WHAT IT READS IS OF BULK AT MOST 1048576: true; the input reads as it did. -/
def fnNotInUptoRow : OpenClaim := { program := "ytabcmmhmpfplpaa", sum := "283a65292262d5f6351c6b70b524c9ec674179b8c199db3e6b0906fc61c5187f", func := "loop.example/queryoptimizer/laws.FnNotIn", spec := "fnNotIn", unfollowed := true, recurses := true, apart := false, narrowed := true }
def FnNotInUptoSaid : Prop := fnNotInUptoRow.holds Try.pinned (OpenSpec.upto fnNotInSpec)

/-- 'laws.FnNotInExact', WHERE WHAT IT READS IS OF BULK AT MOST 1048576: true; the input reads as it did. -/
def fnNotInExactUptoRow : OpenClaim := { program := "ytabcmmhmpfplpaa", sum := "283a65292262d5f6351c6b70b524c9ec674179b8c199db3e6b0906fc61c5187f", func := "loop.example/queryoptimizer/laws.FnNotInExact", spec := "fnNotInExact", unfollowed := true, recurses := true, apart := false, narrowed := true }
def FnNotInExactUptoSaid : Prop := fnNotInExactUptoRow.holds Try.pinned (OpenSpec.upto fnNotInExactSpec)

/-- 'laws.FnIndexOf', WHERE WHAT IT READS IS OF BULK AT MOST 1048576: true; the input reads as it did. -/
def fnIndexOfUptoRow : OpenClaim := { program := "ytabcmmhmpfplpaa", sum := "283a65292262d5f6351c6b70b524c9ec674179b8c199db3e6b0906fc61c5187f", func := "loop.example/queryoptimizer/laws.FnIndexOf", spec := "fnIndexOf", unfollowed := true, recurses := true, apart := false, narrowed := true }
def FnIndexOfUptoSaid : Prop := fnIndexOfUptoRow.holds Try.pinned (OpenSpec.upto fnIndexOfSpec)

end Rows
end Go.Proofs.Ytabcmmhmpfplpaa

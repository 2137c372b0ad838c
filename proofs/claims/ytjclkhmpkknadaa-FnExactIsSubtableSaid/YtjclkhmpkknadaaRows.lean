/-
  No cell of these rows narrows 'for every input' (looked for: loops, veiled, ifaces, maps, wideKeys, modest, calm, conditions, laid).
  DERIVED. THE GIVEN ROWS OF THIS SEAT. 8 by the template 'for every input the law returns true; each argument reads behind the call as it read before'; 0 by the template 'total and deterministic' (their statements: YtjclkhmpkknadaaTotals.lean).
  GIVEN WITH THE SEED: the statements are not yours to turn. If you find one false, say at which input.
  Laid BY PROGRAM, IN A SANDBOX (cutbox-rows.mjs): the forced cells as the released guide's own fill.sh prints them over the translation 0dafbb7936dfd1d8… (all of the seat's roots in one cut). By AI agents, Wed Nov 11 2026. No macro, syntax, notation, axiom, sorry.
-/
import Derived.Test.YtjclkhmpkknadaaChecked
import GoSem.Claim
import GoSem.ClaimJoined
import GoSem.ClaimMapViews
import Derived.JoinedTies
import Derived.KernelRfl
namespace Go.Proofs.Ytjclkhmpkknadaa
/- THE CELL 'sum', in the pinned program and in every row, IS THE sha256 OF THE DUMP (.gsa) THAT YtjclkhmpkknadaaProg.lean LOADS. Nothing in Lean hashes anything: it is a label: what it is worth is what the hold of that sum in a sandbox is worth. -/
noncomputable def Try.pinned : Pinned := { name := "ytjclkhmpkknadaa", sum := "0dafbb7936dfd1d8b9e87ef39981d78279cb4e0382237f3d35f26de4d8749959", checked := Try.checked }
namespace Rows
def none {H : Type} : Left H := { results := [], args := [] }

/-- 'laws.FnIntersectAll': WHATEVER THE INPUT: true; the input reads as it did. -/
def fnIntersectAllSpec : ChangeSpec := { name := "fnIntersectAll", fn := fun _ => fun
  | [d] => { results := [.lit (.bool true)], args := [d] }
  | _ => none }
def fnIntersectAllRow : OpenClaim := { program := "ytjclkhmpkknadaa", sum := "0dafbb7936dfd1d8b9e87ef39981d78279cb4e0382237f3d35f26de4d8749959", func := "loop.example/queryoptimizer/laws.FnIntersectAll", spec := "fnIntersectAll", unfollowed := true, recurses := true, apart := false }
def FnIntersectAllSaid : Prop := fnIntersectAllRow.holds Try.pinned (OpenSpec.ofChange fnIntersectAllSpec)

/-- ITS FALSE NEIGHBOUR: 'it returns false'. Refute it at one input. -/
def fnIntersectAllWrong : ChangeSpec := { name := "fnIntersectAll", fn := fun _ => fun
  | [d] => { results := [.lit (.bool false)], args := [d] }
  | _ => none }
def FnIntersectAllWrongFalsely : Prop := fnIntersectAllRow.holds Try.pinned (OpenSpec.ofChange fnIntersectAllWrong)

/-- 'laws.FnExceptAll': WHATEVER THE INPUT: true; the input reads as it did. -/
def fnExceptAllSpec : ChangeSpec := { name := "fnExceptAll", fn := fun _ => fun
  | [d] => { results := [.lit (.bool true)], args := [d] }
  | _ => none }
def fnExceptAllRow : OpenClaim := { program := "ytjclkhmpkknadaa", sum := "0dafbb7936dfd1d8b9e87ef39981d78279cb4e0382237f3d35f26de4d8749959", func := "loop.example/queryoptimizer/laws.FnExceptAll", spec := "fnExceptAll", unfollowed := true, recurses := true, apart := false }
def FnExceptAllSaid : Prop := fnExceptAllRow.holds Try.pinned (OpenSpec.ofChange fnExceptAllSpec)

/-- ITS FALSE NEIGHBOUR: 'it returns false'. Refute it at one input. -/
def fnExceptAllWrong : ChangeSpec := { name := "fnExceptAll", fn := fun _ => fun
  | [d] => { results := [.lit (.bool false)], args := [d] }
  | _ => none }
def FnExceptAllWrongFalsely : Prop := fnExceptAllRow.holds Try.pinned (OpenSpec.ofChange fnExceptAllWrong)

/-- 'laws.FnExceptIntersect': WHATEVER THE INPUT: true; the input reads as it did. -/
def fnExceptIntersectSpec : ChangeSpec := { name := "fnExceptIntersect", fn := fun _ => fun
  | [d] => { results := [.lit (.bool true)], args := [d] }
  | _ => none }
def fnExceptIntersectRow : OpenClaim := { program := "ytjclkhmpkknadaa", sum := "0dafbb7936dfd1d8b9e87ef39981d78279cb4e0382237f3d35f26de4d8749959", func := "loop.example/queryoptimizer/laws.FnExceptIntersect", spec := "fnExceptIntersect", unfollowed := true, recurses := true, apart := false }
def FnExceptIntersectSaid : Prop := fnExceptIntersectRow.holds Try.pinned (OpenSpec.ofChange fnExceptIntersectSpec)

/-- ITS FALSE NEIGHBOUR: 'it returns false'. Refute it at one input. -/
def fnExceptIntersectWrong : ChangeSpec := { name := "fnExceptIntersect", fn := fun _ => fun
  | [d] => { results := [.lit (.bool false)], args := [d] }
  | _ => none }
def FnExceptIntersectWrongFalsely : Prop := fnExceptIntersectRow.holds Try.pinned (OpenSpec.ofChange fnExceptIntersectWrong)

/-- 'laws.FnUnionExcept': WHATEVER THE INPUT: true; the input reads as it did. -/
def fnUnionExceptSpec : ChangeSpec := { name := "fnUnionExcept", fn := fun _ => fun
  | [d] => { results := [.lit (.bool true)], args := [d] }
  | _ => none }
def fnUnionExceptRow : OpenClaim := { program := "ytjclkhmpkknadaa", sum := "0dafbb7936dfd1d8b9e87ef39981d78279cb4e0382237f3d35f26de4d8749959", func := "loop.example/queryoptimizer/laws.FnUnionExcept", spec := "fnUnionExcept", unfollowed := true, recurses := true, apart := false }
def FnUnionExceptSaid : Prop := fnUnionExceptRow.holds Try.pinned (OpenSpec.ofChange fnUnionExceptSpec)

/-- ITS FALSE NEIGHBOUR: 'it returns false'. Refute it at one input. -/
def fnUnionExceptWrong : ChangeSpec := { name := "fnUnionExcept", fn := fun _ => fun
  | [d] => { results := [.lit (.bool false)], args := [d] }
  | _ => none }
def FnUnionExceptWrongFalsely : Prop := fnUnionExceptRow.holds Try.pinned (OpenSpec.ofChange fnUnionExceptWrong)

/-- 'laws.FnIsSubtable': WHATEVER THE INPUT: true; the input reads as it did. -/
def fnIsSubtableSpec : ChangeSpec := { name := "fnIsSubtable", fn := fun _ => fun
  | [d] => { results := [.lit (.bool true)], args := [d] }
  | _ => none }
def fnIsSubtableRow : OpenClaim := { program := "ytjclkhmpkknadaa", sum := "0dafbb7936dfd1d8b9e87ef39981d78279cb4e0382237f3d35f26de4d8749959", func := "loop.example/queryoptimizer/laws.FnIsSubtable", spec := "fnIsSubtable", unfollowed := true, recurses := true, apart := false }
def FnIsSubtableSaid : Prop := fnIsSubtableRow.holds Try.pinned (OpenSpec.ofChange fnIsSubtableSpec)

/-- ITS FALSE NEIGHBOUR: 'it returns false'. Refute it at one input. -/
def fnIsSubtableWrong : ChangeSpec := { name := "fnIsSubtable", fn := fun _ => fun
  | [d] => { results := [.lit (.bool false)], args := [d] }
  | _ => none }
def FnIsSubtableWrongFalsely : Prop := fnIsSubtableRow.holds Try.pinned (OpenSpec.ofChange fnIsSubtableWrong)

/-- 'laws.FnNotIn': WHATEVER THE INPUT: true; the input reads as it did. -/
def fnNotInSpec : ChangeSpec := { name := "fnNotIn", fn := fun _ => fun
  | [d] => { results := [.lit (.bool true)], args := [d] }
  | _ => none }
def fnNotInRow : OpenClaim := { program := "ytjclkhmpkknadaa", sum := "0dafbb7936dfd1d8b9e87ef39981d78279cb4e0382237f3d35f26de4d8749959", func := "loop.example/queryoptimizer/laws.FnNotIn", spec := "fnNotIn", unfollowed := true, recurses := true, apart := false }
def FnNotInSaid : Prop := fnNotInRow.holds Try.pinned (OpenSpec.ofChange fnNotInSpec)

/-- ITS FALSE NEIGHBOUR: 'it returns false'. Refute it at one input. -/
def fnNotInWrong : ChangeSpec := { name := "fnNotIn", fn := fun _ => fun
  | [d] => { results := [.lit (.bool false)], args := [d] }
  | _ => none }
def FnNotInWrongFalsely : Prop := fnNotInRow.holds Try.pinned (OpenSpec.ofChange fnNotInWrong)

/-- 'laws.FnNotInExact': WHATEVER THE INPUT: true; the input reads as it did. -/
def fnNotInExactSpec : ChangeSpec := { name := "fnNotInExact", fn := fun _ => fun
  | [d] => { results := [.lit (.bool true)], args := [d] }
  | _ => none }
def fnNotInExactRow : OpenClaim := { program := "ytjclkhmpkknadaa", sum := "0dafbb7936dfd1d8b9e87ef39981d78279cb4e0382237f3d35f26de4d8749959", func := "loop.example/queryoptimizer/laws.FnNotInExact", spec := "fnNotInExact", unfollowed := true, recurses := true, apart := false }
def FnNotInExactSaid : Prop := fnNotInExactRow.holds Try.pinned (OpenSpec.ofChange fnNotInExactSpec)

/-- ITS FALSE NEIGHBOUR: 'it returns false'. Refute it at one input. -/
def fnNotInExactWrong : ChangeSpec := { name := "fnNotInExact", fn := fun _ => fun
  | [d] => { results := [.lit (.bool false)], args := [d] }
  | _ => none }
def FnNotInExactWrongFalsely : Prop := fnNotInExactRow.holds Try.pinned (OpenSpec.ofChange fnNotInExactWrong)

/-- 'laws.FnExactIsSubtable': WHATEVER THE INPUT: true; the input reads as it did. -/
def fnExactIsSubtableSpec : ChangeSpec := { name := "fnExactIsSubtable", fn := fun _ => fun
  | [d1, d2] => { results := [.lit (.bool true)], args := [d1, d2] }
  | _ => none }
def fnExactIsSubtableRow : OpenClaim := { program := "ytjclkhmpkknadaa", sum := "0dafbb7936dfd1d8b9e87ef39981d78279cb4e0382237f3d35f26de4d8749959", func := "loop.example/queryoptimizer/laws.FnExactIsSubtable", spec := "fnExactIsSubtable", unfollowed := true, recurses := true, apart := false }
def FnExactIsSubtableSaid : Prop := fnExactIsSubtableRow.holds Try.pinned (OpenSpec.ofChange fnExactIsSubtableSpec)

/-- ITS FALSE NEIGHBOUR: 'it returns false'. Refute it at one input. -/
def fnExactIsSubtableWrong : ChangeSpec := { name := "fnExactIsSubtable", fn := fun _ => fun
  | [d1, d2] => { results := [.lit (.bool false)], args := [d1, d2] }
  | _ => none }
def FnExactIsSubtableWrongFalsely : Prop := fnExactIsSubtableRow.holds Try.pinned (OpenSpec.ofChange fnExactIsSubtableWrong)

/- THE SECOND FORM. 'bulk': how many values and letters a reading holds, each counted each time it is reached (what is shared counts as often as it is met; a slice's spare places count too). A statement '..UptoSaid' is the law's where the arguments, and the package variables that the reading takes, are together of bulk at most 1048576: NARROWER than '..Said'. Prove '..Said' where nothing that the law and all that it calls make is longer than what came in: it says more and counts as full. Else prove '..UptoSaid'. A law counts once. -/
mutual
def uptoBulk {H : Type} : DataW H → Nat
  | .lit (.string bytes) => bytes.length + 1
  | .lit _ => 1
  | .nil => 1
  | .ptr d => uptoBulk d + 1
  | .slice elems spare => uptoBulkAll elems + uptoBulkAll spare + 1
  | .agg parts => uptoBulkAll parts + 1
  | .iface _ d => uptoBulk d + 1
  | .map entries => uptoBulkEntries entries + 1
  | .held _ => 1
def uptoBulkAll {H : Type} : List (DataW H) → Nat
  | [] => 0
  | d :: r => uptoBulk d + uptoBulkAll r
def uptoBulkEntries {H : Type} : List (Lit × DataW H) → Nat
  | [] => 0
  | x :: r => uptoBulkEntry x + uptoBulkEntries r
def uptoBulkEntry {H : Type} : Lit × DataW H → Nat
  | (.string bytes, d) => bytes.length + uptoBulk d + 1
  | (_, d) => uptoBulk d + 1
 end
def uptoSmall : (H : Type) → List (DataW H) → Bool := fun _ ds => decide (uptoBulkAll ds ≤ 1048576)
def OpenSpec.upto (s : _root_.Go.ChangeSpec) : _root_.Go.OpenSpec := { _root_.Go.OpenSpec.ofChange s with cond := some uptoSmall }

/-- 'laws.FnIntersectAll', WHERE WHAT IT READS IS OF BULK AT MOST 1048576: true; the input reads as it did. -/
def fnIntersectAllUptoRow : OpenClaim := { program := "ytjclkhmpkknadaa", sum := "0dafbb7936dfd1d8b9e87ef39981d78279cb4e0382237f3d35f26de4d8749959", func := "loop.example/queryoptimizer/laws.FnIntersectAll", spec := "fnIntersectAll", unfollowed := true, recurses := true, apart := false, narrowed := true }
def FnIntersectAllUptoSaid : Prop := fnIntersectAllUptoRow.holds Try.pinned (OpenSpec.upto fnIntersectAllSpec)

/-- 'laws.FnExceptAll', WHERE WHAT IT READS IS OF BULK AT MOST 1048576: true; the input reads as it did. -/
def fnExceptAllUptoRow : OpenClaim := { program := "ytjclkhmpkknadaa", sum := "0dafbb7936dfd1d8b9e87ef39981d78279cb4e0382237f3d35f26de4d8749959", func := "loop.example/queryoptimizer/laws.FnExceptAll", spec := "fnExceptAll", unfollowed := true, recurses := true, apart := false, narrowed := true }
def FnExceptAllUptoSaid : Prop := fnExceptAllUptoRow.holds Try.pinned (OpenSpec.upto fnExceptAllSpec)

/-- 'laws.FnExceptIntersect', WHERE WHAT IT READS IS OF BULK AT MOST 1048576: true; the input reads as it did. -/
def fnExceptIntersectUptoRow : OpenClaim := { program := "ytjclkhmpkknadaa", sum := "0dafbb7936dfd1d8b9e87ef39981d78279cb4e0382237f3d35f26de4d8749959", func := "loop.example/queryoptimizer/laws.FnExceptIntersect", spec := "fnExceptIntersect", unfollowed := true, recurses := true, apart := false, narrowed := true }
def FnExceptIntersectUptoSaid : Prop := fnExceptIntersectUptoRow.holds Try.pinned (OpenSpec.upto fnExceptIntersectSpec)

/-- 'laws.FnUnionExcept', WHERE WHAT IT READS IS OF BULK AT MOST 1048576: true; the input reads as it did. -/
def fnUnionExceptUptoRow : OpenClaim := { program := "ytjclkhmpkknadaa", sum := "0dafbb7936dfd1d8b9e87ef39981d78279cb4e0382237f3d35f26de4d8749959", func := "loop.example/queryoptimizer/laws.FnUnionExcept", spec := "fnUnionExcept", unfollowed := true, recurses := true, apart := false, narrowed := true }
def FnUnionExceptUptoSaid : Prop := fnUnionExceptUptoRow.holds Try.pinned (OpenSpec.upto fnUnionExceptSpec)

/-- 'laws.FnIsSubtable', WHERE WHAT IT READS IS OF BULK AT MOST 1048576: true; the input reads as it did. -/
def fnIsSubtableUptoRow : OpenClaim := { program := "ytjclkhmpkknadaa", sum := "0dafbb7936dfd1d8b9e87ef39981d78279cb4e0382237f3d35f26de4d8749959", func := "loop.example/queryoptimizer/laws.FnIsSubtable", spec := "fnIsSubtable", unfollowed := true, recurses := true, apart := false, narrowed := true }
def FnIsSubtableUptoSaid : Prop := fnIsSubtableUptoRow.holds Try.pinned (OpenSpec.upto fnIsSubtableSpec)

/-- 'laws.FnNotIn', WHERE WHAT IT READS IS OF BULK AT MOST 1048576: true; the input reads as it did. -/
def fnNotInUptoRow : OpenClaim := { program := "ytjclkhmpkknadaa", sum := "0dafbb7936dfd1d8b9e87ef39981d78279cb4e0382237f3d35f26de4d8749959", func := "loop.example/queryoptimizer/laws.FnNotIn", spec := "fnNotIn", unfollowed := true, recurses := true, apart := false, narrowed := true }
def FnNotInUptoSaid : Prop := fnNotInUptoRow.holds Try.pinned (OpenSpec.upto fnNotInSpec)

/-- 'laws.FnNotInExact', WHERE WHAT IT READS IS OF BULK AT MOST 1048576: true; the input reads as it did. -/
def fnNotInExactUptoRow : OpenClaim := { program := "ytjclkhmpkknadaa", sum := "0dafbb7936dfd1d8b9e87ef39981d78279cb4e0382237f3d35f26de4d8749959", func := "loop.example/queryoptimizer/laws.FnNotInExact", spec := "fnNotInExact", unfollowed := true, recurses := true, apart := false, narrowed := true }
def FnNotInExactUptoSaid : Prop := fnNotInExactUptoRow.holds Try.pinned (OpenSpec.upto fnNotInExactSpec)

/-- 'laws.FnExactIsSubtable', WHERE WHAT IT READS IS OF BULK AT MOST 1048576: true; the input reads as it did. -/
def fnExactIsSubtableUptoRow : OpenClaim := { program := "ytjclkhmpkknadaa", sum := "0dafbb7936dfd1d8b9e87ef39981d78279cb4e0382237f3d35f26de4d8749959", func := "loop.example/queryoptimizer/laws.FnExactIsSubtable", spec := "fnExactIsSubtable", unfollowed := true, recurses := true, apart := false, narrowed := true }
def FnExactIsSubtableUptoSaid : Prop := fnExactIsSubtableUptoRow.holds Try.pinned (OpenSpec.upto fnExactIsSubtableSpec)

end Rows
end Go.Proofs.Ytjclkhmpkknadaa

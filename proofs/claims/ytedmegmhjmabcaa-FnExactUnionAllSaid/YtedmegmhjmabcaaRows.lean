/-
  No cell of these rows narrows 'for every input' (looked for: loops, veiled, ifaces, maps, wideKeys, modest, calm, conditions, laid).
  DERIVED. THE GIVEN ROWS OF THIS SEAT. 12 by the template 'for every input the law returns true; each argument reads behind the call as it read before'; 0 by the template 'total and deterministic' (their statements: YtedmegmhjmabcaaTotals.lean).
  GIVEN WITH THE SEED: the statements are not yours to turn. If you find one false, say at which input.
  Laid BY PROGRAM, IN A SANDBOX (cutbox-rows.mjs): the forced cells as the released guide's own fill.sh prints them over the translation b43adb576d9f94d3… (all of the seat's roots in one cut). By AI agents, Wed Nov 11 2026. No macro, syntax, notation, axiom, sorry.
-/
import Derived.Test.YtedmegmhjmabcaaChecked
import GoSem.Claim
import GoSem.ClaimJoined
import GoSem.ClaimMapViews
import Derived.JoinedTies
import Derived.KernelRfl
namespace Go.Proofs.Ytedmegmhjmabcaa
/- THE CELL 'sum', in the pinned program and in every row, IS THE sha256 OF THE DUMP (.gsa) THAT YtedmegmhjmabcaaProg.lean LOADS. Nothing in Lean hashes anything: it is a label: what it is worth is what the hold of that sum in a sandbox is worth. -/
noncomputable def Try.pinned : Pinned := { name := "ytedmegmhjmabcaa", sum := "b43adb576d9f94d31e98d7b20da70b9c5ed2c74bb1211dd95cdcb9cfc55faba0", checked := Try.checked }
namespace Rows
def none {H : Type} : Left H := { results := [], args := [] }

/-- 'laws.FnExactIndexOf': WHATEVER THE INPUT: true; the input reads as it did. -/
def fnExactIndexOfSpec : ChangeSpec := { name := "fnExactIndexOf", fn := fun _ => fun
  | [d1, d2] => { results := [.lit (.bool true)], args := [d1, d2] }
  | _ => none }
def fnExactIndexOfRow : OpenClaim := { program := "ytedmegmhjmabcaa", sum := "b43adb576d9f94d31e98d7b20da70b9c5ed2c74bb1211dd95cdcb9cfc55faba0", func := "loop.example/queryoptimizer/laws.FnExactIndexOf", spec := "fnExactIndexOf", unfollowed := true, recurses := true, apart := false }
def FnExactIndexOfSaid : Prop := fnExactIndexOfRow.holds Try.pinned (OpenSpec.ofChange fnExactIndexOfSpec)

/-- ITS FALSE NEIGHBOUR: 'it returns false'. Refute it at one input. -/
def fnExactIndexOfWrong : ChangeSpec := { name := "fnExactIndexOf", fn := fun _ => fun
  | [d1, d2] => { results := [.lit (.bool false)], args := [d1, d2] }
  | _ => none }
def FnExactIndexOfWrongFalsely : Prop := fnExactIndexOfRow.holds Try.pinned (OpenSpec.ofChange fnExactIndexOfWrong)

/-- 'laws.FnExactScanRange': WHATEVER THE INPUT: true; the input reads as it did. -/
def fnExactScanRangeSpec : ChangeSpec := { name := "fnExactScanRange", fn := fun _ => fun
  | [d1, d2, d3] => { results := [.lit (.bool true)], args := [d1, d2, d3] }
  | _ => none }
def fnExactScanRangeRow : OpenClaim := { program := "ytedmegmhjmabcaa", sum := "b43adb576d9f94d31e98d7b20da70b9c5ed2c74bb1211dd95cdcb9cfc55faba0", func := "loop.example/queryoptimizer/laws.FnExactScanRange", spec := "fnExactScanRange", unfollowed := true, recurses := true, apart := false }
def FnExactScanRangeSaid : Prop := fnExactScanRangeRow.holds Try.pinned (OpenSpec.ofChange fnExactScanRangeSpec)

/-- ITS FALSE NEIGHBOUR: 'it returns false'. Refute it at one input. -/
def fnExactScanRangeWrong : ChangeSpec := { name := "fnExactScanRange", fn := fun _ => fun
  | [d1, d2, d3] => { results := [.lit (.bool false)], args := [d1, d2, d3] }
  | _ => none }
def FnExactScanRangeWrongFalsely : Prop := fnExactScanRangeRow.holds Try.pinned (OpenSpec.ofChange fnExactScanRangeWrong)

/-- 'laws.FnExactSortRows': WHATEVER THE INPUT: true; the input reads as it did. -/
def fnExactSortRowsSpec : ChangeSpec := { name := "fnExactSortRows", fn := fun _ => fun
  | [d1, d2] => { results := [.lit (.bool true)], args := [d1, d2] }
  | _ => none }
def fnExactSortRowsRow : OpenClaim := { program := "ytedmegmhjmabcaa", sum := "b43adb576d9f94d31e98d7b20da70b9c5ed2c74bb1211dd95cdcb9cfc55faba0", func := "loop.example/queryoptimizer/laws.FnExactSortRows", spec := "fnExactSortRows", unfollowed := true, recurses := true, apart := false }
def FnExactSortRowsSaid : Prop := fnExactSortRowsRow.holds Try.pinned (OpenSpec.ofChange fnExactSortRowsSpec)

/-- ITS FALSE NEIGHBOUR: 'it returns false'. Refute it at one input. -/
def fnExactSortRowsWrong : ChangeSpec := { name := "fnExactSortRows", fn := fun _ => fun
  | [d1, d2] => { results := [.lit (.bool false)], args := [d1, d2] }
  | _ => none }
def FnExactSortRowsWrongFalsely : Prop := fnExactSortRowsRow.holds Try.pinned (OpenSpec.ofChange fnExactSortRowsWrong)

/-- 'laws.FnExactTopRows': WHATEVER THE INPUT: true; the input reads as it did. -/
def fnExactTopRowsSpec : ChangeSpec := { name := "fnExactTopRows", fn := fun _ => fun
  | [d1, d2, d3] => { results := [.lit (.bool true)], args := [d1, d2, d3] }
  | _ => none }
def fnExactTopRowsRow : OpenClaim := { program := "ytedmegmhjmabcaa", sum := "b43adb576d9f94d31e98d7b20da70b9c5ed2c74bb1211dd95cdcb9cfc55faba0", func := "loop.example/queryoptimizer/laws.FnExactTopRows", spec := "fnExactTopRows", unfollowed := true, recurses := true, apart := false }
def FnExactTopRowsSaid : Prop := fnExactTopRowsRow.holds Try.pinned (OpenSpec.ofChange fnExactTopRowsSpec)

/-- ITS FALSE NEIGHBOUR: 'it returns false'. Refute it at one input. -/
def fnExactTopRowsWrong : ChangeSpec := { name := "fnExactTopRows", fn := fun _ => fun
  | [d1, d2, d3] => { results := [.lit (.bool false)], args := [d1, d2, d3] }
  | _ => none }
def FnExactTopRowsWrongFalsely : Prop := fnExactTopRowsRow.holds Try.pinned (OpenSpec.ofChange fnExactTopRowsWrong)

/-- 'laws.FnExactSemiJoin': WHATEVER THE INPUT: true; the input reads as it did. -/
def fnExactSemiJoinSpec : ChangeSpec := { name := "fnExactSemiJoin", fn := fun _ => fun
  | [d1, d2, d3, d4] => { results := [.lit (.bool true)], args := [d1, d2, d3, d4] }
  | _ => none }
def fnExactSemiJoinRow : OpenClaim := { program := "ytedmegmhjmabcaa", sum := "b43adb576d9f94d31e98d7b20da70b9c5ed2c74bb1211dd95cdcb9cfc55faba0", func := "loop.example/queryoptimizer/laws.FnExactSemiJoin", spec := "fnExactSemiJoin", unfollowed := true, recurses := true, apart := false }
def FnExactSemiJoinSaid : Prop := fnExactSemiJoinRow.holds Try.pinned (OpenSpec.ofChange fnExactSemiJoinSpec)

/-- ITS FALSE NEIGHBOUR: 'it returns false'. Refute it at one input. -/
def fnExactSemiJoinWrong : ChangeSpec := { name := "fnExactSemiJoin", fn := fun _ => fun
  | [d1, d2, d3, d4] => { results := [.lit (.bool false)], args := [d1, d2, d3, d4] }
  | _ => none }
def FnExactSemiJoinWrongFalsely : Prop := fnExactSemiJoinRow.holds Try.pinned (OpenSpec.ofChange fnExactSemiJoinWrong)

/-- 'laws.FnExactAntiJoin': WHATEVER THE INPUT: true; the input reads as it did. -/
def fnExactAntiJoinSpec : ChangeSpec := { name := "fnExactAntiJoin", fn := fun _ => fun
  | [d1, d2, d3, d4] => { results := [.lit (.bool true)], args := [d1, d2, d3, d4] }
  | _ => none }
def fnExactAntiJoinRow : OpenClaim := { program := "ytedmegmhjmabcaa", sum := "b43adb576d9f94d31e98d7b20da70b9c5ed2c74bb1211dd95cdcb9cfc55faba0", func := "loop.example/queryoptimizer/laws.FnExactAntiJoin", spec := "fnExactAntiJoin", unfollowed := true, recurses := true, apart := false }
def FnExactAntiJoinSaid : Prop := fnExactAntiJoinRow.holds Try.pinned (OpenSpec.ofChange fnExactAntiJoinSpec)

/-- ITS FALSE NEIGHBOUR: 'it returns false'. Refute it at one input. -/
def fnExactAntiJoinWrong : ChangeSpec := { name := "fnExactAntiJoin", fn := fun _ => fun
  | [d1, d2, d3, d4] => { results := [.lit (.bool false)], args := [d1, d2, d3, d4] }
  | _ => none }
def FnExactAntiJoinWrongFalsely : Prop := fnExactAntiJoinRow.holds Try.pinned (OpenSpec.ofChange fnExactAntiJoinWrong)

/-- 'laws.FnExactNotIn': WHATEVER THE INPUT: true; the input reads as it did. -/
def fnExactNotInSpec : ChangeSpec := { name := "fnExactNotIn", fn := fun _ => fun
  | [d1, d2, d3, d4] => { results := [.lit (.bool true)], args := [d1, d2, d3, d4] }
  | _ => none }
def fnExactNotInRow : OpenClaim := { program := "ytedmegmhjmabcaa", sum := "b43adb576d9f94d31e98d7b20da70b9c5ed2c74bb1211dd95cdcb9cfc55faba0", func := "loop.example/queryoptimizer/laws.FnExactNotIn", spec := "fnExactNotIn", unfollowed := true, recurses := true, apart := false }
def FnExactNotInSaid : Prop := fnExactNotInRow.holds Try.pinned (OpenSpec.ofChange fnExactNotInSpec)

/-- ITS FALSE NEIGHBOUR: 'it returns false'. Refute it at one input. -/
def fnExactNotInWrong : ChangeSpec := { name := "fnExactNotIn", fn := fun _ => fun
  | [d1, d2, d3, d4] => { results := [.lit (.bool false)], args := [d1, d2, d3, d4] }
  | _ => none }
def FnExactNotInWrongFalsely : Prop := fnExactNotInRow.holds Try.pinned (OpenSpec.ofChange fnExactNotInWrong)

/-- 'laws.FnExactIntersectAll': WHATEVER THE INPUT: true; the input reads as it did. -/
def fnExactIntersectAllSpec : ChangeSpec := { name := "fnExactIntersectAll", fn := fun _ => fun
  | [d1, d2] => { results := [.lit (.bool true)], args := [d1, d2] }
  | _ => none }
def fnExactIntersectAllRow : OpenClaim := { program := "ytedmegmhjmabcaa", sum := "b43adb576d9f94d31e98d7b20da70b9c5ed2c74bb1211dd95cdcb9cfc55faba0", func := "loop.example/queryoptimizer/laws.FnExactIntersectAll", spec := "fnExactIntersectAll", unfollowed := true, recurses := true, apart := false }
def FnExactIntersectAllSaid : Prop := fnExactIntersectAllRow.holds Try.pinned (OpenSpec.ofChange fnExactIntersectAllSpec)

/-- ITS FALSE NEIGHBOUR: 'it returns false'. Refute it at one input. -/
def fnExactIntersectAllWrong : ChangeSpec := { name := "fnExactIntersectAll", fn := fun _ => fun
  | [d1, d2] => { results := [.lit (.bool false)], args := [d1, d2] }
  | _ => none }
def FnExactIntersectAllWrongFalsely : Prop := fnExactIntersectAllRow.holds Try.pinned (OpenSpec.ofChange fnExactIntersectAllWrong)

/-- 'laws.FnExactExceptAll': WHATEVER THE INPUT: true; the input reads as it did. -/
def fnExactExceptAllSpec : ChangeSpec := { name := "fnExactExceptAll", fn := fun _ => fun
  | [d1, d2] => { results := [.lit (.bool true)], args := [d1, d2] }
  | _ => none }
def fnExactExceptAllRow : OpenClaim := { program := "ytedmegmhjmabcaa", sum := "b43adb576d9f94d31e98d7b20da70b9c5ed2c74bb1211dd95cdcb9cfc55faba0", func := "loop.example/queryoptimizer/laws.FnExactExceptAll", spec := "fnExactExceptAll", unfollowed := true, recurses := true, apart := false }
def FnExactExceptAllSaid : Prop := fnExactExceptAllRow.holds Try.pinned (OpenSpec.ofChange fnExactExceptAllSpec)

/-- ITS FALSE NEIGHBOUR: 'it returns false'. Refute it at one input. -/
def fnExactExceptAllWrong : ChangeSpec := { name := "fnExactExceptAll", fn := fun _ => fun
  | [d1, d2] => { results := [.lit (.bool false)], args := [d1, d2] }
  | _ => none }
def FnExactExceptAllWrongFalsely : Prop := fnExactExceptAllRow.holds Try.pinned (OpenSpec.ofChange fnExactExceptAllWrong)

/-- 'laws.FnExactTableOf': WHATEVER THE INPUT: true; the input reads as it did. -/
def fnExactTableOfSpec : ChangeSpec := { name := "fnExactTableOf", fn := fun _ => fun
  | [d1, d2] => { results := [.lit (.bool true)], args := [d1, d2] }
  | _ => none }
def fnExactTableOfRow : OpenClaim := { program := "ytedmegmhjmabcaa", sum := "b43adb576d9f94d31e98d7b20da70b9c5ed2c74bb1211dd95cdcb9cfc55faba0", func := "loop.example/queryoptimizer/laws.FnExactTableOf", spec := "fnExactTableOf", unfollowed := true, recurses := true, apart := false }
def FnExactTableOfSaid : Prop := fnExactTableOfRow.holds Try.pinned (OpenSpec.ofChange fnExactTableOfSpec)

/-- ITS FALSE NEIGHBOUR: 'it returns false'. Refute it at one input. -/
def fnExactTableOfWrong : ChangeSpec := { name := "fnExactTableOf", fn := fun _ => fun
  | [d1, d2] => { results := [.lit (.bool false)], args := [d1, d2] }
  | _ => none }
def FnExactTableOfWrongFalsely : Prop := fnExactTableOfRow.holds Try.pinned (OpenSpec.ofChange fnExactTableOfWrong)

/-- 'laws.FnExactUnionAll': WHATEVER THE INPUT: true; the input reads as it did. -/
def fnExactUnionAllSpec : ChangeSpec := { name := "fnExactUnionAll", fn := fun _ => fun
  | [d1, d2] => { results := [.lit (.bool true)], args := [d1, d2] }
  | _ => none }
def fnExactUnionAllRow : OpenClaim := { program := "ytedmegmhjmabcaa", sum := "b43adb576d9f94d31e98d7b20da70b9c5ed2c74bb1211dd95cdcb9cfc55faba0", func := "loop.example/queryoptimizer/laws.FnExactUnionAll", spec := "fnExactUnionAll", unfollowed := true, recurses := true, apart := false }
def FnExactUnionAllSaid : Prop := fnExactUnionAllRow.holds Try.pinned (OpenSpec.ofChange fnExactUnionAllSpec)

/-- ITS FALSE NEIGHBOUR: 'it returns false'. Refute it at one input. -/
def fnExactUnionAllWrong : ChangeSpec := { name := "fnExactUnionAll", fn := fun _ => fun
  | [d1, d2] => { results := [.lit (.bool false)], args := [d1, d2] }
  | _ => none }
def FnExactUnionAllWrongFalsely : Prop := fnExactUnionAllRow.holds Try.pinned (OpenSpec.ofChange fnExactUnionAllWrong)

/-- 'laws.FnExactDistinctRows': WHATEVER THE INPUT: true; the input reads as it did. -/
def fnExactDistinctRowsSpec : ChangeSpec := { name := "fnExactDistinctRows", fn := fun _ => fun
  | [d] => { results := [.lit (.bool true)], args := [d] }
  | _ => none }
def fnExactDistinctRowsRow : OpenClaim := { program := "ytedmegmhjmabcaa", sum := "b43adb576d9f94d31e98d7b20da70b9c5ed2c74bb1211dd95cdcb9cfc55faba0", func := "loop.example/queryoptimizer/laws.FnExactDistinctRows", spec := "fnExactDistinctRows", unfollowed := true, recurses := true, apart := false }
def FnExactDistinctRowsSaid : Prop := fnExactDistinctRowsRow.holds Try.pinned (OpenSpec.ofChange fnExactDistinctRowsSpec)

/-- ITS FALSE NEIGHBOUR: 'it returns false'. Refute it at one input. -/
def fnExactDistinctRowsWrong : ChangeSpec := { name := "fnExactDistinctRows", fn := fun _ => fun
  | [d] => { results := [.lit (.bool false)], args := [d] }
  | _ => none }
def FnExactDistinctRowsWrongFalsely : Prop := fnExactDistinctRowsRow.holds Try.pinned (OpenSpec.ofChange fnExactDistinctRowsWrong)

/- THE SECOND FORM. 'bulk': how many values and letters a reading holds, each counted each time it is reached (what is shared counts as often as it is met; a slice's spare places count too). A statement '..UptoSaid' is the law's where the arguments, and the package variables that the reading takes, are together of bulk at most 1048576: NARROWER than '..Said'. Prove '..Said' where nothing that the law and all that it calls make is longer than what came in: it says more and counts as full. Else prove '..UptoSaid'. A law counts once. -/
mutual
def uptoBulk {H : Type} : DataW H → Nat
  | .lit (.string bytes) => bytes.length + 1
  | .lit _ => 1
  | .nil => 1
  | .ptr d => uptoBulk d + 1
  | .slice elems spare => uptoBulkAll elems + uptoBulkAll spare + 1
  | .agg parts => uptoBulkAll parts + 1
  | .iface _ d => uptoBulk d + 1
  | .map entries => uptoBulkEntries entries + 1
  | .held _ => 1
def uptoBulkAll {H : Type} : List (DataW H) → Nat
  | [] => 0
  | d :: r => uptoBulk d + uptoBulkAll r
def uptoBulkEntries {H : Type} : List (Lit × DataW H) → Nat
  | [] => 0
  | x :: r => uptoBulkEntry x + uptoBulkEntries r
def uptoBulkEntry {H : Type} : Lit × DataW H → Nat
  | (.string bytes, d) => bytes.length + uptoBulk d + 1
  | (_, d) => uptoBulk d + 1
 end
def uptoSmall : (H : Type) → List (DataW H) → Bool := fun _ ds => decide (uptoBulkAll ds ≤ 1048576)
def OpenSpec.upto (s : _root_.Go.ChangeSpec) : _root_.Go.OpenSpec := { _root_.Go.OpenSpec.ofChange s with cond := some uptoSmall }

/-- 'laws.FnExactIndexOf', WHERE WHAT IT READS IS OF BULK AT MOST 1048576: true; the input reads as it did. -/
def fnExactIndexOfUptoRow : OpenClaim := { program := "ytedmegmhjmabcaa", sum := "b43adb576d9f94d31e98d7b20da70b9c5ed2c74bb1211dd95cdcb9cfc55faba0", func := "loop.example/queryoptimizer/laws.FnExactIndexOf", spec := "fnExactIndexOf", unfollowed := true, recurses := true, apart := false, narrowed := true }
def FnExactIndexOfUptoSaid : Prop := fnExactIndexOfUptoRow.holds Try.pinned (OpenSpec.upto fnExactIndexOfSpec)

/-- 'laws.FnExactScanRange', WHERE WHAT IT READS IS OF BULK AT MOST 1048576: true; the input reads as it did. -/
def fnExactScanRangeUptoRow : OpenClaim := { program := "ytedmegmhjmabcaa", sum := "b43adb576d9f94d31e98d7b20da70b9c5ed2c74bb1211dd95cdcb9cfc55faba0", func := "loop.example/queryoptimizer/laws.FnExactScanRange", spec := "fnExactScanRange", unfollowed := true, recurses := true, apart := false, narrowed := true }
def FnExactScanRangeUptoSaid : Prop := fnExactScanRangeUptoRow.holds Try.pinned (OpenSpec.upto fnExactScanRangeSpec)

/-- 'laws.FnExactSortRows', WHERE WHAT IT READS IS OF BULK AT MOST 1048576: true; the input reads as it did. -/
def fnExactSortRowsUptoRow : OpenClaim := { program := "ytedmegmhjmabcaa", sum := "b43adb576d9f94d31e98d7b20da70b9c5ed2c74bb1211dd95cdcb9cfc55faba0", func := "loop.example/queryoptimizer/laws.FnExactSortRows", spec := "fnExactSortRows", unfollowed := true, recurses := true, apart := false, narrowed := true }
def FnExactSortRowsUptoSaid : Prop := fnExactSortRowsUptoRow.holds Try.pinned (OpenSpec.upto fnExactSortRowsSpec)

/-- 'laws.FnExactTopRows', WHERE WHAT IT READS IS OF BULK AT MOST 1048576: true; the input reads as it did. -/
def fnExactTopRowsUptoRow : OpenClaim := { program := "ytedmegmhjmabcaa", sum := "b43adb576d9f94d31e98d7b20da70b9c5ed2c74bb1211dd95cdcb9cfc55faba0", func := "loop.example/queryoptimizer/laws.FnExactTopRows", spec := "fnExactTopRows", unfollowed := true, recurses := true, apart := false, narrowed := true }
def FnExactTopRowsUptoSaid : Prop := fnExactTopRowsUptoRow.holds Try.pinned (OpenSpec.upto fnExactTopRowsSpec)

/-- 'laws.FnExactSemiJoin', WHERE WHAT IT READS IS OF BULK AT MOST 1048576: true; the input reads as it did. -/
def fnExactSemiJoinUptoRow : OpenClaim := { program := "ytedmegmhjmabcaa", sum := "b43adb576d9f94d31e98d7b20da70b9c5ed2c74bb1211dd95cdcb9cfc55faba0", func := "loop.example/queryoptimizer/laws.FnExactSemiJoin", spec := "fnExactSemiJoin", unfollowed := true, recurses := true, apart := false, narrowed := true }
def FnExactSemiJoinUptoSaid : Prop := fnExactSemiJoinUptoRow.holds Try.pinned (OpenSpec.upto fnExactSemiJoinSpec)

/-- 'laws.FnExactAntiJoin', WHERE WHAT IT READS IS OF BULK AT MOST 1048576: true; the input reads as it did. -/
def fnExactAntiJoinUptoRow : OpenClaim := { program := "ytedmegmhjmabcaa", sum := "b43adb576d9f94d31e98d7b20da70b9c5ed2c74bb1211dd95cdcb9cfc55faba0", func := "loop.example/queryoptimizer/laws.FnExactAntiJoin", spec := "fnExactAntiJoin", unfollowed := true, recurses := true, apart := false, narrowed := true }
def FnExactAntiJoinUptoSaid : Prop := fnExactAntiJoinUptoRow.holds Try.pinned (OpenSpec.upto fnExactAntiJoinSpec)

/-- 'laws.FnExactNotIn', WHERE WHAT IT READS IS OF BULK AT MOST 1048576: true; the input reads as it did. -/
def fnExactNotInUptoRow : OpenClaim := { program := "ytedmegmhjmabcaa", sum := "b43adb576d9f94d31e98d7b20da70b9c5ed2c74bb1211dd95cdcb9cfc55faba0", func := "loop.example/queryoptimizer/laws.FnExactNotIn", spec := "fnExactNotIn", unfollowed := true, recurses := true, apart := false, narrowed := true }
def FnExactNotInUptoSaid : Prop := fnExactNotInUptoRow.holds Try.pinned (OpenSpec.upto fnExactNotInSpec)

/-- 'laws.FnExactIntersectAll', WHERE WHAT IT READS IS OF BULK AT MOST 1048576: true; the input reads as it did. -/
def fnExactIntersectAllUptoRow : OpenClaim := { program := "ytedmegmhjmabcaa", sum := "b43adb576d9f94d31e98d7b20da70b9c5ed2c74bb1211dd95cdcb9cfc55faba0", func := "loop.example/queryoptimizer/laws.FnExactIntersectAll", spec := "fnExactIntersectAll", unfollowed := true, recurses := true, apart := false, narrowed := true }
def FnExactIntersectAllUptoSaid : Prop := fnExactIntersectAllUptoRow.holds Try.pinned (OpenSpec.upto fnExactIntersectAllSpec)

/-- 'laws.FnExactExceptAll', WHERE WHAT IT READS IS OF BULK AT MOST 1048576: true; the input reads as it did. -/
def fnExactExceptAllUptoRow : OpenClaim := { program := "ytedmegmhjmabcaa", sum := "b43adb576d9f94d31e98d7b20da70b9c5ed2c74bb1211dd95cdcb9cfc55faba0", func := "loop.example/queryoptimizer/laws.FnExactExceptAll", spec := "fnExactExceptAll", unfollowed := true, recurses := true, apart := false, narrowed := true }
def FnExactExceptAllUptoSaid : Prop := fnExactExceptAllUptoRow.holds Try.pinned (OpenSpec.upto fnExactExceptAllSpec)

/-- 'laws.FnExactTableOf', WHERE WHAT IT READS IS OF BULK AT MOST 1048576: true; the input reads as it did. -/
def fnExactTableOfUptoRow : OpenClaim := { program := "ytedmegmhjmabcaa", sum := "b43adb576d9f94d31e98d7b20da70b9c5ed2c74bb1211dd95cdcb9cfc55faba0", func := "loop.example/queryoptimizer/laws.FnExactTableOf", spec := "fnExactTableOf", unfollowed := true, recurses := true, apart := false, narrowed := true }
def FnExactTableOfUptoSaid : Prop := fnExactTableOfUptoRow.holds Try.pinned (OpenSpec.upto fnExactTableOfSpec)

/-- 'laws.FnExactUnionAll', WHERE WHAT IT READS IS OF BULK AT MOST 1048576: true; the input reads as it did. -/
def fnExactUnionAllUptoRow : OpenClaim := { program := "ytedmegmhjmabcaa", sum := "b43adb576d9f94d31e98d7b20da70b9c5ed2c74bb1211dd95cdcb9cfc55faba0", func := "loop.example/queryoptimizer/laws.FnExactUnionAll", spec := "fnExactUnionAll", unfollowed := true, recurses := true, apart := false, narrowed := true }
def FnExactUnionAllUptoSaid : Prop := fnExactUnionAllUptoRow.holds Try.pinned (OpenSpec.upto fnExactUnionAllSpec)

/-- 'laws.FnExactDistinctRows', WHERE WHAT IT READS IS OF BULK AT MOST 1048576: true; the input reads as it did. -/
def fnExactDistinctRowsUptoRow : OpenClaim := { program := "ytedmegmhjmabcaa", sum := "b43adb576d9f94d31e98d7b20da70b9c5ed2c74bb1211dd95cdcb9cfc55faba0", func := "loop.example/queryoptimizer/laws.FnExactDistinctRows", spec := "fnExactDistinctRows", unfollowed := true, recurses := true, apart := false, narrowed := true }
def FnExactDistinctRowsUptoSaid : Prop := fnExactDistinctRowsUptoRow.holds Try.pinned (OpenSpec.upto fnExactDistinctRowsSpec)

end Rows
end Go.Proofs.Ytedmegmhjmabcaa

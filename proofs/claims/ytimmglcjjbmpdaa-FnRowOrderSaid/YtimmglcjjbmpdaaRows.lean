/-
  No cell of these rows narrows 'for every input' (looked for: loops, veiled, ifaces, maps, wideKeys, modest, calm, conditions, laid).
  DERIVED. THE GIVEN ROWS OF THIS SEAT. 14 by the template 'for every input the law returns true; each argument reads behind the call as it read before'; 0 by the template 'total and deterministic' (their statements: YtimmglcjjbmpdaaTotals.lean).
  GIVEN WITH THE SEED: the statements are not yours to turn. If you find one false, say at which input.
  Laid BY PROGRAM, IN A SANDBOX (cutbox-rows.mjs): the forced cells as the released guide's own fill.sh prints them over the translation c92798595b1256d5… (all of the seat's roots in one cut). By AI agents, Wed Nov 11 2026. No macro, syntax, notation, axiom, sorry.
-/
import Derived.Test.YtimmglcjjbmpdaaChecked
import GoSem.Claim
import GoSem.ClaimJoined
import GoSem.ClaimMapViews
import Derived.JoinedTies
import Derived.KernelRfl
namespace Go.Proofs.Ytimmglcjjbmpdaa
/- THE CELL 'sum', in the pinned program and in every row, IS THE sha256 OF THE DUMP (.gsa) THAT YtimmglcjjbmpdaaProg.lean LOADS. Nothing in Lean hashes anything: it is a label: what it is worth is what the hold of that sum in a sandbox is worth. -/
noncomputable def Try.pinned : Pinned := { name := "ytimmglcjjbmpdaa", sum := "c92798595b1256d55a7ecbf2e51bbe3ffd4dea747d04560080b577fb67cb6f8f", checked := Try.checked }
namespace Rows
def none {H : Type} : Left H := { results := [], args := [] }

/-- 'laws.FnValueOrder': WHATEVER THE INPUT: true; the input reads as it did. -/
def fnValueOrderSpec : ChangeSpec := { name := "fnValueOrder", fn := fun _ => fun
  | [d] => { results := [.lit (.bool true)], args := [d] }
  | _ => none }
def fnValueOrderRow : OpenClaim := { program := "ytimmglcjjbmpdaa", sum := "c92798595b1256d55a7ecbf2e51bbe3ffd4dea747d04560080b577fb67cb6f8f", func := "loop.example/queryoptimizer/laws.FnValueOrder", spec := "fnValueOrder", apart := false }
def FnValueOrderSaid : Prop := fnValueOrderRow.holds Try.pinned (OpenSpec.ofChange fnValueOrderSpec)

/-- ITS FALSE NEIGHBOUR: 'it returns false'. Refute it at one input. -/
def fnValueOrderWrong : ChangeSpec := { name := "fnValueOrder", fn := fun _ => fun
  | [d] => { results := [.lit (.bool false)], args := [d] }
  | _ => none }
def FnValueOrderWrongFalsely : Prop := fnValueOrderRow.holds Try.pinned (OpenSpec.ofChange fnValueOrderWrong)

/-- 'laws.FnRowOrder': WHATEVER THE INPUT: true; the input reads as it did. -/
def fnRowOrderSpec : ChangeSpec := { name := "fnRowOrder", fn := fun _ => fun
  | [d] => { results := [.lit (.bool true)], args := [d] }
  | _ => none }
def fnRowOrderRow : OpenClaim := { program := "ytimmglcjjbmpdaa", sum := "c92798595b1256d55a7ecbf2e51bbe3ffd4dea747d04560080b577fb67cb6f8f", func := "loop.example/queryoptimizer/laws.FnRowOrder", spec := "fnRowOrder", apart := false }
def FnRowOrderSaid : Prop := fnRowOrderRow.holds Try.pinned (OpenSpec.ofChange fnRowOrderSpec)

/-- ITS FALSE NEIGHBOUR: 'it returns false'. Refute it at one input. -/
def fnRowOrderWrong : ChangeSpec := { name := "fnRowOrder", fn := fun _ => fun
  | [d] => { results := [.lit (.bool false)], args := [d] }
  | _ => none }
def FnRowOrderWrongFalsely : Prop := fnRowOrderRow.holds Try.pinned (OpenSpec.ofChange fnRowOrderWrong)

/-- 'laws.FnTableOf': WHATEVER THE INPUT: true; the input reads as it did. -/
def fnTableOfSpec : ChangeSpec := { name := "fnTableOf", fn := fun _ => fun
  | [d] => { results := [.lit (.bool true)], args := [d] }
  | _ => none }
def fnTableOfRow : OpenClaim := { program := "ytimmglcjjbmpdaa", sum := "c92798595b1256d55a7ecbf2e51bbe3ffd4dea747d04560080b577fb67cb6f8f", func := "loop.example/queryoptimizer/laws.FnTableOf", spec := "fnTableOf", unfollowed := true, recurses := true, apart := false }
def FnTableOfSaid : Prop := fnTableOfRow.holds Try.pinned (OpenSpec.ofChange fnTableOfSpec)

/-- ITS FALSE NEIGHBOUR: 'it returns false'. Refute it at one input. -/
def fnTableOfWrong : ChangeSpec := { name := "fnTableOf", fn := fun _ => fun
  | [d] => { results := [.lit (.bool false)], args := [d] }
  | _ => none }
def FnTableOfWrongFalsely : Prop := fnTableOfRow.holds Try.pinned (OpenSpec.ofChange fnTableOfWrong)

/-- 'laws.FnCountRow': WHATEVER THE INPUT: true; the input reads as it did. -/
def fnCountRowSpec : ChangeSpec := { name := "fnCountRow", fn := fun _ => fun
  | [d] => { results := [.lit (.bool true)], args := [d] }
  | _ => none }
def fnCountRowRow : OpenClaim := { program := "ytimmglcjjbmpdaa", sum := "c92798595b1256d55a7ecbf2e51bbe3ffd4dea747d04560080b577fb67cb6f8f", func := "loop.example/queryoptimizer/laws.FnCountRow", spec := "fnCountRow", unfollowed := true, recurses := true, apart := false }
def FnCountRowSaid : Prop := fnCountRowRow.holds Try.pinned (OpenSpec.ofChange fnCountRowSpec)

/-- ITS FALSE NEIGHBOUR: 'it returns false'. Refute it at one input. -/
def fnCountRowWrong : ChangeSpec := { name := "fnCountRow", fn := fun _ => fun
  | [d] => { results := [.lit (.bool false)], args := [d] }
  | _ => none }
def FnCountRowWrongFalsely : Prop := fnCountRowRow.holds Try.pinned (OpenSpec.ofChange fnCountRowWrong)

/-- 'laws.FnUnionAll': WHATEVER THE INPUT: true; the input reads as it did. -/
def fnUnionAllSpec : ChangeSpec := { name := "fnUnionAll", fn := fun _ => fun
  | [d] => { results := [.lit (.bool true)], args := [d] }
  | _ => none }
def fnUnionAllRow : OpenClaim := { program := "ytimmglcjjbmpdaa", sum := "c92798595b1256d55a7ecbf2e51bbe3ffd4dea747d04560080b577fb67cb6f8f", func := "loop.example/queryoptimizer/laws.FnUnionAll", spec := "fnUnionAll", unfollowed := true, recurses := true, apart := false }
def FnUnionAllSaid : Prop := fnUnionAllRow.holds Try.pinned (OpenSpec.ofChange fnUnionAllSpec)

/-- ITS FALSE NEIGHBOUR: 'it returns false'. Refute it at one input. -/
def fnUnionAllWrong : ChangeSpec := { name := "fnUnionAll", fn := fun _ => fun
  | [d] => { results := [.lit (.bool false)], args := [d] }
  | _ => none }
def FnUnionAllWrongFalsely : Prop := fnUnionAllRow.holds Try.pinned (OpenSpec.ofChange fnUnionAllWrong)

/-- 'laws.FnDistinctRows': WHATEVER THE INPUT: true; the input reads as it did. -/
def fnDistinctRowsSpec : ChangeSpec := { name := "fnDistinctRows", fn := fun _ => fun
  | [d] => { results := [.lit (.bool true)], args := [d] }
  | _ => none }
def fnDistinctRowsRow : OpenClaim := { program := "ytimmglcjjbmpdaa", sum := "c92798595b1256d55a7ecbf2e51bbe3ffd4dea747d04560080b577fb67cb6f8f", func := "loop.example/queryoptimizer/laws.FnDistinctRows", spec := "fnDistinctRows", unfollowed := true, recurses := true, apart := false }
def FnDistinctRowsSaid : Prop := fnDistinctRowsRow.holds Try.pinned (OpenSpec.ofChange fnDistinctRowsSpec)

/-- ITS FALSE NEIGHBOUR: 'it returns false'. Refute it at one input. -/
def fnDistinctRowsWrong : ChangeSpec := { name := "fnDistinctRows", fn := fun _ => fun
  | [d] => { results := [.lit (.bool false)], args := [d] }
  | _ => none }
def FnDistinctRowsWrongFalsely : Prop := fnDistinctRowsRow.holds Try.pinned (OpenSpec.ofChange fnDistinctRowsWrong)

/-- 'laws.FnExactValidValue': WHATEVER THE INPUT: true; the input reads as it did. -/
def fnExactValidValueSpec : ChangeSpec := { name := "fnExactValidValue", fn := fun _ => fun
  | [d] => { results := [.lit (.bool true)], args := [d] }
  | _ => none }
def fnExactValidValueRow : OpenClaim := { program := "ytimmglcjjbmpdaa", sum := "c92798595b1256d55a7ecbf2e51bbe3ffd4dea747d04560080b577fb67cb6f8f", func := "loop.example/queryoptimizer/laws.FnExactValidValue", spec := "fnExactValidValue", apart := false }
def FnExactValidValueSaid : Prop := fnExactValidValueRow.holds Try.pinned (OpenSpec.ofChange fnExactValidValueSpec)

/-- ITS FALSE NEIGHBOUR: 'it returns false'. Refute it at one input. -/
def fnExactValidValueWrong : ChangeSpec := { name := "fnExactValidValue", fn := fun _ => fun
  | [d] => { results := [.lit (.bool false)], args := [d] }
  | _ => none }
def FnExactValidValueWrongFalsely : Prop := fnExactValidValueRow.holds Try.pinned (OpenSpec.ofChange fnExactValidValueWrong)

/-- 'laws.FnExactCompareValues': WHATEVER THE INPUT: true; the input reads as it did. -/
def fnExactCompareValuesSpec : ChangeSpec := { name := "fnExactCompareValues", fn := fun _ => fun
  | [d1, d2] => { results := [.lit (.bool true)], args := [d1, d2] }
  | _ => none }
def fnExactCompareValuesRow : OpenClaim := { program := "ytimmglcjjbmpdaa", sum := "c92798595b1256d55a7ecbf2e51bbe3ffd4dea747d04560080b577fb67cb6f8f", func := "loop.example/queryoptimizer/laws.FnExactCompareValues", spec := "fnExactCompareValues", apart := false }
def FnExactCompareValuesSaid : Prop := fnExactCompareValuesRow.holds Try.pinned (OpenSpec.ofChange fnExactCompareValuesSpec)

/-- ITS FALSE NEIGHBOUR: 'it returns false'. Refute it at one input. -/
def fnExactCompareValuesWrong : ChangeSpec := { name := "fnExactCompareValues", fn := fun _ => fun
  | [d1, d2] => { results := [.lit (.bool false)], args := [d1, d2] }
  | _ => none }
def FnExactCompareValuesWrongFalsely : Prop := fnExactCompareValuesRow.holds Try.pinned (OpenSpec.ofChange fnExactCompareValuesWrong)

/-- 'laws.FnExactCompareRows': WHATEVER THE INPUT: true; the input reads as it did. -/
def fnExactCompareRowsSpec : ChangeSpec := { name := "fnExactCompareRows", fn := fun _ => fun
  | [d1, d2] => { results := [.lit (.bool true)], args := [d1, d2] }
  | _ => none }
def fnExactCompareRowsRow : OpenClaim := { program := "ytimmglcjjbmpdaa", sum := "c92798595b1256d55a7ecbf2e51bbe3ffd4dea747d04560080b577fb67cb6f8f", func := "loop.example/queryoptimizer/laws.FnExactCompareRows", spec := "fnExactCompareRows", apart := false }
def FnExactCompareRowsSaid : Prop := fnExactCompareRowsRow.holds Try.pinned (OpenSpec.ofChange fnExactCompareRowsSpec)

/-- ITS FALSE NEIGHBOUR: 'it returns false'. Refute it at one input. -/
def fnExactCompareRowsWrong : ChangeSpec := { name := "fnExactCompareRows", fn := fun _ => fun
  | [d1, d2] => { results := [.lit (.bool false)], args := [d1, d2] }
  | _ => none }
def FnExactCompareRowsWrongFalsely : Prop := fnExactCompareRowsRow.holds Try.pinned (OpenSpec.ofChange fnExactCompareRowsWrong)

/-- 'laws.FnExactValidTable': WHATEVER THE INPUT: true; the input reads as it did. -/
def fnExactValidTableSpec : ChangeSpec := { name := "fnExactValidTable", fn := fun _ => fun
  | [d] => { results := [.lit (.bool true)], args := [d] }
  | _ => none }
def fnExactValidTableRow : OpenClaim := { program := "ytimmglcjjbmpdaa", sum := "c92798595b1256d55a7ecbf2e51bbe3ffd4dea747d04560080b577fb67cb6f8f", func := "loop.example/queryoptimizer/laws.FnExactValidTable", spec := "fnExactValidTable", unfollowed := true, recurses := true, apart := false }
def FnExactValidTableSaid : Prop := fnExactValidTableRow.holds Try.pinned (OpenSpec.ofChange fnExactValidTableSpec)

/-- ITS FALSE NEIGHBOUR: 'it returns false'. Refute it at one input. -/
def fnExactValidTableWrong : ChangeSpec := { name := "fnExactValidTable", fn := fun _ => fun
  | [d] => { results := [.lit (.bool false)], args := [d] }
  | _ => none }
def FnExactValidTableWrongFalsely : Prop := fnExactValidTableRow.holds Try.pinned (OpenSpec.ofChange fnExactValidTableWrong)

/-- 'laws.FnExactTableOf': WHATEVER THE INPUT: true; the input reads as it did. -/
def fnExactTableOfSpec : ChangeSpec := { name := "fnExactTableOf", fn := fun _ => fun
  | [d1, d2] => { results := [.lit (.bool true)], args := [d1, d2] }
  | _ => none }
def fnExactTableOfRow : OpenClaim := { program := "ytimmglcjjbmpdaa", sum := "c92798595b1256d55a7ecbf2e51bbe3ffd4dea747d04560080b577fb67cb6f8f", func := "loop.example/queryoptimizer/laws.FnExactTableOf", spec := "fnExactTableOf", unfollowed := true, recurses := true, apart := false }
def FnExactTableOfSaid : Prop := fnExactTableOfRow.holds Try.pinned (OpenSpec.ofChange fnExactTableOfSpec)

/-- ITS FALSE NEIGHBOUR: 'it returns false'. Refute it at one input. -/
def fnExactTableOfWrong : ChangeSpec := { name := "fnExactTableOf", fn := fun _ => fun
  | [d1, d2] => { results := [.lit (.bool false)], args := [d1, d2] }
  | _ => none }
def FnExactTableOfWrongFalsely : Prop := fnExactTableOfRow.holds Try.pinned (OpenSpec.ofChange fnExactTableOfWrong)

/-- 'laws.FnExactCountRow': WHATEVER THE INPUT: true; the input reads as it did. -/
def fnExactCountRowSpec : ChangeSpec := { name := "fnExactCountRow", fn := fun _ => fun
  | [d1, d2] => { results := [.lit (.bool true)], args := [d1, d2] }
  | _ => none }
def fnExactCountRowRow : OpenClaim := { program := "ytimmglcjjbmpdaa", sum := "c92798595b1256d55a7ecbf2e51bbe3ffd4dea747d04560080b577fb67cb6f8f", func := "loop.example/queryoptimizer/laws.FnExactCountRow", spec := "fnExactCountRow", unfollowed := true, recurses := true, apart := false }
def FnExactCountRowSaid : Prop := fnExactCountRowRow.holds Try.pinned (OpenSpec.ofChange fnExactCountRowSpec)

/-- ITS FALSE NEIGHBOUR: 'it returns false'. Refute it at one input. -/
def fnExactCountRowWrong : ChangeSpec := { name := "fnExactCountRow", fn := fun _ => fun
  | [d1, d2] => { results := [.lit (.bool false)], args := [d1, d2] }
  | _ => none }
def FnExactCountRowWrongFalsely : Prop := fnExactCountRowRow.holds Try.pinned (OpenSpec.ofChange fnExactCountRowWrong)

/-- 'laws.FnExactUnionAll': WHATEVER THE INPUT: true; the input reads as it did. -/
def fnExactUnionAllSpec : ChangeSpec := { name := "fnExactUnionAll", fn := fun _ => fun
  | [d1, d2] => { results := [.lit (.bool true)], args := [d1, d2] }
  | _ => none }
def fnExactUnionAllRow : OpenClaim := { program := "ytimmglcjjbmpdaa", sum := "c92798595b1256d55a7ecbf2e51bbe3ffd4dea747d04560080b577fb67cb6f8f", func := "loop.example/queryoptimizer/laws.FnExactUnionAll", spec := "fnExactUnionAll", unfollowed := true, recurses := true, apart := false }
def FnExactUnionAllSaid : Prop := fnExactUnionAllRow.holds Try.pinned (OpenSpec.ofChange fnExactUnionAllSpec)

/-- ITS FALSE NEIGHBOUR: 'it returns false'. Refute it at one input. -/
def fnExactUnionAllWrong : ChangeSpec := { name := "fnExactUnionAll", fn := fun _ => fun
  | [d1, d2] => { results := [.lit (.bool false)], args := [d1, d2] }
  | _ => none }
def FnExactUnionAllWrongFalsely : Prop := fnExactUnionAllRow.holds Try.pinned (OpenSpec.ofChange fnExactUnionAllWrong)

/-- 'laws.FnExactDistinctRows': WHATEVER THE INPUT: true; the input reads as it did. -/
def fnExactDistinctRowsSpec : ChangeSpec := { name := "fnExactDistinctRows", fn := fun _ => fun
  | [d] => { results := [.lit (.bool true)], args := [d] }
  | _ => none }
def fnExactDistinctRowsRow : OpenClaim := { program := "ytimmglcjjbmpdaa", sum := "c92798595b1256d55a7ecbf2e51bbe3ffd4dea747d04560080b577fb67cb6f8f", func := "loop.example/queryoptimizer/laws.FnExactDistinctRows", spec := "fnExactDistinctRows", unfollowed := true, recurses := true, apart := false }
def FnExactDistinctRowsSaid : Prop := fnExactDistinctRowsRow.holds Try.pinned (OpenSpec.ofChange fnExactDistinctRowsSpec)

/-- ITS FALSE NEIGHBOUR: 'it returns false'. Refute it at one input. -/
def fnExactDistinctRowsWrong : ChangeSpec := { name := "fnExactDistinctRows", fn := fun _ => fun
  | [d] => { results := [.lit (.bool false)], args := [d] }
  | _ => none }
def FnExactDistinctRowsWrongFalsely : Prop := fnExactDistinctRowsRow.holds Try.pinned (OpenSpec.ofChange fnExactDistinctRowsWrong)

/- THE SECOND FORM. 'bulk': how many values and letters a reading holds, each counted each time it is reached (what is shared counts as often as it is met; a slice's spare places count too). A statement '..UptoSaid' is the law's where the arguments, and the package variables that the reading takes, are together of bulk at most 1048576: NARROWER than '..Said'. Prove '..Said' where nothing that the law and all that it calls make is longer than what came in: it says more and counts as full. Else prove '..UptoSaid'. A law counts once. -/
mutual
def uptoBulk {H : Type} : DataW H → Nat
  | .lit (.string bytes) => bytes.length + 1
  | .lit _ => 1
  | .nil => 1
  | .ptr d => uptoBulk d + 1
  | .slice elems spare => uptoBulkAll elems + uptoBulkAll spare + 1
  | .agg parts => uptoBulkAll parts + 1
  | .iface _ d => uptoBulk d + 1
  | .map entries => uptoBulkEntries entries + 1
  | .held _ => 1
def uptoBulkAll {H : Type} : List (DataW H) → Nat
  | [] => 0
  | d :: r => uptoBulk d + uptoBulkAll r
def uptoBulkEntries {H : Type} : List (Lit × DataW H) → Nat
  | [] => 0
  | x :: r => uptoBulkEntry x + uptoBulkEntries r
def uptoBulkEntry {H : Type} : Lit × DataW H → Nat
  | (.string bytes, d) => bytes.length + uptoBulk d + 1
  | (_, d) => uptoBulk d + 1
 end
def uptoSmall : (H : Type) → List (DataW H) → Bool := fun _ ds => decide (uptoBulkAll ds ≤ 1048576)
def OpenSpec.upto (s : _root_.Go.ChangeSpec) : _root_.Go.OpenSpec := { _root_.Go.OpenSpec.ofChange s with cond := some uptoSmall }

/-- 'laws.FnValueOrder', WHERE WHAT IT READS IS OF BULK AT MOST 1048576: true; the input reads as it did. -/
def fnValueOrderUptoRow : OpenClaim := { program := "ytimmglcjjbmpdaa", sum := "c92798595b1256d55a7ecbf2e51bbe3ffd4dea747d04560080b577fb67cb6f8f", func := "loop.example/queryoptimizer/laws.FnValueOrder", spec := "fnValueOrder", apart := false, narrowed := true }
def FnValueOrderUptoSaid : Prop := fnValueOrderUptoRow.holds Try.pinned (OpenSpec.upto fnValueOrderSpec)

/-- 'laws.FnRowOrder', WHERE WHAT IT READS IS OF BULK AT MOST 1048576: true; the input reads as it did. -/
def fnRowOrderUptoRow : OpenClaim := { program := "ytimmglcjjbmpdaa", sum := "c92798595b1256d55a7ecbf2e51bbe3ffd4dea747d04560080b577fb67cb6f8f", func := "loop.example/queryoptimizer/laws.FnRowOrder", spec := "fnRowOrder", apart := false, narrowed := true }
def FnRowOrderUptoSaid : Prop := fnRowOrderUptoRow.holds Try.pinned (OpenSpec.upto fnRowOrderSpec)

/-- 'laws.FnTableOf', WHERE WHAT IT READS IS OF BULK AT MOST 1048576: true; the input reads as it did. -/
def fnTableOfUptoRow : OpenClaim := { program := "ytimmglcjjbmpdaa", sum := "c92798595b1256d55a7ecbf2e51bbe3ffd4dea747d04560080b577fb67cb6f8f", func := "loop.example/queryoptimizer/laws.FnTableOf", spec := "fnTableOf", unfollowed := true, recurses := true, apart := false, narrowed := true }
def FnTableOfUptoSaid : Prop := fnTableOfUptoRow.holds Try.pinned (OpenSpec.upto fnTableOfSpec)

/-- 'laws.FnCountRow', WHERE WHAT IT READS IS OF BULK AT MOST 1048576: true; the input reads as it did. -/
def fnCountRowUptoRow : OpenClaim := { program := "ytimmglcjjbmpdaa", sum := "c92798595b1256d55a7ecbf2e51bbe3ffd4dea747d04560080b577fb67cb6f8f", func := "loop.example/queryoptimizer/laws.FnCountRow", spec := "fnCountRow", unfollowed := true, recurses := true, apart := false, narrowed := true }
def FnCountRowUptoSaid : Prop := fnCountRowUptoRow.holds Try.pinned (OpenSpec.upto fnCountRowSpec)

/-- 'laws.FnUnionAll', WHERE WHAT IT READS IS OF BULK AT MOST 1048576: true; the input reads as it did. -/
def fnUnionAllUptoRow : OpenClaim := { program := "ytimmglcjjbmpdaa", sum := "c92798595b1256d55a7ecbf2e51bbe3ffd4dea747d04560080b577fb67cb6f8f", func := "loop.example/queryoptimizer/laws.FnUnionAll", spec := "fnUnionAll", unfollowed := true, recurses := true, apart := false, narrowed := true }
def FnUnionAllUptoSaid : Prop := fnUnionAllUptoRow.holds Try.pinned (OpenSpec.upto fnUnionAllSpec)

/-- 'laws.FnDistinctRows', WHERE WHAT IT READS IS OF BULK AT MOST 1048576: true; the input reads as it did. -/
def fnDistinctRowsUptoRow : OpenClaim := { program := "ytimmglcjjbmpdaa", sum := "c92798595b1256d55a7ecbf2e51bbe3ffd4dea747d04560080b577fb67cb6f8f", func := "loop.example/queryoptimizer/laws.FnDistinctRows", spec := "fnDistinctRows", unfollowed := true, recurses := true, apart := false, narrowed := true }
def FnDistinctRowsUptoSaid : Prop := fnDistinctRowsUptoRow.holds Try.pinned (OpenSpec.upto fnDistinctRowsSpec)

/-- 'laws.FnExactValidValue', WHERE WHAT IT READS IS OF BULK AT MOST 1048576: true; the input reads as it did. -/
def fnExactValidValueUptoRow : OpenClaim := { program := "ytimmglcjjbmpdaa", sum := "c92798595b1256d55a7ecbf2e51bbe3ffd4dea747d04560080b577fb67cb6f8f", func := "loop.example/queryoptimizer/laws.FnExactValidValue", spec := "fnExactValidValue", apart := false, narrowed := true }
def FnExactValidValueUptoSaid : Prop := fnExactValidValueUptoRow.holds Try.pinned (OpenSpec.upto fnExactValidValueSpec)

/-- 'laws.FnExactCompareValues', WHERE WHAT IT READS IS OF BULK AT MOST 1048576: true; the input reads as it did. -/
def fnExactCompareValuesUptoRow : OpenClaim := { program := "ytimmglcjjbmpdaa", sum := "c92798595b1256d55a7ecbf2e51bbe3ffd4dea747d04560080b577fb67cb6f8f", func := "loop.example/queryoptimizer/laws.FnExactCompareValues", spec := "fnExactCompareValues", apart := false, narrowed := true }
def FnExactCompareValuesUptoSaid : Prop := fnExactCompareValuesUptoRow.holds Try.pinned (OpenSpec.upto fnExactCompareValuesSpec)

/-- 'laws.FnExactCompareRows', WHERE WHAT IT READS IS OF BULK AT MOST 1048576: true; the input reads as it did. -/
def fnExactCompareRowsUptoRow : OpenClaim := { program := "ytimmglcjjbmpdaa", sum := "c92798595b1256d55a7ecbf2e51bbe3ffd4dea747d04560080b577fb67cb6f8f", func := "loop.example/queryoptimizer/laws.FnExactCompareRows", spec := "fnExactCompareRows", apart := false, narrowed := true }
def FnExactCompareRowsUptoSaid : Prop := fnExactCompareRowsUptoRow.holds Try.pinned (OpenSpec.upto fnExactCompareRowsSpec)

/-- 'laws.FnExactValidTable', WHERE WHAT IT READS IS OF BULK AT MOST 1048576: true; the input reads as it did. -/
def fnExactValidTableUptoRow : OpenClaim := { program := "ytimmglcjjbmpdaa", sum := "c92798595b1256d55a7ecbf2e51bbe3ffd4dea747d04560080b577fb67cb6f8f", func := "loop.example/queryoptimizer/laws.FnExactValidTable", spec := "fnExactValidTable", unfollowed := true, recurses := true, apart := false, narrowed := true }
def FnExactValidTableUptoSaid : Prop := fnExactValidTableUptoRow.holds Try.pinned (OpenSpec.upto fnExactValidTableSpec)

/-- 'laws.FnExactTableOf', WHERE WHAT IT READS IS OF BULK AT MOST 1048576: true; the input reads as it did. -/
def fnExactTableOfUptoRow : OpenClaim := { program := "ytimmglcjjbmpdaa", sum := "c92798595b1256d55a7ecbf2e51bbe3ffd4dea747d04560080b577fb67cb6f8f", func := "loop.example/queryoptimizer/laws.FnExactTableOf", spec := "fnExactTableOf", unfollowed := true, recurses := true, apart := false, narrowed := true }
def FnExactTableOfUptoSaid : Prop := fnExactTableOfUptoRow.holds Try.pinned (OpenSpec.upto fnExactTableOfSpec)

/-- 'laws.FnExactCountRow', WHERE WHAT IT READS IS OF BULK AT MOST 1048576: true; the input reads as it did. -/
def fnExactCountRowUptoRow : OpenClaim := { program := "ytimmglcjjbmpdaa", sum := "c92798595b1256d55a7ecbf2e51bbe3ffd4dea747d04560080b577fb67cb6f8f", func := "loop.example/queryoptimizer/laws.FnExactCountRow", spec := "fnExactCountRow", unfollowed := true, recurses := true, apart := false, narrowed := true }
def FnExactCountRowUptoSaid : Prop := fnExactCountRowUptoRow.holds Try.pinned (OpenSpec.upto fnExactCountRowSpec)

/-- 'laws.FnExactUnionAll', WHERE WHAT IT READS IS OF BULK AT MOST 1048576: true; the input reads as it did. -/
def fnExactUnionAllUptoRow : OpenClaim := { program := "ytimmglcjjbmpdaa", sum := "c92798595b1256d55a7ecbf2e51bbe3ffd4dea747d04560080b577fb67cb6f8f", func := "loop.example/queryoptimizer/laws.FnExactUnionAll", spec := "fnExactUnionAll", unfollowed := true, recurses := true, apart := false, narrowed := true }
def FnExactUnionAllUptoSaid : Prop := fnExactUnionAllUptoRow.holds Try.pinned (OpenSpec.upto fnExactUnionAllSpec)

/-- 'laws.FnExactDistinctRows', WHERE WHAT IT READS IS OF BULK AT MOST 1048576: true; the input reads as it did. -/
def fnExactDistinctRowsUptoRow : OpenClaim := { program := "ytimmglcjjbmpdaa", sum := "c92798595b1256d55a7ecbf2e51bbe3ffd4dea747d04560080b577fb67cb6f8f", func := "loop.example/queryoptimizer/laws.FnExactDistinctRows", spec := "fnExactDistinctRows", unfollowed := true, recurses := true, apart := false, narrowed := true }
def FnExactDistinctRowsUptoSaid : Prop := fnExactDistinctRowsUptoRow.holds Try.pinned (OpenSpec.upto fnExactDistinctRowsSpec)

end Rows
end Go.Proofs.Ytimmglcjjbmpdaa

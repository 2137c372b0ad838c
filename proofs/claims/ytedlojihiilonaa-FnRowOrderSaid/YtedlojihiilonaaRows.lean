/-
  No cell of these rows narrows 'for every input' (looked for: loops, veiled, ifaces, maps, wideKeys, modest, calm, conditions, laid).
  DERIVED. THE GIVEN ROWS OF THIS SEAT. 5 by the template 'for every input the law returns true; each argument reads behind the call as it read before'; 0 by the template 'total and deterministic' (their statements: YtedlojihiilonaaTotals.lean).
  GIVEN WITH THE SEED: the statements are not yours to turn. If you find one false, say at which input.
  Laid BY PROGRAM, IN A SANDBOX (cutbox-rows.mjs): the forced cells as the released guide's own fill.sh prints them over the translation d052aec99e840497… (all of the seat's roots in one cut). By AI agents, Wed Nov 11 2026. No macro, syntax, notation, axiom, sorry.
-/
import Derived.Test.YtedlojihiilonaaChecked
import GoSem.Claim
import GoSem.ClaimJoined
import GoSem.ClaimMapViews
import Derived.JoinedTies
import Derived.KernelRfl
namespace Go.Proofs.Ytedlojihiilonaa
/- THE CELL 'sum', in the pinned program and in every row, IS THE sha256 OF THE DUMP (.gsa) THAT YtedlojihiilonaaProg.lean LOADS. Nothing in Lean hashes anything: it is a label: what it is worth is what the hold of that sum in a sandbox is worth. -/
noncomputable def Try.pinned : Pinned := { name := "ytedlojihiilonaa", sum := "d052aec99e8404971aff3926efa0c14b6eb16dc2c83b0166082408808fb19412", checked := Try.checked }
namespace Rows
def none {H : Type} : Left H := { results := [], args := [] }

/-- 'laws.FnRowOrder': WHATEVER THE INPUT: true; the input reads as it did. -/
def fnRowOrderSpec : ChangeSpec := { name := "fnRowOrder", fn := fun _ => fun
  | [d] => { results := [.lit (.bool true)], args := [d] }
  | _ => none }
def fnRowOrderRow : OpenClaim := { program := "ytedlojihiilonaa", sum := "d052aec99e8404971aff3926efa0c14b6eb16dc2c83b0166082408808fb19412", func := "loop.example/queryoptimizer/laws.FnRowOrder", spec := "fnRowOrder", apart := false }
def FnRowOrderSaid : Prop := fnRowOrderRow.holds Try.pinned (OpenSpec.ofChange fnRowOrderSpec)

/-- ITS FALSE NEIGHBOUR: 'it returns false'. Refute it at one input. -/
def fnRowOrderWrong : ChangeSpec := { name := "fnRowOrder", fn := fun _ => fun
  | [d] => { results := [.lit (.bool false)], args := [d] }
  | _ => none }
def FnRowOrderWrongFalsely : Prop := fnRowOrderRow.holds Try.pinned (OpenSpec.ofChange fnRowOrderWrong)

/-- 'laws.FnCountRow': WHATEVER THE INPUT: true; the input reads as it did. -/
def fnCountRowSpec : ChangeSpec := { name := "fnCountRow", fn := fun _ => fun
  | [d] => { results := [.lit (.bool true)], args := [d] }
  | _ => none }
def fnCountRowRow : OpenClaim := { program := "ytedlojihiilonaa", sum := "d052aec99e8404971aff3926efa0c14b6eb16dc2c83b0166082408808fb19412", func := "loop.example/queryoptimizer/laws.FnCountRow", spec := "fnCountRow", unfollowed := true, recurses := true, apart := false }
def FnCountRowSaid : Prop := fnCountRowRow.holds Try.pinned (OpenSpec.ofChange fnCountRowSpec)

/-- ITS FALSE NEIGHBOUR: 'it returns false'. Refute it at one input. -/
def fnCountRowWrong : ChangeSpec := { name := "fnCountRow", fn := fun _ => fun
  | [d] => { results := [.lit (.bool false)], args := [d] }
  | _ => none }
def FnCountRowWrongFalsely : Prop := fnCountRowRow.holds Try.pinned (OpenSpec.ofChange fnCountRowWrong)

/-- 'laws.FnExactCompareRows': WHATEVER THE INPUT: true; the input reads as it did. -/
def fnExactCompareRowsSpec : ChangeSpec := { name := "fnExactCompareRows", fn := fun _ => fun
  | [d1, d2] => { results := [.lit (.bool true)], args := [d1, d2] }
  | _ => none }
def fnExactCompareRowsRow : OpenClaim := { program := "ytedlojihiilonaa", sum := "d052aec99e8404971aff3926efa0c14b6eb16dc2c83b0166082408808fb19412", func := "loop.example/queryoptimizer/laws.FnExactCompareRows", spec := "fnExactCompareRows", apart := false }
def FnExactCompareRowsSaid : Prop := fnExactCompareRowsRow.holds Try.pinned (OpenSpec.ofChange fnExactCompareRowsSpec)

/-- ITS FALSE NEIGHBOUR: 'it returns false'. Refute it at one input. -/
def fnExactCompareRowsWrong : ChangeSpec := { name := "fnExactCompareRows", fn := fun _ => fun
  | [d1, d2] => { results := [.lit (.bool false)], args := [d1, d2] }
  | _ => none }
def FnExactCompareRowsWrongFalsely : Prop := fnExactCompareRowsRow.holds Try.pinned (OpenSpec.ofChange fnExactCompareRowsWrong)

/-- 'laws.FnExactValidTable': WHATEVER THE INPUT: true; the input reads as it did. -/
def fnExactValidTableSpec : ChangeSpec := { name := "fnExactValidTable", fn := fun _ => fun
  | [d] => { results := [.lit (.bool true)], args := [d] }
  | _ => none }
def fnExactValidTableRow : OpenClaim := { program := "ytedlojihiilonaa", sum := "d052aec99e8404971aff3926efa0c14b6eb16dc2c83b0166082408808fb19412", func := "loop.example/queryoptimizer/laws.FnExactValidTable", spec := "fnExactValidTable", unfollowed := true, recurses := true, apart := false }
def FnExactValidTableSaid : Prop := fnExactValidTableRow.holds Try.pinned (OpenSpec.ofChange fnExactValidTableSpec)

/-- ITS FALSE NEIGHBOUR: 'it returns false'. Refute it at one input. -/
def fnExactValidTableWrong : ChangeSpec := { name := "fnExactValidTable", fn := fun _ => fun
  | [d] => { results := [.lit (.bool false)], args := [d] }
  | _ => none }
def FnExactValidTableWrongFalsely : Prop := fnExactValidTableRow.holds Try.pinned (OpenSpec.ofChange fnExactValidTableWrong)

/-- 'laws.FnExactCountRow': WHATEVER THE INPUT: true; the input reads as it did. -/
def fnExactCountRowSpec : ChangeSpec := { name := "fnExactCountRow", fn := fun _ => fun
  | [d1, d2] => { results := [.lit (.bool true)], args := [d1, d2] }
  | _ => none }
def fnExactCountRowRow : OpenClaim := { program := "ytedlojihiilonaa", sum := "d052aec99e8404971aff3926efa0c14b6eb16dc2c83b0166082408808fb19412", func := "loop.example/queryoptimizer/laws.FnExactCountRow", spec := "fnExactCountRow", unfollowed := true, recurses := true, apart := false }
def FnExactCountRowSaid : Prop := fnExactCountRowRow.holds Try.pinned (OpenSpec.ofChange fnExactCountRowSpec)

/-- ITS FALSE NEIGHBOUR: 'it returns false'. Refute it at one input. -/
def fnExactCountRowWrong : ChangeSpec := { name := "fnExactCountRow", fn := fun _ => fun
  | [d1, d2] => { results := [.lit (.bool false)], args := [d1, d2] }
  | _ => none }
def FnExactCountRowWrongFalsely : Prop := fnExactCountRowRow.holds Try.pinned (OpenSpec.ofChange fnExactCountRowWrong)

/- THE SECOND FORM. 'bulk': how many values and letters a reading holds, each counted each time it is reached (what is shared counts as often as it is met; a slice's spare places count too). A statement '..UptoSaid' is the law's where the arguments, and the package variables that the reading takes, are together of bulk at most 1048576: NARROWER than '..Said'. Prove '..Said' where nothing that the law and all that it calls make is longer than what came in: it says more and counts as full. Else prove '..UptoSaid'. A law counts once. -/
mutual
def uptoBulk {H : Type} : DataW H → Nat
  | .lit (.string bytes) => bytes.length + 1
  | .lit _ => 1
  | .nil => 1
  | .ptr d => uptoBulk d + 1
  | .slice elems spare => uptoBulkAll elems + uptoBulkAll spare + 1
  | .agg parts => uptoBulkAll parts + 1
  | .iface _ d => uptoBulk d + 1
  | .map entries => uptoBulkEntries entries + 1
  | .held _ => 1
def uptoBulkAll {H : Type} : List (DataW H) → Nat
  | [] => 0
  | d :: r => uptoBulk d + uptoBulkAll r
def uptoBulkEntries {H : Type} : List (Lit × DataW H) → Nat
  | [] => 0
  | x :: r => uptoBulkEntry x + uptoBulkEntries r
def uptoBulkEntry {H : Type} : Lit × DataW H → Nat
  | (.string bytes, d) => bytes.length + uptoBulk d + 1
  | (_, d) => uptoBulk d + 1
 end
def uptoSmall : (H : Type) → List (DataW H) → Bool := fun _ ds => decide (uptoBulkAll ds ≤ 1048576)
def OpenSpec.upto (s : _root_.Go.ChangeSpec) : _root_.Go.OpenSpec := { _root_.Go.OpenSpec.ofChange s with cond := some uptoSmall }

/-- 'laws.FnRowOrder', WHERE WHAT IT READS IS OF BULK AT MOST 1048576: true; the input reads as it did. -/
def fnRowOrderUptoRow : OpenClaim := { program := "ytedlojihiilonaa", sum := "d052aec99e8404971aff3926efa0c14b6eb16dc2c83b0166082408808fb19412", func := "loop.example/queryoptimizer/laws.FnRowOrder", spec := "fnRowOrder", apart := false, narrowed := true }
def FnRowOrderUptoSaid : Prop := fnRowOrderUptoRow.holds Try.pinned (OpenSpec.upto fnRowOrderSpec)

/-- 'laws.FnCountRow', WHERE WHAT IT READS IS OF BULK AT MOST 1048576: true; the input reads as it did. -/
def fnCountRowUptoRow : OpenClaim := { program := "ytedlojihiilonaa", sum := "d052aec99e8404971aff3926efa0c14b6eb16dc2c83b0166082408808fb19412", func := "loop.example/queryoptimizer/laws.FnCountRow", spec := "fnCountRow", unfollowed := true, recurses := true, apart := false, narrowed := true }
def FnCountRowUptoSaid : Prop := fnCountRowUptoRow.holds Try.pinned (OpenSpec.upto fnCountRowSpec)

/-- 'laws.FnExactCompareRows', WHERE WHAT IT READS IS OF BULK AT MOST 1048576: true; the input reads as it did. -/
def fnExactCompareRowsUptoRow : OpenClaim := { program := "ytedlojihiilonaa", sum := "d052aec99e8404971aff3926efa0c14b6eb16dc2c83b0166082408808fb19412", func := "loop.example/queryoptimizer/laws.FnExactCompareRows", spec := "fnExactCompareRows", apart := false, narrowed := true }
def FnExactCompareRowsUptoSaid : Prop := fnExactCompareRowsUptoRow.holds Try.pinned (OpenSpec.upto fnExactCompareRowsSpec)

/-- 'laws.FnExactValidTable', WHERE WHAT IT READS IS OF BULK AT MOST 1048576: true; the input reads as it did. -/
def fnExactValidTableUptoRow : OpenClaim := { program := "ytedlojihiilonaa", sum := "d052aec99e8404971aff3926efa0c14b6eb16dc2c83b0166082408808fb19412", func := "loop.example/queryoptimizer/laws.FnExactValidTable", spec := "fnExactValidTable", unfollowed := true, recurses := true, apart := false, narrowed := true }
def FnExactValidTableUptoSaid : Prop := fnExactValidTableUptoRow.holds Try.pinned (OpenSpec.upto fnExactValidTableSpec)

/-- 'laws.FnExactCountRow', WHERE WHAT IT READS IS OF BULK AT MOST 1048576: true; the input reads as it did. -/
def fnExactCountRowUptoRow : OpenClaim := { program := "ytedlojihiilonaa", sum := "d052aec99e8404971aff3926efa0c14b6eb16dc2c83b0166082408808fb19412", func := "loop.example/queryoptimizer/laws.FnExactCountRow", spec := "fnExactCountRow", unfollowed := true, recurses := true, apart := false, narrowed := true }
def FnExactCountRowUptoSaid : Prop := fnExactCountRowUptoRow.holds Try.pinned (OpenSpec.upto fnExactCountRowSpec)

end Rows
end Go.Proofs.Ytedlojihiilonaa

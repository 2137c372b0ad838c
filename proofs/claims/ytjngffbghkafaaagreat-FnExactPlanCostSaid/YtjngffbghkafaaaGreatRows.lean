/-
  NARROWER THAN 'FOR EVERY INPUT', by the rows' own cells (each row's printed sentence says how): FnExactPlanCost: loops.
  DERIVED. THE GIVEN ROWS OF THIS SEAT. 6 by the template 'for every input the law returns true; each argument reads behind the call as it read before'; 0 by the template 'total and deterministic' (their statements: YtjngffbghkafaaaGreatTotals.lean).
  GIVEN WITH THE SEED: the statements are not yours to turn. If you find one false, say at which input.
  Laid BY PROGRAM, IN A SANDBOX (cutbox-rows.mjs): the forced cells as the released guide's own fill.sh prints them over the translation e78d93d5417d4ccf… (all of the seat's roots in one cut). By AI agents, Wed Nov 11 2026. No macro, syntax, notation, axiom, sorry.
-/
import Derived.Test.YtjngffbghkafaaaGreatChecked
import GoSem.Claim
import GoSem.ClaimJoined
import GoSem.ClaimMapViews
import Derived.JoinedTies
import Derived.KernelRfl
namespace Go.Proofs.YtjngffbghkafaaaGreat
/- THE CELL 'sum', in the pinned program and in every row, IS THE sha256 OF THE DUMP (.gsa) THAT YtjngffbghkafaaaGreatProg.lean LOADS. Nothing in Lean hashes anything: it is a label: what it is worth is what the hold of that sum in a sandbox is worth. -/
noncomputable def Tryz.pinned : Pinned := { name := "ytjngffbghkafaaagreat", sum := "e78d93d5417d4ccfc371498970556df9cf1c57f080b9c89142708b7cc6bd7c5b", checked := Tryz.checked }
namespace Rows
def none {H : Type} : Left H := { results := [], args := [] }

/-- 'laws.FnExactPlanCost': WHATEVER THE INPUT: true; the input reads as it did. -/
def fnExactPlanCostSpec : ChangeSpec := { name := "fnExactPlanCost", fn := fun _ => fun
  | [d1, d2] => { results := [.lit (.bool true)], args := [d1, d2] }
  | _ => none }
def fnExactPlanCostRow : OpenClaim := { program := "ytjngffbghkafaaagreat", sum := "e78d93d5417d4ccfc371498970556df9cf1c57f080b9c89142708b7cc6bd7c5b", func := "loop.example/queryoptimizer/laws.FnExactPlanCost", spec := "fnExactPlanCost", unfollowed := true, recurses := true, loops := true, apart := false }
def FnExactPlanCostSaid : Prop := fnExactPlanCostRow.holds Tryz.pinned (OpenSpec.ofChange fnExactPlanCostSpec)

/-- ITS FALSE NEIGHBOUR: 'it returns false'. Refute it at one input. -/
def fnExactPlanCostWrong : ChangeSpec := { name := "fnExactPlanCost", fn := fun _ => fun
  | [d1, d2] => { results := [.lit (.bool false)], args := [d1, d2] }
  | _ => none }
def FnExactPlanCostWrongFalsely : Prop := fnExactPlanCostRow.holds Tryz.pinned (OpenSpec.ofChange fnExactPlanCostWrong)

/-- 'laws.FnTablesOf': WHATEVER THE INPUT: true; the input reads as it did. -/
def fnTablesOfSpec : ChangeSpec := { name := "fnTablesOf", fn := fun _ => fun
  | [d] => { results := [.lit (.bool true)], args := [d] }
  | _ => none }
def fnTablesOfRow : OpenClaim := { program := "ytjngffbghkafaaagreat", sum := "e78d93d5417d4ccfc371498970556df9cf1c57f080b9c89142708b7cc6bd7c5b", func := "loop.example/queryoptimizer/laws.FnTablesOf", spec := "fnTablesOf", unfollowed := true, recurses := true, apart := false }
def FnTablesOfSaid : Prop := fnTablesOfRow.holds Tryz.pinned (OpenSpec.ofChange fnTablesOfSpec)

/-- ITS FALSE NEIGHBOUR: 'it returns false'. Refute it at one input. -/
def fnTablesOfWrong : ChangeSpec := { name := "fnTablesOf", fn := fun _ => fun
  | [d] => { results := [.lit (.bool false)], args := [d] }
  | _ => none }
def FnTablesOfWrongFalsely : Prop := fnTablesOfRow.holds Tryz.pinned (OpenSpec.ofChange fnTablesOfWrong)

/-- 'laws.FnNullableColumns': WHATEVER THE INPUT: true; the input reads as it did. -/
def fnNullableColumnsSpec : ChangeSpec := { name := "fnNullableColumns", fn := fun _ => fun
  | [d] => { results := [.lit (.bool true)], args := [d] }
  | _ => none }
def fnNullableColumnsRow : OpenClaim := { program := "ytjngffbghkafaaagreat", sum := "e78d93d5417d4ccfc371498970556df9cf1c57f080b9c89142708b7cc6bd7c5b", func := "loop.example/queryoptimizer/laws.FnNullableColumns", spec := "fnNullableColumns", unfollowed := true, recurses := true, apart := false }
def FnNullableColumnsSaid : Prop := fnNullableColumnsRow.holds Tryz.pinned (OpenSpec.ofChange fnNullableColumnsSpec)

/-- ITS FALSE NEIGHBOUR: 'it returns false'. Refute it at one input. -/
def fnNullableColumnsWrong : ChangeSpec := { name := "fnNullableColumns", fn := fun _ => fun
  | [d] => { results := [.lit (.bool false)], args := [d] }
  | _ => none }
def FnNullableColumnsWrongFalsely : Prop := fnNullableColumnsRow.holds Tryz.pinned (OpenSpec.ofChange fnNullableColumnsWrong)

/-- 'laws.FnRowBound': WHATEVER THE INPUT: true; the input reads as it did. -/
def fnRowBoundSpec : ChangeSpec := { name := "fnRowBound", fn := fun _ => fun
  | [d] => { results := [.lit (.bool true)], args := [d] }
  | _ => none }
def fnRowBoundRow : OpenClaim := { program := "ytjngffbghkafaaagreat", sum := "e78d93d5417d4ccfc371498970556df9cf1c57f080b9c89142708b7cc6bd7c5b", func := "loop.example/queryoptimizer/laws.FnRowBound", spec := "fnRowBound", unfollowed := true, recurses := true, apart := false }
def FnRowBoundSaid : Prop := fnRowBoundRow.holds Tryz.pinned (OpenSpec.ofChange fnRowBoundSpec)

/-- ITS FALSE NEIGHBOUR: 'it returns false'. Refute it at one input. -/
def fnRowBoundWrong : ChangeSpec := { name := "fnRowBound", fn := fun _ => fun
  | [d] => { results := [.lit (.bool false)], args := [d] }
  | _ => none }
def FnRowBoundWrongFalsely : Prop := fnRowBoundRow.holds Tryz.pinned (OpenSpec.ofChange fnRowBoundWrong)

/-- 'laws.FnIsDuplicateFree': WHATEVER THE INPUT: true; the input reads as it did. -/
def fnIsDuplicateFreeSpec : ChangeSpec := { name := "fnIsDuplicateFree", fn := fun _ => fun
  | [d] => { results := [.lit (.bool true)], args := [d] }
  | _ => none }
def fnIsDuplicateFreeRow : OpenClaim := { program := "ytjngffbghkafaaagreat", sum := "e78d93d5417d4ccfc371498970556df9cf1c57f080b9c89142708b7cc6bd7c5b", func := "loop.example/queryoptimizer/laws.FnIsDuplicateFree", spec := "fnIsDuplicateFree", unfollowed := true, recurses := true, apart := false }
def FnIsDuplicateFreeSaid : Prop := fnIsDuplicateFreeRow.holds Tryz.pinned (OpenSpec.ofChange fnIsDuplicateFreeSpec)

/-- ITS FALSE NEIGHBOUR: 'it returns false'. Refute it at one input. -/
def fnIsDuplicateFreeWrong : ChangeSpec := { name := "fnIsDuplicateFree", fn := fun _ => fun
  | [d] => { results := [.lit (.bool false)], args := [d] }
  | _ => none }
def FnIsDuplicateFreeWrongFalsely : Prop := fnIsDuplicateFreeRow.holds Tryz.pinned (OpenSpec.ofChange fnIsDuplicateFreeWrong)

/-- 'laws.FnPlanCost': WHATEVER THE INPUT: true; the input reads as it did. -/
def fnPlanCostSpec : ChangeSpec := { name := "fnPlanCost", fn := fun _ => fun
  | [d] => { results := [.lit (.bool true)], args := [d] }
  | _ => none }
def fnPlanCostRow : OpenClaim := { program := "ytjngffbghkafaaagreat", sum := "e78d93d5417d4ccfc371498970556df9cf1c57f080b9c89142708b7cc6bd7c5b", func := "loop.example/queryoptimizer/laws.FnPlanCost", spec := "fnPlanCost", unfollowed := true, recurses := true, apart := false }
def FnPlanCostSaid : Prop := fnPlanCostRow.holds Tryz.pinned (OpenSpec.ofChange fnPlanCostSpec)

/-- ITS FALSE NEIGHBOUR: 'it returns false'. Refute it at one input. -/
def fnPlanCostWrong : ChangeSpec := { name := "fnPlanCost", fn := fun _ => fun
  | [d] => { results := [.lit (.bool false)], args := [d] }
  | _ => none }
def FnPlanCostWrongFalsely : Prop := fnPlanCostRow.holds Tryz.pinned (OpenSpec.ofChange fnPlanCostWrong)

/- THE SECOND FORM. 'bulk': how many values and letters a reading holds, each counted each time it is reached (what is shared counts as often as it is met; a slice's spare places count too). A statement '..UptoSaid' is the law's where the arguments, and the package variables that the reading takes, are together of bulk at most 1048576: NARROWER than '..Said'. Prove '..Said' where nothing that the law and all that it calls make is longer than what came in: it says more and counts as full. Else prove '..UptoSaid'. A law counts once. -/
mutual
def uptoBulk {H : Type} : DataW H → Nat
  | .lit (.string bytes) => bytes.length + 1
  | .lit _ => 1
  | .nil => 1
  | .ptr d => uptoBulk d + 1
  | .slice elems spare => uptoBulkAll elems + uptoBulkAll spare + 1
  | .agg parts => uptoBulkAll parts + 1
  | .iface _ d => uptoBulk d + 1
  | .map entries => uptoBulkEntries entries + 1
  | .held _ => 1
def uptoBulkAll {H : Type} : List (DataW H) → Nat
  | [] => 0
  | d :: r => uptoBulk d + uptoBulkAll r
def uptoBulkEntries {H : Type} : List (Lit × DataW H) → Nat
  | [] => 0
  | x :: r => uptoBulkEntry x + uptoBulkEntries r
def uptoBulkEntry {H : Type} : Lit × DataW H → Nat
  | (.string bytes, d) => bytes.length + uptoBulk d + 1
  | (_, d) => uptoBulk d + 1
 end
def uptoSmall : (H : Type) → List (DataW H) → Bool := fun _ ds => decide (uptoBulkAll ds ≤ 1048576)
def OpenSpec.upto (s : _root_.Go.ChangeSpec) : _root_.Go.OpenSpec := { _root_.Go.OpenSpec.ofChange s with cond := some uptoSmall }

/-- 'laws.FnExactPlanCost', WHERE WHAT IT READS IS OF BULK AT MOST 1048576: true; the input reads as it did. -/
def fnExactPlanCostUptoRow : OpenClaim := { program := "ytjngffbghkafaaagreat", sum := "e78d93d5417d4ccfc371498970556df9cf1c57f080b9c89142708b7cc6bd7c5b", func := "loop.example/queryoptimizer/laws.FnExactPlanCost", spec := "fnExactPlanCost", unfollowed := true, recurses := true, loops := true, apart := false, narrowed := true }
def FnExactPlanCostUptoSaid : Prop := fnExactPlanCostUptoRow.holds Tryz.pinned (OpenSpec.upto fnExactPlanCostSpec)

/-- 'laws.FnTablesOf', WHERE WHAT IT READS IS OF BULK AT MOST 1048576: true; the input reads as it did. -/
def fnTablesOfUptoRow : OpenClaim := { program := "ytjngffbghkafaaagreat", sum := "e78d93d5417d4ccfc371498970556df9cf1c57f080b9c89142708b7cc6bd7c5b", func := "loop.example/queryoptimizer/laws.FnTablesOf", spec := "fnTablesOf", unfollowed := true, recurses := true, apart := false, narrowed := true }
def FnTablesOfUptoSaid : Prop := fnTablesOfUptoRow.holds Tryz.pinned (OpenSpec.upto fnTablesOfSpec)

/-- 'laws.FnNullableColumns', WHERE WHAT IT READS IS OF BULK AT MOST 1048576: true; the input reads as it did. -/
def fnNullableColumnsUptoRow : OpenClaim := { program := "ytjngffbghkafaaagreat", sum := "e78d93d5417d4ccfc371498970556df9cf1c57f080b9c89142708b7cc6bd7c5b", func := "loop.example/queryoptimizer/laws.FnNullableColumns", spec := "fnNullableColumns", unfollowed := true, recurses := true, apart := false, narrowed := true }
def FnNullableColumnsUptoSaid : Prop := fnNullableColumnsUptoRow.holds Tryz.pinned (OpenSpec.upto fnNullableColumnsSpec)

/-- 'laws.FnRowBound', WHERE WHAT IT READS IS OF BULK AT MOST 1048576: true; the input reads as it did. -/
def fnRowBoundUptoRow : OpenClaim := { program := "ytjngffbghkafaaagreat", sum := "e78d93d5417d4ccfc371498970556df9cf1c57f080b9c89142708b7cc6bd7c5b", func := "loop.example/queryoptimizer/laws.FnRowBound", spec := "fnRowBound", unfollowed := true, recurses := true, apart := false, narrowed := true }
def FnRowBoundUptoSaid : Prop := fnRowBoundUptoRow.holds Tryz.pinned (OpenSpec.upto fnRowBoundSpec)

/-- 'laws.FnIsDuplicateFree', WHERE WHAT IT READS IS OF BULK AT MOST 1048576: true; the input reads as it did. -/
def fnIsDuplicateFreeUptoRow : OpenClaim := { program := "ytjngffbghkafaaagreat", sum := "e78d93d5417d4ccfc371498970556df9cf1c57f080b9c89142708b7cc6bd7c5b", func := "loop.example/queryoptimizer/laws.FnIsDuplicateFree", spec := "fnIsDuplicateFree", unfollowed := true, recurses := true, apart := false, narrowed := true }
def FnIsDuplicateFreeUptoSaid : Prop := fnIsDuplicateFreeUptoRow.holds Tryz.pinned (OpenSpec.upto fnIsDuplicateFreeSpec)

/-- 'laws.FnPlanCost', WHERE WHAT IT READS IS OF BULK AT MOST 1048576: true; the input reads as it did. -/
def fnPlanCostUptoRow : OpenClaim := { program := "ytjngffbghkafaaagreat", sum := "e78d93d5417d4ccfc371498970556df9cf1c57f080b9c89142708b7cc6bd7c5b", func := "loop.example/queryoptimizer/laws.FnPlanCost", spec := "fnPlanCost", unfollowed := true, recurses := true, apart := false, narrowed := true }
def FnPlanCostUptoSaid : Prop := fnPlanCostUptoRow.holds Tryz.pinned (OpenSpec.upto fnPlanCostSpec)

end Rows
end Go.Proofs.YtjngffbghkafaaaGreat

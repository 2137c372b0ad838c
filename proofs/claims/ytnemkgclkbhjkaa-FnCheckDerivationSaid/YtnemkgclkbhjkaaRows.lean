/-
  No cell of these rows narrows 'for every input' (looked for: loops, veiled, ifaces, maps, wideKeys, modest, calm, conditions, laid).
  DERIVED. THE GIVEN ROWS OF THIS SEAT. 12 by the template 'for every input the law returns true; each argument reads behind the call as it read before'; 0 by the template 'total and deterministic' (their statements: YtnemkgclkbhjkaaTotals.lean).
  GIVEN WITH THE SEED: the statements are not yours to turn. If you find one false, say at which input.
  Laid BY PROGRAM, IN A SANDBOX (cutbox-rows.mjs): the forced cells as the released guide's own fill.sh prints them over the translation c8aefe729e3f04cc… (all of the seat's roots in one cut). By AI agents, Wed Nov 11 2026. No macro, syntax, notation, axiom, sorry.
-/
import Derived.Test.YtnemkgclkbhjkaaChecked
import GoSem.Claim
import GoSem.ClaimJoined
import GoSem.ClaimMapViews
import Derived.JoinedTies
import Derived.KernelRfl
namespace Go.Proofs.Ytnemkgclkbhjkaa
/- THE CELL 'sum', in the pinned program and in every row, IS THE sha256 OF THE DUMP (.gsa) THAT YtnemkgclkbhjkaaProg.lean LOADS. Nothing in Lean hashes anything: it is a label: what it is worth is what the hold of that sum in a sandbox is worth. -/
noncomputable def Try.pinned : Pinned := { name := "ytnemkgclkbhjkaa", sum := "c8aefe729e3f04cc8b73557b6dfbc379fcff8906ff7b94542cebb955af9538e4", checked := Try.checked }
namespace Rows
def none {H : Type} : Left H := { results := [], args := [] }

/-- 'laws.FnClosureOf': WHATEVER THE INPUT: true; the input reads as it did. -/
def fnClosureOfSpec : ChangeSpec := { name := "fnClosureOf", fn := fun _ => fun
  | [d1, d2] => { results := [.lit (.bool true)], args := [d1, d2] }
  | _ => none }
def fnClosureOfRow : OpenClaim := { program := "ytnemkgclkbhjkaa", sum := "c8aefe729e3f04cc8b73557b6dfbc379fcff8906ff7b94542cebb955af9538e4", func := "loop.example/queryoptimizer/laws.FnClosureOf", spec := "fnClosureOf", apart := false }
def FnClosureOfSaid : Prop := fnClosureOfRow.holds Try.pinned (OpenSpec.ofChange fnClosureOfSpec)

/-- ITS FALSE NEIGHBOUR: 'it returns false'. Refute it at one input. -/
def fnClosureOfWrong : ChangeSpec := { name := "fnClosureOf", fn := fun _ => fun
  | [d1, d2] => { results := [.lit (.bool false)], args := [d1, d2] }
  | _ => none }
def FnClosureOfWrongFalsely : Prop := fnClosureOfRow.holds Try.pinned (OpenSpec.ofChange fnClosureOfWrong)

/-- 'laws.FnImplies': WHATEVER THE INPUT: true; the input reads as it did. -/
def fnImpliesSpec : ChangeSpec := { name := "fnImplies", fn := fun _ => fun
  | [d] => { results := [.lit (.bool true)], args := [d] }
  | _ => none }
def fnImpliesRow : OpenClaim := { program := "ytnemkgclkbhjkaa", sum := "c8aefe729e3f04cc8b73557b6dfbc379fcff8906ff7b94542cebb955af9538e4", func := "loop.example/queryoptimizer/laws.FnImplies", spec := "fnImplies", apart := false }
def FnImpliesSaid : Prop := fnImpliesRow.holds Try.pinned (OpenSpec.ofChange fnImpliesSpec)

/-- ITS FALSE NEIGHBOUR: 'it returns false'. Refute it at one input. -/
def fnImpliesWrong : ChangeSpec := { name := "fnImplies", fn := fun _ => fun
  | [d] => { results := [.lit (.bool false)], args := [d] }
  | _ => none }
def FnImpliesWrongFalsely : Prop := fnImpliesRow.holds Try.pinned (OpenSpec.ofChange fnImpliesWrong)

/-- 'laws.FnDerivation': WHATEVER THE INPUT: true; the input reads as it did. -/
def fnDerivationSpec : ChangeSpec := { name := "fnDerivation", fn := fun _ => fun
  | [d] => { results := [.lit (.bool true)], args := [d] }
  | _ => none }
def fnDerivationRow : OpenClaim := { program := "ytnemkgclkbhjkaa", sum := "c8aefe729e3f04cc8b73557b6dfbc379fcff8906ff7b94542cebb955af9538e4", func := "loop.example/queryoptimizer/laws.FnDerivation", spec := "fnDerivation", apart := false }
def FnDerivationSaid : Prop := fnDerivationRow.holds Try.pinned (OpenSpec.ofChange fnDerivationSpec)

/-- ITS FALSE NEIGHBOUR: 'it returns false'. Refute it at one input. -/
def fnDerivationWrong : ChangeSpec := { name := "fnDerivation", fn := fun _ => fun
  | [d] => { results := [.lit (.bool false)], args := [d] }
  | _ => none }
def FnDerivationWrongFalsely : Prop := fnDerivationRow.holds Try.pinned (OpenSpec.ofChange fnDerivationWrong)

/-- 'laws.FnCheckDerivation': WHATEVER THE INPUT: true; the input reads as it did. -/
def fnCheckDerivationSpec : ChangeSpec := { name := "fnCheckDerivation", fn := fun _ => fun
  | [d] => { results := [.lit (.bool true)], args := [d] }
  | _ => none }
def fnCheckDerivationRow : OpenClaim := { program := "ytnemkgclkbhjkaa", sum := "c8aefe729e3f04cc8b73557b6dfbc379fcff8906ff7b94542cebb955af9538e4", func := "loop.example/queryoptimizer/laws.FnCheckDerivation", spec := "fnCheckDerivation", apart := false }
def FnCheckDerivationSaid : Prop := fnCheckDerivationRow.holds Try.pinned (OpenSpec.ofChange fnCheckDerivationSpec)

/-- ITS FALSE NEIGHBOUR: 'it returns false'. Refute it at one input. -/
def fnCheckDerivationWrong : ChangeSpec := { name := "fnCheckDerivation", fn := fun _ => fun
  | [d] => { results := [.lit (.bool false)], args := [d] }
  | _ => none }
def FnCheckDerivationWrongFalsely : Prop := fnCheckDerivationRow.holds Try.pinned (OpenSpec.ofChange fnCheckDerivationWrong)

/-- 'laws.FnIsKey': WHATEVER THE INPUT: true; the input reads as it did. -/
def fnIsKeySpec : ChangeSpec := { name := "fnIsKey", fn := fun _ => fun
  | [d1, d2] => { results := [.lit (.bool true)], args := [d1, d2] }
  | _ => none }
def fnIsKeyRow : OpenClaim := { program := "ytnemkgclkbhjkaa", sum := "c8aefe729e3f04cc8b73557b6dfbc379fcff8906ff7b94542cebb955af9538e4", func := "loop.example/queryoptimizer/laws.FnIsKey", spec := "fnIsKey", apart := false }
def FnIsKeySaid : Prop := fnIsKeyRow.holds Try.pinned (OpenSpec.ofChange fnIsKeySpec)

/-- ITS FALSE NEIGHBOUR: 'it returns false'. Refute it at one input. -/
def fnIsKeyWrong : ChangeSpec := { name := "fnIsKey", fn := fun _ => fun
  | [d1, d2] => { results := [.lit (.bool false)], args := [d1, d2] }
  | _ => none }
def FnIsKeyWrongFalsely : Prop := fnIsKeyRow.holds Try.pinned (OpenSpec.ofChange fnIsKeyWrong)

/-- 'laws.FnIsNormalForm': WHATEVER THE INPUT: true; the input reads as it did. -/
def fnIsNormalFormSpec : ChangeSpec := { name := "fnIsNormalForm", fn := fun _ => fun
  | [d] => { results := [.lit (.bool true)], args := [d] }
  | _ => none }
def fnIsNormalFormRow : OpenClaim := { program := "ytnemkgclkbhjkaa", sum := "c8aefe729e3f04cc8b73557b6dfbc379fcff8906ff7b94542cebb955af9538e4", func := "loop.example/queryoptimizer/laws.FnIsNormalForm", spec := "fnIsNormalForm", unfollowed := true, recurses := true, apart := false }
def FnIsNormalFormSaid : Prop := fnIsNormalFormRow.holds Try.pinned (OpenSpec.ofChange fnIsNormalFormSpec)

/-- ITS FALSE NEIGHBOUR: 'it returns false'. Refute it at one input. -/
def fnIsNormalFormWrong : ChangeSpec := { name := "fnIsNormalForm", fn := fun _ => fun
  | [d] => { results := [.lit (.bool false)], args := [d] }
  | _ => none }
def FnIsNormalFormWrongFalsely : Prop := fnIsNormalFormRow.holds Try.pinned (OpenSpec.ofChange fnIsNormalFormWrong)

/-- 'laws.FnExactValidDependencies': WHATEVER THE INPUT: true; the input reads as it did. -/
def fnExactValidDependenciesSpec : ChangeSpec := { name := "fnExactValidDependencies", fn := fun _ => fun
  | [d1, d2] => { results := [.lit (.bool true)], args := [d1, d2] }
  | _ => none }
def fnExactValidDependenciesRow : OpenClaim := { program := "ytnemkgclkbhjkaa", sum := "c8aefe729e3f04cc8b73557b6dfbc379fcff8906ff7b94542cebb955af9538e4", func := "loop.example/queryoptimizer/laws.FnExactValidDependencies", spec := "fnExactValidDependencies", apart := false }
def FnExactValidDependenciesSaid : Prop := fnExactValidDependenciesRow.holds Try.pinned (OpenSpec.ofChange fnExactValidDependenciesSpec)

/-- ITS FALSE NEIGHBOUR: 'it returns false'. Refute it at one input. -/
def fnExactValidDependenciesWrong : ChangeSpec := { name := "fnExactValidDependencies", fn := fun _ => fun
  | [d1, d2] => { results := [.lit (.bool false)], args := [d1, d2] }
  | _ => none }
def FnExactValidDependenciesWrongFalsely : Prop := fnExactValidDependenciesRow.holds Try.pinned (OpenSpec.ofChange fnExactValidDependenciesWrong)

/-- 'laws.FnExactClosureOf': WHATEVER THE INPUT: true; the input reads as it did. -/
def fnExactClosureOfSpec : ChangeSpec := { name := "fnExactClosureOf", fn := fun _ => fun
  | [d1, d2, d3] => { results := [.lit (.bool true)], args := [d1, d2, d3] }
  | _ => none }
def fnExactClosureOfRow : OpenClaim := { program := "ytnemkgclkbhjkaa", sum := "c8aefe729e3f04cc8b73557b6dfbc379fcff8906ff7b94542cebb955af9538e4", func := "loop.example/queryoptimizer/laws.FnExactClosureOf", spec := "fnExactClosureOf", apart := false }
def FnExactClosureOfSaid : Prop := fnExactClosureOfRow.holds Try.pinned (OpenSpec.ofChange fnExactClosureOfSpec)

/-- ITS FALSE NEIGHBOUR: 'it returns false'. Refute it at one input. -/
def fnExactClosureOfWrong : ChangeSpec := { name := "fnExactClosureOf", fn := fun _ => fun
  | [d1, d2, d3] => { results := [.lit (.bool false)], args := [d1, d2, d3] }
  | _ => none }
def FnExactClosureOfWrongFalsely : Prop := fnExactClosureOfRow.holds Try.pinned (OpenSpec.ofChange fnExactClosureOfWrong)

/-- 'laws.FnExactImplies': WHATEVER THE INPUT: true; the input reads as it did. -/
def fnExactImpliesSpec : ChangeSpec := { name := "fnExactImplies", fn := fun _ => fun
  | [d1, d2, d3] => { results := [.lit (.bool true)], args := [d1, d2, d3] }
  | _ => none }
def fnExactImpliesRow : OpenClaim := { program := "ytnemkgclkbhjkaa", sum := "c8aefe729e3f04cc8b73557b6dfbc379fcff8906ff7b94542cebb955af9538e4", func := "loop.example/queryoptimizer/laws.FnExactImplies", spec := "fnExactImplies", apart := false }
def FnExactImpliesSaid : Prop := fnExactImpliesRow.holds Try.pinned (OpenSpec.ofChange fnExactImpliesSpec)

/-- ITS FALSE NEIGHBOUR: 'it returns false'. Refute it at one input. -/
def fnExactImpliesWrong : ChangeSpec := { name := "fnExactImplies", fn := fun _ => fun
  | [d1, d2, d3] => { results := [.lit (.bool false)], args := [d1, d2, d3] }
  | _ => none }
def FnExactImpliesWrongFalsely : Prop := fnExactImpliesRow.holds Try.pinned (OpenSpec.ofChange fnExactImpliesWrong)

/-- 'laws.FnExactCheckDerivation': WHATEVER THE INPUT: true; the input reads as it did. -/
def fnExactCheckDerivationSpec : ChangeSpec := { name := "fnExactCheckDerivation", fn := fun _ => fun
  | [d1, d2, d3, d4] => { results := [.lit (.bool true)], args := [d1, d2, d3, d4] }
  | _ => none }
def fnExactCheckDerivationRow : OpenClaim := { program := "ytnemkgclkbhjkaa", sum := "c8aefe729e3f04cc8b73557b6dfbc379fcff8906ff7b94542cebb955af9538e4", func := "loop.example/queryoptimizer/laws.FnExactCheckDerivation", spec := "fnExactCheckDerivation", apart := false }
def FnExactCheckDerivationSaid : Prop := fnExactCheckDerivationRow.holds Try.pinned (OpenSpec.ofChange fnExactCheckDerivationSpec)

/-- ITS FALSE NEIGHBOUR: 'it returns false'. Refute it at one input. -/
def fnExactCheckDerivationWrong : ChangeSpec := { name := "fnExactCheckDerivation", fn := fun _ => fun
  | [d1, d2, d3, d4] => { results := [.lit (.bool false)], args := [d1, d2, d3, d4] }
  | _ => none }
def FnExactCheckDerivationWrongFalsely : Prop := fnExactCheckDerivationRow.holds Try.pinned (OpenSpec.ofChange fnExactCheckDerivationWrong)

/-- 'laws.FnExactIsKey': WHATEVER THE INPUT: true; the input reads as it did. -/
def fnExactIsKeySpec : ChangeSpec := { name := "fnExactIsKey", fn := fun _ => fun
  | [d1, d2, d3] => { results := [.lit (.bool true)], args := [d1, d2, d3] }
  | _ => none }
def fnExactIsKeyRow : OpenClaim := { program := "ytnemkgclkbhjkaa", sum := "c8aefe729e3f04cc8b73557b6dfbc379fcff8906ff7b94542cebb955af9538e4", func := "loop.example/queryoptimizer/laws.FnExactIsKey", spec := "fnExactIsKey", apart := false }
def FnExactIsKeySaid : Prop := fnExactIsKeyRow.holds Try.pinned (OpenSpec.ofChange fnExactIsKeySpec)

/-- ITS FALSE NEIGHBOUR: 'it returns false'. Refute it at one input. -/
def fnExactIsKeyWrong : ChangeSpec := { name := "fnExactIsKey", fn := fun _ => fun
  | [d1, d2, d3] => { results := [.lit (.bool false)], args := [d1, d2, d3] }
  | _ => none }
def FnExactIsKeyWrongFalsely : Prop := fnExactIsKeyRow.holds Try.pinned (OpenSpec.ofChange fnExactIsKeyWrong)

/-- 'laws.FnExactIsNormalForm': WHATEVER THE INPUT: true; the input reads as it did. -/
def fnExactIsNormalFormSpec : ChangeSpec := { name := "fnExactIsNormalForm", fn := fun _ => fun
  | [d1, d2] => { results := [.lit (.bool true)], args := [d1, d2] }
  | _ => none }
def fnExactIsNormalFormRow : OpenClaim := { program := "ytnemkgclkbhjkaa", sum := "c8aefe729e3f04cc8b73557b6dfbc379fcff8906ff7b94542cebb955af9538e4", func := "loop.example/queryoptimizer/laws.FnExactIsNormalForm", spec := "fnExactIsNormalForm", unfollowed := true, recurses := true, apart := false }
def FnExactIsNormalFormSaid : Prop := fnExactIsNormalFormRow.holds Try.pinned (OpenSpec.ofChange fnExactIsNormalFormSpec)

/-- ITS FALSE NEIGHBOUR: 'it returns false'. Refute it at one input. -/
def fnExactIsNormalFormWrong : ChangeSpec := { name := "fnExactIsNormalForm", fn := fun _ => fun
  | [d1, d2] => { results := [.lit (.bool false)], args := [d1, d2] }
  | _ => none }
def FnExactIsNormalFormWrongFalsely : Prop := fnExactIsNormalFormRow.holds Try.pinned (OpenSpec.ofChange fnExactIsNormalFormWrong)

/- THE SECOND FORM. 'bulk': how many values and letters a reading holds, each counted each time it is reached (what is shared counts as often as it is met; a slice's spare places count too). A statement '..UptoSaid' is the law's where the arguments, and the package variables that the reading takes, are together of bulk at most 1048576: NARROWER than '..Said'. Prove '..Said' where nothing that the law and all that it calls make is longer than what came in: it says more and counts as full. Else prove '..UptoSaid'. A law counts once. -/
mutual
def uptoBulk {H : Type} : DataW H → Nat
  | .lit (.string bytes) => bytes.length + 1
  | .lit _ => 1
  | .nil => 1
  | .ptr d => uptoBulk d + 1
  | .slice elems spare => uptoBulkAll elems + uptoBulkAll spare + 1
  | .agg parts => uptoBulkAll parts + 1
  | .iface _ d => uptoBulk d + 1
  | .map entries => uptoBulkEntries entries + 1
  | .held _ => 1
def uptoBulkAll {H : Type} : List (DataW H) → Nat
  | [] => 0
  | d :: r => uptoBulk d + uptoBulkAll r
def uptoBulkEntries {H : Type} : List (Lit × DataW H) → Nat
  | [] => 0
  | x :: r => uptoBulkEntry x + uptoBulkEntries r
def uptoBulkEntry {H : Type} : Lit × DataW H → Nat
  | (.string bytes, d) => bytes.length + uptoBulk d + 1
  | (_, d) => uptoBulk d + 1
 end
def uptoSmall : (H : Type) → List (DataW H) → Bool := fun _ ds => decide (uptoBulkAll ds ≤ 1048576)
def OpenSpec.upto (s : _root_.Go.ChangeSpec) : _root_.Go.OpenSpec := { _root_.Go.OpenSpec.ofChange s with cond := some uptoSmall }

/-- 'laws.FnClosureOf', WHERE WHAT IT READS IS OF BULK AT MOST 1048576: true; the input reads as it did. -/
def fnClosureOfUptoRow : OpenClaim := { program := "ytnemkgclkbhjkaa", sum := "c8aefe729e3f04cc8b73557b6dfbc379fcff8906ff7b94542cebb955af9538e4", func := "loop.example/queryoptimizer/laws.FnClosureOf", spec := "fnClosureOf", apart := false, narrowed := true }
def FnClosureOfUptoSaid : Prop := fnClosureOfUptoRow.holds Try.pinned (OpenSpec.upto fnClosureOfSpec)

/-- 'laws.FnImplies', WHERE WHAT IT READS IS OF BULK AT MOST 1048576: true; the input reads as it did. -/
def fnImpliesUptoRow : OpenClaim := { program := "ytnemkgclkbhjkaa", sum := "c8aefe729e3f04cc8b73557b6dfbc379fcff8906ff7b94542cebb955af9538e4", func := "loop.example/queryoptimizer/laws.FnImplies", spec := "fnImplies", apart := false, narrowed := true }
def FnImpliesUptoSaid : Prop := fnImpliesUptoRow.holds Try.pinned (OpenSpec.upto fnImpliesSpec)

/-- 'laws.FnDerivation', WHERE WHAT IT READS IS OF BULK AT MOST 1048576: true; the input reads as it did. -/
def fnDerivationUptoRow : OpenClaim := { program := "ytnemkgclkbhjkaa", sum := "c8aefe729e3f04cc8b73557b6dfbc379fcff8906ff7b94542cebb955af9538e4", func := "loop.example/queryoptimizer/laws.FnDerivation", spec := "fnDerivation", apart := false, narrowed := true }
def FnDerivationUptoSaid : Prop := fnDerivationUptoRow.holds Try.pinned (OpenSpec.upto fnDerivationSpec)

/-- 'laws.FnCheckDerivation', WHERE WHAT IT READS IS OF BULK AT MOST 1048576: true; the input reads as it did. -/
def fnCheckDerivationUptoRow : OpenClaim := { program := "ytnemkgclkbhjkaa", sum := "c8aefe729e3f04cc8b73557b6dfbc379fcff8906ff7b94542cebb955af9538e4", func := "loop.example/queryoptimizer/laws.FnCheckDerivation", spec := "fnCheckDerivation", apart := false, narrowed := true }
def FnCheckDerivationUptoSaid : Prop := fnCheckDerivationUptoRow.holds Try.pinned (OpenSpec.upto fnCheckDerivationSpec)

/-- 'laws.FnIsKey', WHERE WHAT IT READS IS OF BULK AT MOST 1048576: true; the input reads as it did. -/
def fnIsKeyUptoRow : OpenClaim := { program := "ytnemkgclkbhjkaa", sum := "c8aefe729e3f04cc8b73557b6dfbc379fcff8906ff7b94542cebb955af9538e4", func := "loop.example/queryoptimizer/laws.FnIsKey", spec := "fnIsKey", apart := false, narrowed := true }
def FnIsKeyUptoSaid : Prop := fnIsKeyUptoRow.holds Try.pinned (OpenSpec.upto fnIsKeySpec)

/-- 'laws.FnIsNormalForm', WHERE WHAT IT READS IS OF BULK AT MOST 1048576: true; the input reads as it did. -/
def fnIsNormalFormUptoRow : OpenClaim := { program := "ytnemkgclkbhjkaa", sum := "c8aefe729e3f04cc8b73557b6dfbc379fcff8906ff7b94542cebb955af9538e4", func := "loop.example/queryoptimizer/laws.FnIsNormalForm", spec := "fnIsNormalForm", unfollowed := true, recurses := true, apart := false, narrowed := true }
def FnIsNormalFormUptoSaid : Prop := fnIsNormalFormUptoRow.holds Try.pinned (OpenSpec.upto fnIsNormalFormSpec)

/-- 'laws.FnExactValidDependencies', WHERE WHAT IT READS IS OF BULK AT MOST 1048576: true; the input reads as it did. -/
def fnExactValidDependenciesUptoRow : OpenClaim := { program := "ytnemkgclkbhjkaa", sum := "c8aefe729e3f04cc8b73557b6dfbc379fcff8906ff7b94542cebb955af9538e4", func := "loop.example/queryoptimizer/laws.FnExactValidDependencies", spec := "fnExactValidDependencies", apart := false, narrowed := true }
def FnExactValidDependenciesUptoSaid : Prop := fnExactValidDependenciesUptoRow.holds Try.pinned (OpenSpec.upto fnExactValidDependenciesSpec)

/-- 'laws.FnExactClosureOf', WHERE WHAT IT READS IS OF BULK AT MOST 1048576: true; the input reads as it did. -/
def fnExactClosureOfUptoRow : OpenClaim := { program := "ytnemkgclkbhjkaa", sum := "c8aefe729e3f04cc8b73557b6dfbc379fcff8906ff7b94542cebb955af9538e4", func := "loop.example/queryoptimizer/laws.FnExactClosureOf", spec := "fnExactClosureOf", apart := false, narrowed := true }
def FnExactClosureOfUptoSaid : Prop := fnExactClosureOfUptoRow.holds Try.pinned (OpenSpec.upto fnExactClosureOfSpec)

/-- 'laws.FnExactImplies', WHERE WHAT IT READS IS OF BULK AT MOST 1048576: true; the input reads as it did. -/
def fnExactImpliesUptoRow : OpenClaim := { program := "ytnemkgclkbhjkaa", sum := "c8aefe729e3f04cc8b73557b6dfbc379fcff8906ff7b94542cebb955af9538e4", func := "loop.example/queryoptimizer/laws.FnExactImplies", spec := "fnExactImplies", apart := false, narrowed := true }
def FnExactImpliesUptoSaid : Prop := fnExactImpliesUptoRow.holds Try.pinned (OpenSpec.upto fnExactImpliesSpec)

/-- 'laws.FnExactCheckDerivation', WHERE WHAT IT READS IS OF BULK AT MOST 1048576: true; the input reads as it did. -/
def fnExactCheckDerivationUptoRow : OpenClaim := { program := "ytnemkgclkbhjkaa", sum := "c8aefe729e3f04cc8b73557b6dfbc379fcff8906ff7b94542cebb955af9538e4", func := "loop.example/queryoptimizer/laws.FnExactCheckDerivation", spec := "fnExactCheckDerivation", apart := false, narrowed := true }
def FnExactCheckDerivationUptoSaid : Prop := fnExactCheckDerivationUptoRow.holds Try.pinned (OpenSpec.upto fnExactCheckDerivationSpec)

/-- 'laws.FnExactIsKey', WHERE WHAT IT READS IS OF BULK AT MOST 1048576: true; the input reads as it did. -/
def fnExactIsKeyUptoRow : OpenClaim := { program := "ytnemkgclkbhjkaa", sum := "c8aefe729e3f04cc8b73557b6dfbc379fcff8906ff7b94542cebb955af9538e4", func := "loop.example/queryoptimizer/laws.FnExactIsKey", spec := "fnExactIsKey", apart := false, narrowed := true }
def FnExactIsKeyUptoSaid : Prop := fnExactIsKeyUptoRow.holds Try.pinned (OpenSpec.upto fnExactIsKeySpec)

/-- 'laws.FnExactIsNormalForm', WHERE WHAT IT READS IS OF BULK AT MOST 1048576: true; the input reads as it did. -/
def fnExactIsNormalFormUptoRow : OpenClaim := { program := "ytnemkgclkbhjkaa", sum := "c8aefe729e3f04cc8b73557b6dfbc379fcff8906ff7b94542cebb955af9538e4", func := "loop.example/queryoptimizer/laws.FnExactIsNormalForm", spec := "fnExactIsNormalForm", unfollowed := true, recurses := true, apart := false, narrowed := true }
def FnExactIsNormalFormUptoSaid : Prop := fnExactIsNormalFormUptoRow.holds Try.pinned (OpenSpec.upto fnExactIsNormalFormSpec)

end Rows
end Go.Proofs.Ytnemkgclkbhjkaa

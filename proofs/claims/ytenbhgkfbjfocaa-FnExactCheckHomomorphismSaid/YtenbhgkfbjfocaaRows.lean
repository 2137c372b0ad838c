/-
  No cell of these rows narrows 'for every input' (looked for: loops, veiled, ifaces, maps, wideKeys, modest, calm, conditions, laid).
  DERIVED. THE GIVEN ROWS OF THIS SEAT. 3 by the template 'for every input the law returns true; each argument reads behind the call as it read before'; 0 by the template 'total and deterministic' (their statements: YtenbhgkfbjfocaaTotals.lean).
  GIVEN WITH THE SEED: the statements are not yours to turn. If you find one false, say at which input.
  Laid BY PROGRAM, IN A SANDBOX (cutbox-rows.mjs): the forced cells as the released guide's own fill.sh prints them over the translation ee78bea8339dce6a… (all of the seat's roots in one cut). By AI agents, Wed Nov 11 2026. No macro, syntax, notation, axiom, sorry.
-/
import Derived.Test.YtenbhgkfbjfocaaChecked
import GoSem.Claim
import GoSem.ClaimJoined
import GoSem.ClaimMapViews
import Derived.JoinedTies
import Derived.KernelRfl
namespace Go.Proofs.Ytenbhgkfbjfocaa
/- THE CELL 'sum', in the pinned program and in every row, IS THE sha256 OF THE DUMP (.gsa) THAT YtenbhgkfbjfocaaProg.lean LOADS. Nothing in Lean hashes anything: it is a label: what it is worth is what the hold of that sum in a sandbox is worth. -/
noncomputable def Try.pinned : Pinned := { name := "ytenbhgkfbjfocaa", sum := "ee78bea8339dce6a36c6be5ad9252712ba8f16eb47c9bda9c1b8a0641268e14c", checked := Try.checked }
namespace Rows
def none {H : Type} : Left H := { results := [], args := [] }

/-- 'laws.FnExactValidRule': WHATEVER THE INPUT: true; the input reads as it did. -/
def fnExactValidRuleSpec : ChangeSpec := { name := "fnExactValidRule", fn := fun _ => fun
  | [d] => { results := [.lit (.bool true)], args := [d] }
  | _ => none }
def fnExactValidRuleRow : OpenClaim := { program := "ytenbhgkfbjfocaa", sum := "ee78bea8339dce6a36c6be5ad9252712ba8f16eb47c9bda9c1b8a0641268e14c", func := "loop.example/queryoptimizer/laws.FnExactValidRule", spec := "fnExactValidRule", unfollowed := true, recurses := true, apart := false }
def FnExactValidRuleSaid : Prop := fnExactValidRuleRow.holds Try.pinned (OpenSpec.ofChange fnExactValidRuleSpec)

/-- ITS FALSE NEIGHBOUR: 'it returns false'. Refute it at one input. -/
def fnExactValidRuleWrong : ChangeSpec := { name := "fnExactValidRule", fn := fun _ => fun
  | [d] => { results := [.lit (.bool false)], args := [d] }
  | _ => none }
def FnExactValidRuleWrongFalsely : Prop := fnExactValidRuleRow.holds Try.pinned (OpenSpec.ofChange fnExactValidRuleWrong)

/-- 'laws.FnExactValidFacts': WHATEVER THE INPUT: true; the input reads as it did. -/
def fnExactValidFactsSpec : ChangeSpec := { name := "fnExactValidFacts", fn := fun _ => fun
  | [d] => { results := [.lit (.bool true)], args := [d] }
  | _ => none }
def fnExactValidFactsRow : OpenClaim := { program := "ytenbhgkfbjfocaa", sum := "ee78bea8339dce6a36c6be5ad9252712ba8f16eb47c9bda9c1b8a0641268e14c", func := "loop.example/queryoptimizer/laws.FnExactValidFacts", spec := "fnExactValidFacts", apart := false }
def FnExactValidFactsSaid : Prop := fnExactValidFactsRow.holds Try.pinned (OpenSpec.ofChange fnExactValidFactsSpec)

/-- ITS FALSE NEIGHBOUR: 'it returns false'. Refute it at one input. -/
def fnExactValidFactsWrong : ChangeSpec := { name := "fnExactValidFacts", fn := fun _ => fun
  | [d] => { results := [.lit (.bool false)], args := [d] }
  | _ => none }
def FnExactValidFactsWrongFalsely : Prop := fnExactValidFactsRow.holds Try.pinned (OpenSpec.ofChange fnExactValidFactsWrong)

/-- 'laws.FnExactCheckHomomorphism': WHATEVER THE INPUT: true; the input reads as it did. -/
def fnExactCheckHomomorphismSpec : ChangeSpec := { name := "fnExactCheckHomomorphism", fn := fun _ => fun
  | [d1, d2, d3] => { results := [.lit (.bool true)], args := [d1, d2, d3] }
  | _ => none }
def fnExactCheckHomomorphismRow : OpenClaim := { program := "ytenbhgkfbjfocaa", sum := "ee78bea8339dce6a36c6be5ad9252712ba8f16eb47c9bda9c1b8a0641268e14c", func := "loop.example/queryoptimizer/laws.FnExactCheckHomomorphism", spec := "fnExactCheckHomomorphism", unfollowed := true, recurses := true, apart := false }
def FnExactCheckHomomorphismSaid : Prop := fnExactCheckHomomorphismRow.holds Try.pinned (OpenSpec.ofChange fnExactCheckHomomorphismSpec)

/-- ITS FALSE NEIGHBOUR: 'it returns false'. Refute it at one input. -/
def fnExactCheckHomomorphismWrong : ChangeSpec := { name := "fnExactCheckHomomorphism", fn := fun _ => fun
  | [d1, d2, d3] => { results := [.lit (.bool false)], args := [d1, d2, d3] }
  | _ => none }
def FnExactCheckHomomorphismWrongFalsely : Prop := fnExactCheckHomomorphismRow.holds Try.pinned (OpenSpec.ofChange fnExactCheckHomomorphismWrong)

/- THE SECOND FORM. 'bulk': how many values and letters a reading holds, each counted each time it is reached (what is shared counts as often as it is met; a slice's spare places count too). A statement '..UptoSaid' is the law's where the arguments, and the package variables that the reading takes, are together of bulk at most 1048576: NARROWER than '..Said'. Prove '..Said' where nothing that the law and all that it calls make is longer than what came in: it says more and counts as full. Else prove '..UptoSaid'. A law counts once. -/
mutual
def uptoBulk {H : Type} : DataW H → Nat
  | .lit (.string bytes) => bytes.length + 1
  | .lit _ => 1
  | .nil => 1
  | .ptr d => uptoBulk d + 1
  | .slice elems spare => uptoBulkAll elems + uptoBulkAll spare + 1
  | .agg parts => uptoBulkAll parts + 1
  | .iface _ d => uptoBulk d + 1
  | .map entries => uptoBulkEntries entries + 1
  | .held _ => 1
def uptoBulkAll {H : Type} : List (DataW H) → Nat
  | [] => 0
  | d :: r => uptoBulk d + uptoBulkAll r
def uptoBulkEntries {H : Type} : List (Lit × DataW H) → Nat
  | [] => 0
  | x :: r => uptoBulkEntry x + uptoBulkEntries r
def uptoBulkEntry {H : Type} : Lit × DataW H → Nat
  | (.string bytes, d) => bytes.length + uptoBulk d + 1
  | (_, d) => uptoBulk d + 1
 end
def uptoSmall : (H : Type) → List (DataW H) → Bool := fun _ ds => decide (uptoBulkAll ds ≤ 1048576)
def OpenSpec.upto (s : _root_.Go.ChangeSpec) : _root_.Go.OpenSpec := { _root_.Go.OpenSpec.ofChange s with cond := some uptoSmall }

/-- 'laws.FnExactValidRule', WHERE WHAT IT READS IS OF BULK AT MOST 1048576: true; the input reads as it did. -/
def fnExactValidRuleUptoRow : OpenClaim := { program := "ytenbhgkfbjfocaa", sum := "ee78bea8339dce6a36c6be5ad9252712ba8f16eb47c9bda9c1b8a0641268e14c", func := "loop.example/queryoptimizer/laws.FnExactValidRule", spec := "fnExactValidRule", unfollowed := true, recurses := true, apart := false, narrowed := true }
def FnExactValidRuleUptoSaid : Prop := fnExactValidRuleUptoRow.holds Try.pinned (OpenSpec.upto fnExactValidRuleSpec)

/-- 'laws.FnExactValidFacts', WHERE WHAT IT READS IS OF BULK AT MOST 1048576: true; the input reads as it did. -/
def fnExactValidFactsUptoRow : OpenClaim := { program := "ytenbhgkfbjfocaa", sum := "ee78bea8339dce6a36c6be5ad9252712ba8f16eb47c9bda9c1b8a0641268e14c", func := "loop.example/queryoptimizer/laws.FnExactValidFacts", spec := "fnExactValidFacts", apart := false, narrowed := true }
def FnExactValidFactsUptoSaid : Prop := fnExactValidFactsUptoRow.holds Try.pinned (OpenSpec.upto fnExactValidFactsSpec)

/-- 'laws.FnExactCheckHomomorphism', WHERE WHAT IT READS IS OF BULK AT MOST 1048576: true; the input reads as it did. -/
def fnExactCheckHomomorphismUptoRow : OpenClaim := { program := "ytenbhgkfbjfocaa", sum := "ee78bea8339dce6a36c6be5ad9252712ba8f16eb47c9bda9c1b8a0641268e14c", func := "loop.example/queryoptimizer/laws.FnExactCheckHomomorphism", spec := "fnExactCheckHomomorphism", unfollowed := true, recurses := true, apart := false, narrowed := true }
def FnExactCheckHomomorphismUptoSaid : Prop := fnExactCheckHomomorphismUptoRow.holds Try.pinned (OpenSpec.upto fnExactCheckHomomorphismSpec)

end Rows
end Go.Proofs.Ytenbhgkfbjfocaa

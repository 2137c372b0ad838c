/-
  No cell of these rows narrows 'for every input' (looked for: loops, veiled, ifaces, maps, wideKeys, modest, calm, conditions, laid).
  DERIVED. THE GIVEN ROWS OF THIS SEAT. 3 by the template 'for every input the law returns true; each argument reads behind the call as it read before'; 0 by the template 'total and deterministic' (their statements: YtpmmagnphfcdnaaTotals.lean).
  GIVEN WITH THE SEED: the statements are not yours to turn. If you find one false, say at which input.
  Laid BY PROGRAM, IN A SANDBOX (cutbox-rows.mjs): the forced cells as the released guide's own fill.sh prints them over the translation 695f78e81a089af7… (all of the seat's roots in one cut). By AI agents, Wed Nov 11 2026. No macro, syntax, notation, axiom, sorry.
-/
import Derived.Test.YtpmmagnphfcdnaaChecked
import GoSem.Claim
import GoSem.ClaimJoined
import GoSem.ClaimMapViews
import Derived.JoinedTies
import Derived.KernelRfl
namespace Go.Proofs.Ytpmmagnphfcdnaa
/- THE CELL 'sum', in the pinned program and in every row, IS THE sha256 OF THE DUMP (.gsa) THAT YtpmmagnphfcdnaaProg.lean LOADS. Nothing in Lean hashes anything: it is a label: what it is worth is what the hold of that sum in a sandbox is worth. -/
noncomputable def Try.pinned : Pinned := { name := "ytpmmagnphfcdnaa", sum := "695f78e81a089af784db1c92166982af2faa389efdcf2cf3a95d22a1e1594bbf", checked := Try.checked }
namespace Rows
def none {H : Type} : Left H := { results := [], args := [] }

/-- 'laws.FnExtractBind': WHATEVER THE INPUT: true; the input reads as it did. -/
def fnExtractBindSpec : ChangeSpec := { name := "fnExtractBind", fn := fun _ => fun
  | [d] => { results := [.lit (.bool true)], args := [d] }
  | _ => none }
def fnExtractBindRow : OpenClaim := { program := "ytpmmagnphfcdnaa", sum := "695f78e81a089af784db1c92166982af2faa389efdcf2cf3a95d22a1e1594bbf", func := "loop.example/queryoptimizer/laws.FnExtractBind", spec := "fnExtractBind", unfollowed := true, recurses := true, apart := false }
def FnExtractBindSaid : Prop := fnExtractBindRow.holds Try.pinned (OpenSpec.ofChange fnExtractBindSpec)

/-- ITS FALSE NEIGHBOUR: 'it returns false'. Refute it at one input. -/
def fnExtractBindWrong : ChangeSpec := { name := "fnExtractBind", fn := fun _ => fun
  | [d] => { results := [.lit (.bool false)], args := [d] }
  | _ => none }
def FnExtractBindWrongFalsely : Prop := fnExtractBindRow.holds Try.pinned (OpenSpec.ofChange fnExtractBindWrong)

/-- 'laws.FnBindValue': WHATEVER THE INPUT: true; the input reads as it did. -/
def fnBindValueSpec : ChangeSpec := { name := "fnBindValue", fn := fun _ => fun
  | [d1, d2] => { results := [.lit (.bool true)], args := [d1, d2] }
  | _ => none }
def fnBindValueRow : OpenClaim := { program := "ytpmmagnphfcdnaa", sum := "695f78e81a089af784db1c92166982af2faa389efdcf2cf3a95d22a1e1594bbf", func := "loop.example/queryoptimizer/laws.FnBindValue", spec := "fnBindValue", unfollowed := true, recurses := true, apart := false }
def FnBindValueSaid : Prop := fnBindValueRow.holds Try.pinned (OpenSpec.ofChange fnBindValueSpec)

/-- ITS FALSE NEIGHBOUR: 'it returns false'. Refute it at one input. -/
def fnBindValueWrong : ChangeSpec := { name := "fnBindValue", fn := fun _ => fun
  | [d1, d2] => { results := [.lit (.bool false)], args := [d1, d2] }
  | _ => none }
def FnBindValueWrongFalsely : Prop := fnBindValueRow.holds Try.pinned (OpenSpec.ofChange fnBindValueWrong)

/-- 'laws.FnExprSize': WHATEVER THE INPUT: true; the input reads as it did. -/
def fnExprSizeSpec : ChangeSpec := { name := "fnExprSize", fn := fun _ => fun
  | [d] => { results := [.lit (.bool true)], args := [d] }
  | _ => none }
def fnExprSizeRow : OpenClaim := { program := "ytpmmagnphfcdnaa", sum := "695f78e81a089af784db1c92166982af2faa389efdcf2cf3a95d22a1e1594bbf", func := "loop.example/queryoptimizer/laws.FnExprSize", spec := "fnExprSize", recurses := true, apart := false }
def FnExprSizeSaid : Prop := fnExprSizeRow.holds Try.pinned (OpenSpec.ofChange fnExprSizeSpec)

/-- ITS FALSE NEIGHBOUR: 'it returns false'. Refute it at one input. -/
def fnExprSizeWrong : ChangeSpec := { name := "fnExprSize", fn := fun _ => fun
  | [d] => { results := [.lit (.bool false)], args := [d] }
  | _ => none }
def FnExprSizeWrongFalsely : Prop := fnExprSizeRow.holds Try.pinned (OpenSpec.ofChange fnExprSizeWrong)

/- THE SECOND FORM. 'bulk': how many values and letters a reading holds, each counted each time it is reached (what is shared counts as often as it is met; a slice's spare places count too). A statement '..UptoSaid' is the law's where the arguments, and the package variables that the reading takes, are together of bulk at most 1048576: NARROWER than '..Said'. Prove '..Said' where nothing that the law and all that it calls make is longer than what came in: it says more and counts as full. Else prove '..UptoSaid'. A law counts once. -/
mutual
def uptoBulk {H : Type} : DataW H → Nat
  | .lit (.string bytes) => bytes.length + 1
  | .lit _ => 1
  | .nil => 1
  | .ptr d => uptoBulk d + 1
  | .slice elems spare => uptoBulkAll elems + uptoBulkAll spare + 1
  | .agg parts => uptoBulkAll parts + 1
  | .iface _ d => uptoBulk d + 1
  | .map entries => uptoBulkEntries entries + 1
  | .held _ => 1
def uptoBulkAll {H : Type} : List (DataW H) → Nat
  | [] => 0
  | d :: r => uptoBulk d + uptoBulkAll r
def uptoBulkEntries {H : Type} : List (Lit × DataW H) → Nat
  | [] => 0
  | x :: r => uptoBulkEntry x + uptoBulkEntries r
def uptoBulkEntry {H : Type} : Lit × DataW H → Nat
  | (.string bytes, d) => bytes.length + uptoBulk d + 1
  | (_, d) => uptoBulk d + 1
 end
def uptoSmall : (H : Type) → List (DataW H) → Bool := fun _ ds => decide (uptoBulkAll ds ≤ 1048576)
def OpenSpec.upto (s : _root_.Go.ChangeSpec) : _root_.Go.OpenSpec := { _root_.Go.OpenSpec.ofChange s with cond := some uptoSmall }

/-- 'laws.FnExtractBind', WHERE WHAT IT READS IS OF BULK AT MOST 1048576: true; the input reads as it did. -/
def fnExtractBindUptoRow : OpenClaim := { program := "ytpmmagnphfcdnaa", sum := "695f78e81a089af784db1c92166982af2faa389efdcf2cf3a95d22a1e1594bbf", func := "loop.example/queryoptimizer/laws.FnExtractBind", spec := "fnExtractBind", unfollowed := true, recurses := true, apart := false, narrowed := true }
def FnExtractBindUptoSaid : Prop := fnExtractBindUptoRow.holds Try.pinned (OpenSpec.upto fnExtractBindSpec)

/-- 'laws.FnBindValue', WHERE WHAT IT READS IS OF BULK AT MOST 1048576: true; the input reads as it did. -/
def fnBindValueUptoRow : OpenClaim := { program := "ytpmmagnphfcdnaa", sum := "695f78e81a089af784db1c92166982af2faa389efdcf2cf3a95d22a1e1594bbf", func := "loop.example/queryoptimizer/laws.FnBindValue", spec := "fnBindValue", unfollowed := true, recurses := true, apart := false, narrowed := true }
def FnBindValueUptoSaid : Prop := fnBindValueUptoRow.holds Try.pinned (OpenSpec.upto fnBindValueSpec)

/-- 'laws.FnExprSize', WHERE WHAT IT READS IS OF BULK AT MOST 1048576: true; the input reads as it did. -/
def fnExprSizeUptoRow : OpenClaim := { program := "ytpmmagnphfcdnaa", sum := "695f78e81a089af784db1c92166982af2faa389efdcf2cf3a95d22a1e1594bbf", func := "loop.example/queryoptimizer/laws.FnExprSize", spec := "fnExprSize", recurses := true, apart := false, narrowed := true }
def FnExprSizeUptoSaid : Prop := fnExprSizeUptoRow.holds Try.pinned (OpenSpec.upto fnExprSizeSpec)

end Rows
end Go.Proofs.Ytpmmagnphfcdnaa

/-
  No cell of these rows narrows 'for every input' (looked for: loops, veiled, ifaces, maps, wideKeys, modest, calm, conditions, laid).
  DERIVED. THE GIVEN ROWS OF THIS SEAT. 5 by the template 'for every input the law returns true; each argument reads behind the call as it read before'; 0 by the template 'total and deterministic' (their statements: YtdijgnkgeoeplaaTotals.lean).
  GIVEN WITH THE SEED: the statements are not yours to turn. If you find one false, say at which input.
  Laid BY PROGRAM, IN A SANDBOX (cutbox-rows.mjs): the forced cells as the released guide's own fill.sh prints them over the translation 910c6456bf8268a2… (all of the seat's roots in one cut). By AI agents, Wed Nov 11 2026. No macro, syntax, notation, axiom, sorry.
-/
import Derived.Test.YtdijgnkgeoeplaaChecked
import GoSem.Claim
import GoSem.ClaimJoined
import GoSem.ClaimMapViews
import Derived.JoinedTies
import Derived.KernelRfl
namespace Go.Proofs.Ytdijgnkgeoeplaa
/- THE CELL 'sum', in the pinned program and in every row, IS THE sha256 OF THE DUMP (.gsa) THAT YtdijgnkgeoeplaaProg.lean LOADS. Nothing in Lean hashes anything: it is a label: what it is worth is what the hold of that sum in a sandbox is worth. -/
noncomputable def Try.pinned : Pinned := { name := "ytdijgnkgeoeplaa", sum := "910c6456bf8268a26bad635d46f8824e3968664ffb61cea38eb3ef2a5f4d7801", checked := Try.checked }
namespace Rows
def none {H : Type} : Left H := { results := [], args := [] }

/-- 'laws.FnCandidateKeys': WHATEVER THE INPUT: true; the input reads as it did. -/
def fnCandidateKeysSpec : ChangeSpec := { name := "fnCandidateKeys", fn := fun _ => fun
  | [d1, d2] => { results := [.lit (.bool true)], args := [d1, d2] }
  | _ => none }
def fnCandidateKeysRow : OpenClaim := { program := "ytdijgnkgeoeplaa", sum := "910c6456bf8268a26bad635d46f8824e3968664ffb61cea38eb3ef2a5f4d7801", func := "loop.example/queryoptimizer/laws.FnCandidateKeys", spec := "fnCandidateKeys", unfollowed := true, recurses := true, apart := false }
def FnCandidateKeysSaid : Prop := fnCandidateKeysRow.holds Try.pinned (OpenSpec.ofChange fnCandidateKeysSpec)

/-- ITS FALSE NEIGHBOUR: 'it returns false'. Refute it at one input. -/
def fnCandidateKeysWrong : ChangeSpec := { name := "fnCandidateKeys", fn := fun _ => fun
  | [d1, d2] => { results := [.lit (.bool false)], args := [d1, d2] }
  | _ => none }
def FnCandidateKeysWrongFalsely : Prop := fnCandidateKeysRow.holds Try.pinned (OpenSpec.ofChange fnCandidateKeysWrong)

/-- 'laws.FnExactFreeze': WHATEVER THE INPUT: true; the input reads as it did. -/
def fnExactFreezeSpec : ChangeSpec := { name := "fnExactFreeze", fn := fun _ => fun
  | [d] => { results := [.lit (.bool true)], args := [d] }
  | _ => none }
def fnExactFreezeRow : OpenClaim := { program := "ytdijgnkgeoeplaa", sum := "910c6456bf8268a26bad635d46f8824e3968664ffb61cea38eb3ef2a5f4d7801", func := "loop.example/queryoptimizer/laws.FnExactFreeze", spec := "fnExactFreeze", unfollowed := true, recurses := true, apart := false }
def FnExactFreezeSaid : Prop := fnExactFreezeRow.holds Try.pinned (OpenSpec.ofChange fnExactFreezeSpec)

/-- ITS FALSE NEIGHBOUR: 'it returns false'. Refute it at one input. -/
def fnExactFreezeWrong : ChangeSpec := { name := "fnExactFreeze", fn := fun _ => fun
  | [d] => { results := [.lit (.bool false)], args := [d] }
  | _ => none }
def FnExactFreezeWrongFalsely : Prop := fnExactFreezeRow.holds Try.pinned (OpenSpec.ofChange fnExactFreezeWrong)

/-- 'laws.FnExactDerivation': WHATEVER THE INPUT: true; the input reads as it did. -/
def fnExactDerivationSpec : ChangeSpec := { name := "fnExactDerivation", fn := fun _ => fun
  | [d1, d2, d3] => { results := [.lit (.bool true)], args := [d1, d2, d3] }
  | _ => none }
def fnExactDerivationRow : OpenClaim := { program := "ytdijgnkgeoeplaa", sum := "910c6456bf8268a26bad635d46f8824e3968664ffb61cea38eb3ef2a5f4d7801", func := "loop.example/queryoptimizer/laws.FnExactDerivation", spec := "fnExactDerivation", apart := false }
def FnExactDerivationSaid : Prop := fnExactDerivationRow.holds Try.pinned (OpenSpec.ofChange fnExactDerivationSpec)

/-- ITS FALSE NEIGHBOUR: 'it returns false'. Refute it at one input. -/
def fnExactDerivationWrong : ChangeSpec := { name := "fnExactDerivation", fn := fun _ => fun
  | [d1, d2, d3] => { results := [.lit (.bool false)], args := [d1, d2, d3] }
  | _ => none }
def FnExactDerivationWrongFalsely : Prop := fnExactDerivationRow.holds Try.pinned (OpenSpec.ofChange fnExactDerivationWrong)

/-- 'laws.FnExactCandidateKeys': WHATEVER THE INPUT: true; the input reads as it did. -/
def fnExactCandidateKeysSpec : ChangeSpec := { name := "fnExactCandidateKeys", fn := fun _ => fun
  | [d1, d2] => { results := [.lit (.bool true)], args := [d1, d2] }
  | _ => none }
def fnExactCandidateKeysRow : OpenClaim := { program := "ytdijgnkgeoeplaa", sum := "910c6456bf8268a26bad635d46f8824e3968664ffb61cea38eb3ef2a5f4d7801", func := "loop.example/queryoptimizer/laws.FnExactCandidateKeys", spec := "fnExactCandidateKeys", unfollowed := true, recurses := true, apart := false }
def FnExactCandidateKeysSaid : Prop := fnExactCandidateKeysRow.holds Try.pinned (OpenSpec.ofChange fnExactCandidateKeysSpec)

/-- ITS FALSE NEIGHBOUR: 'it returns false'. Refute it at one input. -/
def fnExactCandidateKeysWrong : ChangeSpec := { name := "fnExactCandidateKeys", fn := fun _ => fun
  | [d1, d2] => { results := [.lit (.bool false)], args := [d1, d2] }
  | _ => none }
def FnExactCandidateKeysWrongFalsely : Prop := fnExactCandidateKeysRow.holds Try.pinned (OpenSpec.ofChange fnExactCandidateKeysWrong)

/-- 'laws.FnExactOrderCovers': WHATEVER THE INPUT: true; the input reads as it did. -/
def fnExactOrderCoversSpec : ChangeSpec := { name := "fnExactOrderCovers", fn := fun _ => fun
  | [d1, d2] => { results := [.lit (.bool true)], args := [d1, d2] }
  | _ => none }
def fnExactOrderCoversRow : OpenClaim := { program := "ytdijgnkgeoeplaa", sum := "910c6456bf8268a26bad635d46f8824e3968664ffb61cea38eb3ef2a5f4d7801", func := "loop.example/queryoptimizer/laws.FnExactOrderCovers", spec := "fnExactOrderCovers", apart := false }
def FnExactOrderCoversSaid : Prop := fnExactOrderCoversRow.holds Try.pinned (OpenSpec.ofChange fnExactOrderCoversSpec)

/-- ITS FALSE NEIGHBOUR: 'it returns false'. Refute it at one input. -/
def fnExactOrderCoversWrong : ChangeSpec := { name := "fnExactOrderCovers", fn := fun _ => fun
  | [d1, d2] => { results := [.lit (.bool false)], args := [d1, d2] }
  | _ => none }
def FnExactOrderCoversWrongFalsely : Prop := fnExactOrderCoversRow.holds Try.pinned (OpenSpec.ofChange fnExactOrderCoversWrong)

/- THE SECOND FORM. 'bulk': how many values and letters a reading holds, each counted each time it is reached (what is shared counts as often as it is met; a slice's spare places count too). A statement '..UptoSaid' is the law's where the arguments, and the package variables that the reading takes, are together of bulk at most 1048576: NARROWER than '..Said'. Prove '..Said' where nothing that the law and all that it calls make is longer than what came in: it says more and counts as full. Else prove '..UptoSaid'. A law counts once. -/
mutual
def uptoBulk {H : Type} : DataW H → Nat
  | .lit (.string bytes) => bytes.length + 1
  | .lit _ => 1
  | .nil => 1
  | .ptr d => uptoBulk d + 1
  | .slice elems spare => uptoBulkAll elems + uptoBulkAll spare + 1
  | .agg parts => uptoBulkAll parts + 1
  | .iface _ d => uptoBulk d + 1
  | .map entries => uptoBulkEntries entries + 1
  | .held _ => 1
def uptoBulkAll {H : Type} : List (DataW H) → Nat
  | [] => 0
  | d :: r => uptoBulk d + uptoBulkAll r
def uptoBulkEntries {H : Type} : List (Lit × DataW H) → Nat
  | [] => 0
  | x :: r => uptoBulkEntry x + uptoBulkEntries r
def uptoBulkEntry {H : Type} : Lit × DataW H → Nat
  | (.string bytes, d) => bytes.length + uptoBulk d + 1
  | (_, d) => uptoBulk d + 1
 end
def uptoSmall : (H : Type) → List (DataW H) → Bool := fun _ ds => decide (uptoBulkAll ds ≤ 1048576)
def OpenSpec.upto (s : _root_.Go.ChangeSpec) : _root_.Go.OpenSpec := { _root_.Go.OpenSpec.ofChange s with cond := some uptoSmall }

/-- 'laws.FnCandidateKeys', WHERE WHAT IT READS IS OF BULK AT MOST 1048576: true; the input reads as it did. -/
def fnCandidateKeysUptoRow : OpenClaim := { program := "ytdijgnkgeoeplaa", sum := "910c6456bf8268a26bad635d46f8824e3968664ffb61cea38eb3ef2a5f4d7801", func := "loop.example/queryoptimizer/laws.FnCandidateKeys", spec := "fnCandidateKeys", unfollowed := true, recurses := true, apart := false, narrowed := true }
def FnCandidateKeysUptoSaid : Prop := fnCandidateKeysUptoRow.holds Try.pinned (OpenSpec.upto fnCandidateKeysSpec)

/-- 'laws.FnExactFreeze', WHERE WHAT IT READS IS OF BULK AT MOST 1048576: true; the input reads as it did. -/
def fnExactFreezeUptoRow : OpenClaim := { program := "ytdijgnkgeoeplaa", sum := "910c6456bf8268a26bad635d46f8824e3968664ffb61cea38eb3ef2a5f4d7801", func := "loop.example/queryoptimizer/laws.FnExactFreeze", spec := "fnExactFreeze", unfollowed := true, recurses := true, apart := false, narrowed := true }
def FnExactFreezeUptoSaid : Prop := fnExactFreezeUptoRow.holds Try.pinned (OpenSpec.upto fnExactFreezeSpec)

/-- 'laws.FnExactDerivation', WHERE WHAT IT READS IS OF BULK AT MOST 1048576: true; the input reads as it did. -/
def fnExactDerivationUptoRow : OpenClaim := { program := "ytdijgnkgeoeplaa", sum := "910c6456bf8268a26bad635d46f8824e3968664ffb61cea38eb3ef2a5f4d7801", func := "loop.example/queryoptimizer/laws.FnExactDerivation", spec := "fnExactDerivation", apart := false, narrowed := true }
def FnExactDerivationUptoSaid : Prop := fnExactDerivationUptoRow.holds Try.pinned (OpenSpec.upto fnExactDerivationSpec)

/-- 'laws.FnExactCandidateKeys', WHERE WHAT IT READS IS OF BULK AT MOST 1048576: true; the input reads as it did. -/
def fnExactCandidateKeysUptoRow : OpenClaim := { program := "ytdijgnkgeoeplaa", sum := "910c6456bf8268a26bad635d46f8824e3968664ffb61cea38eb3ef2a5f4d7801", func := "loop.example/queryoptimizer/laws.FnExactCandidateKeys", spec := "fnExactCandidateKeys", unfollowed := true, recurses := true, apart := false, narrowed := true }
def FnExactCandidateKeysUptoSaid : Prop := fnExactCandidateKeysUptoRow.holds Try.pinned (OpenSpec.upto fnExactCandidateKeysSpec)

/-- 'laws.FnExactOrderCovers', WHERE WHAT IT READS IS OF BULK AT MOST 1048576: true; the input reads as it did. -/
def fnExactOrderCoversUptoRow : OpenClaim := { program := "ytdijgnkgeoeplaa", sum := "910c6456bf8268a26bad635d46f8824e3968664ffb61cea38eb3ef2a5f4d7801", func := "loop.example/queryoptimizer/laws.FnExactOrderCovers", spec := "fnExactOrderCovers", apart := false, narrowed := true }
def FnExactOrderCoversUptoSaid : Prop := fnExactOrderCoversUptoRow.holds Try.pinned (OpenSpec.upto fnExactOrderCoversSpec)

end Rows
end Go.Proofs.Ytdijgnkgeoeplaa

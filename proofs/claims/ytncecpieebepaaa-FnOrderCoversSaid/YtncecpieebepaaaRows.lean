/-
  No cell of these rows narrows 'for every input' (looked for: loops, veiled, ifaces, maps, wideKeys, modest, calm, conditions, laid).
  DERIVED. THE GIVEN ROWS OF THIS SEAT. 3 by the template 'for every input the law returns true; each argument reads behind the call as it read before'; 0 by the template 'total and deterministic' (their statements: YtncecpieebepaaaTotals.lean).
  GIVEN WITH THE SEED: the statements are not yours to turn. If you find one false, say at which input.
  Laid BY PROGRAM, IN A SANDBOX (cutbox-rows.mjs): the forced cells as the released guide's own fill.sh prints them over the translation 22f2580d73da5a43… (all of the seat's roots in one cut). By AI agents, Wed Nov 11 2026. No macro, syntax, notation, axiom, sorry.
-/
import Derived.Test.YtncecpieebepaaaChecked
import GoSem.Claim
import GoSem.ClaimJoined
import GoSem.ClaimMapViews
import Derived.JoinedTies
import Derived.KernelRfl
namespace Go.Proofs.Ytncecpieebepaaa
/- THE CELL 'sum', in the pinned program and in every row, IS THE sha256 OF THE DUMP (.gsa) THAT YtncecpieebepaaaProg.lean LOADS. Nothing in Lean hashes anything: it is a label: what it is worth is what the hold of that sum in a sandbox is worth. -/
noncomputable def Try.pinned : Pinned := { name := "ytncecpieebepaaa", sum := "22f2580d73da5a43aea6d0eb418b6655984e5ac26633b42571a8613426b0ba5b", checked := Try.checked }
namespace Rows
def none {H : Type} : Left H := { results := [], args := [] }

/-- 'laws.FnSortRows': WHATEVER THE INPUT: true; the input reads as it did. -/
def fnSortRowsSpec : ChangeSpec := { name := "fnSortRows", fn := fun _ => fun
  | [d] => { results := [.lit (.bool true)], args := [d] }
  | _ => none }
def fnSortRowsRow : OpenClaim := { program := "ytncecpieebepaaa", sum := "22f2580d73da5a43aea6d0eb418b6655984e5ac26633b42571a8613426b0ba5b", func := "loop.example/queryoptimizer/laws.FnSortRows", spec := "fnSortRows", unfollowed := true, recurses := true, apart := false }
def FnSortRowsSaid : Prop := fnSortRowsRow.holds Try.pinned (OpenSpec.ofChange fnSortRowsSpec)

/-- ITS FALSE NEIGHBOUR: 'it returns false'. Refute it at one input. -/
def fnSortRowsWrong : ChangeSpec := { name := "fnSortRows", fn := fun _ => fun
  | [d] => { results := [.lit (.bool false)], args := [d] }
  | _ => none }
def FnSortRowsWrongFalsely : Prop := fnSortRowsRow.holds Try.pinned (OpenSpec.ofChange fnSortRowsWrong)

/-- 'laws.FnOrderCovers': WHATEVER THE INPUT: true; the input reads as it did. -/
def fnOrderCoversSpec : ChangeSpec := { name := "fnOrderCovers", fn := fun _ => fun
  | [d1, d2] => { results := [.lit (.bool true)], args := [d1, d2] }
  | _ => none }
def fnOrderCoversRow : OpenClaim := { program := "ytncecpieebepaaa", sum := "22f2580d73da5a43aea6d0eb418b6655984e5ac26633b42571a8613426b0ba5b", func := "loop.example/queryoptimizer/laws.FnOrderCovers", spec := "fnOrderCovers", unfollowed := true, recurses := true, apart := false }
def FnOrderCoversSaid : Prop := fnOrderCoversRow.holds Try.pinned (OpenSpec.ofChange fnOrderCoversSpec)

/-- ITS FALSE NEIGHBOUR: 'it returns false'. Refute it at one input. -/
def fnOrderCoversWrong : ChangeSpec := { name := "fnOrderCovers", fn := fun _ => fun
  | [d1, d2] => { results := [.lit (.bool false)], args := [d1, d2] }
  | _ => none }
def FnOrderCoversWrongFalsely : Prop := fnOrderCoversRow.holds Try.pinned (OpenSpec.ofChange fnOrderCoversWrong)

/-- 'laws.FnTopRows': WHATEVER THE INPUT: true; the input reads as it did. -/
def fnTopRowsSpec : ChangeSpec := { name := "fnTopRows", fn := fun _ => fun
  | [d] => { results := [.lit (.bool true)], args := [d] }
  | _ => none }
def fnTopRowsRow : OpenClaim := { program := "ytncecpieebepaaa", sum := "22f2580d73da5a43aea6d0eb418b6655984e5ac26633b42571a8613426b0ba5b", func := "loop.example/queryoptimizer/laws.FnTopRows", spec := "fnTopRows", unfollowed := true, recurses := true, apart := false }
def FnTopRowsSaid : Prop := fnTopRowsRow.holds Try.pinned (OpenSpec.ofChange fnTopRowsSpec)

/-- ITS FALSE NEIGHBOUR: 'it returns false'. Refute it at one input. -/
def fnTopRowsWrong : ChangeSpec := { name := "fnTopRows", fn := fun _ => fun
  | [d] => { results := [.lit (.bool false)], args := [d] }
  | _ => none }
def FnTopRowsWrongFalsely : Prop := fnTopRowsRow.holds Try.pinned (OpenSpec.ofChange fnTopRowsWrong)

/- THE SECOND FORM. 'bulk': how many values and letters a reading holds, each counted each time it is reached (what is shared counts as often as it is met; a slice's spare places count too). A statement '..UptoSaid' is the law's where the arguments, and the package variables that the reading takes, are together of bulk at most 1048576: NARROWER than '..Said'. Prove '..Said' where nothing that the law and all that it calls make is longer than what came in: it says more and counts as full. Else prove '..UptoSaid'. A law counts once. -/
mutual
def uptoBulk {H : Type} : DataW H → Nat
  | .lit (.string bytes) => bytes.length + 1
  | .lit _ => 1
  | .nil => 1
  | .ptr d => uptoBulk d + 1
  | .slice elems spare => uptoBulkAll elems + uptoBulkAll spare + 1
  | .agg parts => uptoBulkAll parts + 1
  | .iface _ d => uptoBulk d + 1
  | .map entries => uptoBulkEntries entries + 1
  | .held _ => 1
def uptoBulkAll {H : Type} : List (DataW H) → Nat
  | [] => 0
  | d :: r => uptoBulk d + uptoBulkAll r
def uptoBulkEntries {H : Type} : List (Lit × DataW H) → Nat
  | [] => 0
  | x :: r => uptoBulkEntry x + uptoBulkEntries r
def uptoBulkEntry {H : Type} : Lit × DataW H → Nat
  | (.string bytes, d) => bytes.length + uptoBulk d + 1
  | (_, d) => uptoBulk d + 1
 end
def uptoSmall : (H : Type) → List (DataW H) → Bool := fun _ ds => decide (uptoBulkAll ds ≤ 1048576)
def OpenSpec.upto (s : _root_.Go.ChangeSpec) : _root_.Go.OpenSpec := { _root_.Go.OpenSpec.ofChange s with cond := some uptoSmall }

/-- 'laws.FnSortRows', WHERE WHAT IT READS IS OF BULK AT MOST 1048576: true; the input reads as it did. -/
def fnSortRowsUptoRow : OpenClaim := { program := "ytncecpieebepaaa", sum := "22f2580d73da5a43aea6d0eb418b6655984e5ac26633b42571a8613426b0ba5b", func := "loop.example/queryoptimizer/laws.FnSortRows", spec := "fnSortRows", unfollowed := true, recurses := true, apart := false, narrowed := true }
def FnSortRowsUptoSaid : Prop := fnSortRowsUptoRow.holds Try.pinned (OpenSpec.upto fnSortRowsSpec)

/-- 'laws.FnOrderCovers', WHERE WHAT IT READS IS OF BULK AT MOST 1048576: true; the input reads as it did. -/
def fnOrderCoversUptoRow : OpenClaim := { program := "ytncecpieebepaaa", sum := "22f2580d73da5a43aea6d0eb418b6655984e5ac26633b42571a8613426b0ba5b", func := "loop.example/queryoptimizer/laws.FnOrderCovers", spec := "fnOrderCovers", unfollowed := true, recurses := true, apart := false, narrowed := true }
def FnOrderCoversUptoSaid : Prop := fnOrderCoversUptoRow.holds Try.pinned (OpenSpec.upto fnOrderCoversSpec)

/-- 'laws.FnTopRows', WHERE WHAT IT READS IS OF BULK AT MOST 1048576: true; the input reads as it did. -/
def fnTopRowsUptoRow : OpenClaim := { program := "ytncecpieebepaaa", sum := "22f2580d73da5a43aea6d0eb418b6655984e5ac26633b42571a8613426b0ba5b", func := "loop.example/queryoptimizer/laws.FnTopRows", spec := "fnTopRows", unfollowed := true, recurses := true, apart := false, narrowed := true }
def FnTopRowsUptoSaid : Prop := fnTopRowsUptoRow.holds Try.pinned (OpenSpec.upto fnTopRowsSpec)

end Rows
end Go.Proofs.Ytncecpieebepaaa

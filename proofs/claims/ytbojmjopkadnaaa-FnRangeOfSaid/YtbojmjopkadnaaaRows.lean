/-
  No cell of these rows narrows 'for every input' (looked for: loops, veiled, ifaces, maps, wideKeys, modest, calm, conditions, laid).
  DERIVED. THE GIVEN ROWS OF THIS SEAT. 5 by the template 'for every input the law returns true; each argument reads behind the call as it read before'; 0 by the template 'total and deterministic' (their statements: YtbojmjopkadnaaaTotals.lean).
  GIVEN WITH THE SEED: the statements are not yours to turn. If you find one false, say at which input.
  Laid BY PROGRAM, IN A SANDBOX (cutbox-rows.mjs): the forced cells as the released guide's own fill.sh prints them over the translation 1a10182e234b0eb2… (all of the seat's roots in one cut). By AI agents, Wed Nov 11 2026. No macro, syntax, notation, axiom, sorry.
-/
import Derived.Test.YtbojmjopkadnaaaChecked
import GoSem.Claim
import GoSem.ClaimJoined
import GoSem.ClaimMapViews
import Derived.JoinedTies
import Derived.KernelRfl
namespace Go.Proofs.Ytbojmjopkadnaaa
/- THE CELL 'sum', in the pinned program and in every row, IS THE sha256 OF THE DUMP (.gsa) THAT YtbojmjopkadnaaaProg.lean LOADS. Nothing in Lean hashes anything: it is a label: what it is worth is what the hold of that sum in a sandbox is worth. -/
noncomputable def Try.pinned : Pinned := { name := "ytbojmjopkadnaaa", sum := "1a10182e234b0eb291e32bb46a3d1230e8c02f66e89d5de6cc68f892579dc553", checked := Try.checked }
namespace Rows
def none {H : Type} : Left H := { results := [], args := [] }

/-- 'laws.FnSubstitute': WHATEVER THE INPUT: true; the input reads as it did. -/
def fnSubstituteSpec : ChangeSpec := { name := "fnSubstitute", fn := fun _ => fun
  | [d1, d2] => { results := [.lit (.bool true)], args := [d1, d2] }
  | _ => none }
def fnSubstituteRow : OpenClaim := { program := "ytbojmjopkadnaaa", sum := "1a10182e234b0eb291e32bb46a3d1230e8c02f66e89d5de6cc68f892579dc553", func := "loop.example/queryoptimizer/laws.FnSubstitute", spec := "fnSubstitute", unfollowed := true, recurses := true, apart := false }
def FnSubstituteSaid : Prop := fnSubstituteRow.holds Try.pinned (OpenSpec.ofChange fnSubstituteSpec)

/-- ITS FALSE NEIGHBOUR: 'it returns false'. Refute it at one input. -/
def fnSubstituteWrong : ChangeSpec := { name := "fnSubstitute", fn := fun _ => fun
  | [d1, d2] => { results := [.lit (.bool false)], args := [d1, d2] }
  | _ => none }
def FnSubstituteWrongFalsely : Prop := fnSubstituteRow.holds Try.pinned (OpenSpec.ofChange fnSubstituteWrong)

/-- 'laws.FnSubstituteColumns': WHATEVER THE INPUT: true; the input reads as it did. -/
def fnSubstituteColumnsSpec : ChangeSpec := { name := "fnSubstituteColumns", fn := fun _ => fun
  | [d] => { results := [.lit (.bool true)], args := [d] }
  | _ => none }
def fnSubstituteColumnsRow : OpenClaim := { program := "ytbojmjopkadnaaa", sum := "1a10182e234b0eb291e32bb46a3d1230e8c02f66e89d5de6cc68f892579dc553", func := "loop.example/queryoptimizer/laws.FnSubstituteColumns", spec := "fnSubstituteColumns", unfollowed := true, recurses := true, apart := false }
def FnSubstituteColumnsSaid : Prop := fnSubstituteColumnsRow.holds Try.pinned (OpenSpec.ofChange fnSubstituteColumnsSpec)

/-- ITS FALSE NEIGHBOUR: 'it returns false'. Refute it at one input. -/
def fnSubstituteColumnsWrong : ChangeSpec := { name := "fnSubstituteColumns", fn := fun _ => fun
  | [d] => { results := [.lit (.bool false)], args := [d] }
  | _ => none }
def FnSubstituteColumnsWrongFalsely : Prop := fnSubstituteColumnsRow.holds Try.pinned (OpenSpec.ofChange fnSubstituteColumnsWrong)

/-- 'laws.FnConjuncts': WHATEVER THE INPUT: true; the input reads as it did. -/
def fnConjunctsSpec : ChangeSpec := { name := "fnConjuncts", fn := fun _ => fun
  | [d1, d2] => { results := [.lit (.bool true)], args := [d1, d2] }
  | _ => none }
def fnConjunctsRow : OpenClaim := { program := "ytbojmjopkadnaaa", sum := "1a10182e234b0eb291e32bb46a3d1230e8c02f66e89d5de6cc68f892579dc553", func := "loop.example/queryoptimizer/laws.FnConjuncts", spec := "fnConjuncts", unfollowed := true, recurses := true, apart := false }
def FnConjunctsSaid : Prop := fnConjunctsRow.holds Try.pinned (OpenSpec.ofChange fnConjunctsSpec)

/-- ITS FALSE NEIGHBOUR: 'it returns false'. Refute it at one input. -/
def fnConjunctsWrong : ChangeSpec := { name := "fnConjuncts", fn := fun _ => fun
  | [d1, d2] => { results := [.lit (.bool false)], args := [d1, d2] }
  | _ => none }
def FnConjunctsWrongFalsely : Prop := fnConjunctsRow.holds Try.pinned (OpenSpec.ofChange fnConjunctsWrong)

/-- 'laws.FnConjoin': WHATEVER THE INPUT: true; the input reads as it did. -/
def fnConjoinSpec : ChangeSpec := { name := "fnConjoin", fn := fun _ => fun
  | [d1, d2] => { results := [.lit (.bool true)], args := [d1, d2] }
  | _ => none }
def fnConjoinRow : OpenClaim := { program := "ytbojmjopkadnaaa", sum := "1a10182e234b0eb291e32bb46a3d1230e8c02f66e89d5de6cc68f892579dc553", func := "loop.example/queryoptimizer/laws.FnConjoin", spec := "fnConjoin", unfollowed := true, recurses := true, apart := false }
def FnConjoinSaid : Prop := fnConjoinRow.holds Try.pinned (OpenSpec.ofChange fnConjoinSpec)

/-- ITS FALSE NEIGHBOUR: 'it returns false'. Refute it at one input. -/
def fnConjoinWrong : ChangeSpec := { name := "fnConjoin", fn := fun _ => fun
  | [d1, d2] => { results := [.lit (.bool false)], args := [d1, d2] }
  | _ => none }
def FnConjoinWrongFalsely : Prop := fnConjoinRow.holds Try.pinned (OpenSpec.ofChange fnConjoinWrong)

/-- 'laws.FnRangeOf': WHATEVER THE INPUT: true; the input reads as it did. -/
def fnRangeOfSpec : ChangeSpec := { name := "fnRangeOf", fn := fun _ => fun
  | [d] => { results := [.lit (.bool true)], args := [d] }
  | _ => none }
def fnRangeOfRow : OpenClaim := { program := "ytbojmjopkadnaaa", sum := "1a10182e234b0eb291e32bb46a3d1230e8c02f66e89d5de6cc68f892579dc553", func := "loop.example/queryoptimizer/laws.FnRangeOf", spec := "fnRangeOf", unfollowed := true, recurses := true, apart := false }
def FnRangeOfSaid : Prop := fnRangeOfRow.holds Try.pinned (OpenSpec.ofChange fnRangeOfSpec)

/-- ITS FALSE NEIGHBOUR: 'it returns false'. Refute it at one input. -/
def fnRangeOfWrong : ChangeSpec := { name := "fnRangeOf", fn := fun _ => fun
  | [d] => { results := [.lit (.bool false)], args := [d] }
  | _ => none }
def FnRangeOfWrongFalsely : Prop := fnRangeOfRow.holds Try.pinned (OpenSpec.ofChange fnRangeOfWrong)

/- THE SECOND FORM. 'bulk': how many values and letters a reading holds, each counted each time it is reached (what is shared counts as often as it is met; a slice's spare places count too). A statement '..UptoSaid' is the law's where the arguments, and the package variables that the reading takes, are together of bulk at most 1048576: NARROWER than '..Said'. Prove '..Said' where nothing that the law and all that it calls make is longer than what came in: it says more and counts as full. Else prove '..UptoSaid'. A law counts once. -/
mutual
def uptoBulk {H : Type} : DataW H → Nat
  | .lit (.string bytes) => bytes.length + 1
  | .lit _ => 1
  | .nil => 1
  | .ptr d => uptoBulk d + 1
  | .slice elems spare => uptoBulkAll elems + uptoBulkAll spare + 1
  | .agg parts => uptoBulkAll parts + 1
  | .iface _ d => uptoBulk d + 1
  | .map entries => uptoBulkEntries entries + 1
  | .held _ => 1
def uptoBulkAll {H : Type} : List (DataW H) → Nat
  | [] => 0
  | d :: r => uptoBulk d + uptoBulkAll r
def uptoBulkEntries {H : Type} : List (Lit × DataW H) → Nat
  | [] => 0
  | x :: r => uptoBulkEntry x + uptoBulkEntries r
def uptoBulkEntry {H : Type} : Lit × DataW H → Nat
  | (.string bytes, d) => bytes.length + uptoBulk d + 1
  | (_, d) => uptoBulk d + 1
 end
def uptoSmall : (H : Type) → List (DataW H) → Bool := fun _ ds => decide (uptoBulkAll ds ≤ 1048576)
def OpenSpec.upto (s : _root_.Go.ChangeSpec) : _root_.Go.OpenSpec := { _root_.Go.OpenSpec.ofChange s with cond := some uptoSmall }

/-- 'laws.FnSubstitute', WHERE WHAT IT READS IS OF BULK AT MOST 1048576: true; the input reads as it did. -/
def fnSubstituteUptoRow : OpenClaim := { program := "ytbojmjopkadnaaa", sum := "1a10182e234b0eb291e32bb46a3d1230e8c02f66e89d5de6cc68f892579dc553", func := "loop.example/queryoptimizer/laws.FnSubstitute", spec := "fnSubstitute", unfollowed := true, recurses := true, apart := false, narrowed := true }
def FnSubstituteUptoSaid : Prop := fnSubstituteUptoRow.holds Try.pinned (OpenSpec.upto fnSubstituteSpec)

/-- 'laws.FnSubstituteColumns', WHERE WHAT IT READS IS OF BULK AT MOST 1048576: true; the input reads as it did. -/
def fnSubstituteColumnsUptoRow : OpenClaim := { program := "ytbojmjopkadnaaa", sum := "1a10182e234b0eb291e32bb46a3d1230e8c02f66e89d5de6cc68f892579dc553", func := "loop.example/queryoptimizer/laws.FnSubstituteColumns", spec := "fnSubstituteColumns", unfollowed := true, recurses := true, apart := false, narrowed := true }
def FnSubstituteColumnsUptoSaid : Prop := fnSubstituteColumnsUptoRow.holds Try.pinned (OpenSpec.upto fnSubstituteColumnsSpec)

/-- 'laws.FnConjuncts', WHERE WHAT IT READS IS OF BULK AT MOST 1048576: true; the input reads as it did. -/
def fnConjunctsUptoRow : OpenClaim := { program := "ytbojmjopkadnaaa", sum := "1a10182e234b0eb291e32bb46a3d1230e8c02f66e89d5de6cc68f892579dc553", func := "loop.example/queryoptimizer/laws.FnConjuncts", spec := "fnConjuncts", unfollowed := true, recurses := true, apart := false, narrowed := true }
def FnConjunctsUptoSaid : Prop := fnConjunctsUptoRow.holds Try.pinned (OpenSpec.upto fnConjunctsSpec)

/-- 'laws.FnConjoin', WHERE WHAT IT READS IS OF BULK AT MOST 1048576: true; the input reads as it did. -/
def fnConjoinUptoRow : OpenClaim := { program := "ytbojmjopkadnaaa", sum := "1a10182e234b0eb291e32bb46a3d1230e8c02f66e89d5de6cc68f892579dc553", func := "loop.example/queryoptimizer/laws.FnConjoin", spec := "fnConjoin", unfollowed := true, recurses := true, apart := false, narrowed := true }
def FnConjoinUptoSaid : Prop := fnConjoinUptoRow.holds Try.pinned (OpenSpec.upto fnConjoinSpec)

/-- 'laws.FnRangeOf', WHERE WHAT IT READS IS OF BULK AT MOST 1048576: true; the input reads as it did. -/
def fnRangeOfUptoRow : OpenClaim := { program := "ytbojmjopkadnaaa", sum := "1a10182e234b0eb291e32bb46a3d1230e8c02f66e89d5de6cc68f892579dc553", func := "loop.example/queryoptimizer/laws.FnRangeOf", spec := "fnRangeOf", unfollowed := true, recurses := true, apart := false, narrowed := true }
def FnRangeOfUptoSaid : Prop := fnRangeOfUptoRow.holds Try.pinned (OpenSpec.upto fnRangeOfSpec)

end Rows
end Go.Proofs.Ytbojmjopkadnaaa

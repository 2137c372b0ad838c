/-
  NARROWER THAN 'FOR EVERY INPUT', by the rows' own cells (each row's printed sentence says how): FnExactRangeOf: loops.
  DERIVED. THE GIVEN ROWS OF THIS SEAT. 4 by the template 'for every input the law returns true; each argument reads behind the call as it read before'; 0 by the template 'total and deterministic' (their statements: YtibaamlhjpmjeaaTotals.lean).
  GIVEN WITH THE SEED: the statements are not yours to turn. If you find one false, say at which input.
  Laid BY PROGRAM, IN A SANDBOX (cutbox-rows.mjs): the forced cells as the released guide's own fill.sh prints them over the translation a019a422bc01ff71… (all of the seat's roots in one cut). By AI agents, Wed Nov 11 2026. No macro, syntax, notation, axiom, sorry.
-/
import Derived.Test.YtibaamlhjpmjeaaChecked
import GoSem.Claim
import GoSem.ClaimJoined
import GoSem.ClaimMapViews
import Derived.JoinedTies
import Derived.KernelRfl
namespace Go.Proofs.Ytibaamlhjpmjeaa
/- THE CELL 'sum', in the pinned program and in every row, IS THE sha256 OF THE DUMP (.gsa) THAT YtibaamlhjpmjeaaProg.lean LOADS. Nothing in Lean hashes anything: it is a label: what it is worth is what the hold of that sum in a sandbox is worth. -/
noncomputable def Try.pinned : Pinned := { name := "ytibaamlhjpmjeaa", sum := "a019a422bc01ff71541af79adc8dad558cdda34fcb59ed62959d5909e72c9c26", checked := Try.checked }
namespace Rows
def none {H : Type} : Left H := { results := [], args := [] }

/-- 'laws.FnExactRangeOf': WHATEVER THE INPUT: true; the input reads as it did. -/
def fnExactRangeOfSpec : ChangeSpec := { name := "fnExactRangeOf", fn := fun _ => fun
  | [d1, d2, d3] => { results := [.lit (.bool true)], args := [d1, d2, d3] }
  | _ => none }
def fnExactRangeOfRow : OpenClaim := { program := "ytibaamlhjpmjeaa", sum := "a019a422bc01ff71541af79adc8dad558cdda34fcb59ed62959d5909e72c9c26", func := "loop.example/queryoptimizer/laws.FnExactRangeOf", spec := "fnExactRangeOf", unfollowed := true, recurses := true, loops := true, apart := false }
def FnExactRangeOfSaid : Prop := fnExactRangeOfRow.holds Try.pinned (OpenSpec.ofChange fnExactRangeOfSpec)

/-- ITS FALSE NEIGHBOUR: 'it returns false'. Refute it at one input. -/
def fnExactRangeOfWrong : ChangeSpec := { name := "fnExactRangeOf", fn := fun _ => fun
  | [d1, d2, d3] => { results := [.lit (.bool false)], args := [d1, d2, d3] }
  | _ => none }
def FnExactRangeOfWrongFalsely : Prop := fnExactRangeOfRow.holds Try.pinned (OpenSpec.ofChange fnExactRangeOfWrong)

/-- 'laws.FnRangeOf': WHATEVER THE INPUT: true; the input reads as it did. -/
def fnRangeOfSpec : ChangeSpec := { name := "fnRangeOf", fn := fun _ => fun
  | [d] => { results := [.lit (.bool true)], args := [d] }
  | _ => none }
def fnRangeOfRow : OpenClaim := { program := "ytibaamlhjpmjeaa", sum := "a019a422bc01ff71541af79adc8dad558cdda34fcb59ed62959d5909e72c9c26", func := "loop.example/queryoptimizer/laws.FnRangeOf", spec := "fnRangeOf", unfollowed := true, recurses := true, apart := false }
def FnRangeOfSaid : Prop := fnRangeOfRow.holds Try.pinned (OpenSpec.ofChange fnRangeOfSpec)

/-- ITS FALSE NEIGHBOUR: 'it returns false'. Refute it at one input. -/
def fnRangeOfWrong : ChangeSpec := { name := "fnRangeOf", fn := fun _ => fun
  | [d] => { results := [.lit (.bool false)], args := [d] }
  | _ => none }
def FnRangeOfWrongFalsely : Prop := fnRangeOfRow.holds Try.pinned (OpenSpec.ofChange fnRangeOfWrong)

/-- 'laws.FnConjuncts': WHATEVER THE INPUT: true; the input reads as it did. -/
def fnConjunctsSpec : ChangeSpec := { name := "fnConjuncts", fn := fun _ => fun
  | [d1, d2] => { results := [.lit (.bool true)], args := [d1, d2] }
  | _ => none }
def fnConjunctsRow : OpenClaim := { program := "ytibaamlhjpmjeaa", sum := "a019a422bc01ff71541af79adc8dad558cdda34fcb59ed62959d5909e72c9c26", func := "loop.example/queryoptimizer/laws.FnConjuncts", spec := "fnConjuncts", unfollowed := true, recurses := true, apart := false }
def FnConjunctsSaid : Prop := fnConjunctsRow.holds Try.pinned (OpenSpec.ofChange fnConjunctsSpec)

/-- ITS FALSE NEIGHBOUR: 'it returns false'. Refute it at one input. -/
def fnConjunctsWrong : ChangeSpec := { name := "fnConjuncts", fn := fun _ => fun
  | [d1, d2] => { results := [.lit (.bool false)], args := [d1, d2] }
  | _ => none }
def FnConjunctsWrongFalsely : Prop := fnConjunctsRow.holds Try.pinned (OpenSpec.ofChange fnConjunctsWrong)

/-- 'laws.FnSubstitute': WHATEVER THE INPUT: true; the input reads as it did. -/
def fnSubstituteSpec : ChangeSpec := { name := "fnSubstitute", fn := fun _ => fun
  | [d1, d2] => { results := [.lit (.bool true)], args := [d1, d2] }
  | _ => none }
def fnSubstituteRow : OpenClaim := { program := "ytibaamlhjpmjeaa", sum := "a019a422bc01ff71541af79adc8dad558cdda34fcb59ed62959d5909e72c9c26", func := "loop.example/queryoptimizer/laws.FnSubstitute", spec := "fnSubstitute", unfollowed := true, recurses := true, apart := false }
def FnSubstituteSaid : Prop := fnSubstituteRow.holds Try.pinned (OpenSpec.ofChange fnSubstituteSpec)

/-- ITS FALSE NEIGHBOUR: 'it returns false'. Refute it at one input. -/
def fnSubstituteWrong : ChangeSpec := { name := "fnSubstitute", fn := fun _ => fun
  | [d1, d2] => { results := [.lit (.bool false)], args := [d1, d2] }
  | _ => none }
def FnSubstituteWrongFalsely : Prop := fnSubstituteRow.holds Try.pinned (OpenSpec.ofChange fnSubstituteWrong)

/- THE SECOND FORM. 'bulk': how many values and letters a reading holds, each counted each time it is reached (what is shared counts as often as it is met; a slice's spare places count too). A statement '..UptoSaid' is the law's where the arguments, and the package variables that the reading takes, are together of bulk at most 1048576: NARROWER than '..Said'. Prove '..Said' where nothing that the law and all that it calls make is longer than what came in: it says more and counts as full. Else prove '..UptoSaid'. A law counts once. -/
mutual
def uptoBulk {H : Type} : DataW H → Nat
  | .lit (.string bytes) => bytes.length + 1
  | .lit _ => 1
  | .nil => 1
  | .ptr d => uptoBulk d + 1
  | .slice elems spare => uptoBulkAll elems + uptoBulkAll spare + 1
  | .agg parts => uptoBulkAll parts + 1
  | .iface _ d => uptoBulk d + 1
  | .map entries => uptoBulkEntries entries + 1
  | .held _ => 1
def uptoBulkAll {H : Type} : List (DataW H) → Nat
  | [] => 0
  | d :: r => uptoBulk d + uptoBulkAll r
def uptoBulkEntries {H : Type} : List (Lit × DataW H) → Nat
  | [] => 0
  | x :: r => uptoBulkEntry x + uptoBulkEntries r
def uptoBulkEntry {H : Type} : Lit × DataW H → Nat
  | (.string bytes, d) => bytes.length + uptoBulk d + 1
  | (_, d) => uptoBulk d + 1
 end
def uptoSmall : (H : Type) → List (DataW H) → Bool := fun _ ds => decide (uptoBulkAll ds ≤ 1048576)
def OpenSpec.upto (s : _root_.Go.ChangeSpec) : _root_.Go.OpenSpec := { _root_.Go.OpenSpec.ofChange s with cond := some uptoSmall }

/-- 'laws.FnExactRangeOf', WHERE WHAT IT READS IS OF BULK AT MOST 1048576: true; the input reads as it did. -/
def fnExactRangeOfUptoRow : OpenClaim := { program := "ytibaamlhjpmjeaa", sum := "a019a422bc01ff71541af79adc8dad558cdda34fcb59ed62959d5909e72c9c26", func := "loop.example/queryoptimizer/laws.FnExactRangeOf", spec := "fnExactRangeOf", unfollowed := true, recurses := true, loops := true, apart := false, narrowed := true }
def FnExactRangeOfUptoSaid : Prop := fnExactRangeOfUptoRow.holds Try.pinned (OpenSpec.upto fnExactRangeOfSpec)

/-- 'laws.FnRangeOf', WHERE WHAT IT READS IS OF BULK AT MOST 1048576: true; the input reads as it did. -/
def fnRangeOfUptoRow : OpenClaim := { program := "ytibaamlhjpmjeaa", sum := "a019a422bc01ff71541af79adc8dad558cdda34fcb59ed62959d5909e72c9c26", func := "loop.example/queryoptimizer/laws.FnRangeOf", spec := "fnRangeOf", unfollowed := true, recurses := true, apart := false, narrowed := true }
def FnRangeOfUptoSaid : Prop := fnRangeOfUptoRow.holds Try.pinned (OpenSpec.upto fnRangeOfSpec)

/-- 'laws.FnConjuncts', WHERE WHAT IT READS IS OF BULK AT MOST 1048576: true; the input reads as it did. -/
def fnConjunctsUptoRow : OpenClaim := { program := "ytibaamlhjpmjeaa", sum := "a019a422bc01ff71541af79adc8dad558cdda34fcb59ed62959d5909e72c9c26", func := "loop.example/queryoptimizer/laws.FnConjuncts", spec := "fnConjuncts", unfollowed := true, recurses := true, apart := false, narrowed := true }
def FnConjunctsUptoSaid : Prop := fnConjunctsUptoRow.holds Try.pinned (OpenSpec.upto fnConjunctsSpec)

/-- 'laws.FnSubstitute', WHERE WHAT IT READS IS OF BULK AT MOST 1048576: true; the input reads as it did. -/
def fnSubstituteUptoRow : OpenClaim := { program := "ytibaamlhjpmjeaa", sum := "a019a422bc01ff71541af79adc8dad558cdda34fcb59ed62959d5909e72c9c26", func := "loop.example/queryoptimizer/laws.FnSubstitute", spec := "fnSubstitute", unfollowed := true, recurses := true, apart := false, narrowed := true }
def FnSubstituteUptoSaid : Prop := fnSubstituteUptoRow.holds Try.pinned (OpenSpec.upto fnSubstituteSpec)

end Rows
end Go.Proofs.Ytibaamlhjpmjeaa

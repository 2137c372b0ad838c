/-
  Short forms of guarded instructions. No condition.
-/
import Derived.Test.YtclkehekhdfnnaaJSVLib
namespace Go.Proofs.Ytclkehekhdfnnaa
open Go.RowKit

/-- An instruction with a slot, and one without, neither guarded; a call with a slot; frequent ones. -/
abbrev gi (n : Nat) (i : In) : GI := ⟨i, some n, none, false⟩
abbrev g0 (i : In) : GI := ⟨i, none, none, false⟩
abbrev gc (n f : Nat) (l : List Opd) : GI := ⟨.call n f l, some n, none, true⟩
abbrev gt (n a : Nat) : GI := ⟨.mov n (.t a), some n, none, false⟩
abbrev gk (n : Nat) (a : Int) : GI := ⟨.mov n (.k (I a)), some n, none, false⟩
abbrev gl (n a : Nat) : GI := ⟨.lod n a none, some n, none, false⟩
abbrev gs (n a s : Nat) : GI := ⟨.lod n a (some s), some n, none, false⟩
abbrev gf (n a o : Nat) : GI := ⟨.fad n a o, some n, none, false⟩
abbrev ga (n a i s : Nat) : GI := ⟨.iad n a (.t i) s, some n, none, false⟩
abbrev gn (n a : Nat) : GI := ⟨.len n (.t a), some n, none, false⟩
abbrev gb (n : Nat) (o : BinOp) (a b : Nat) : GI := ⟨.bin n o (.t a) (.t b), some n, none, false⟩
abbrev gd (n : Nat) (o : BinOp) (a : Nat) (b : Int) : GI := ⟨.bin n o (.t a) (.k (I b)), some n, none, false⟩
abbrev DC.z (r : List GI) : DC := .reg r none
end Go.Proofs.Ytclkehekhdfnnaa

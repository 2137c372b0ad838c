/-
  A region that draws its order, walked by hand: one operation at a time, its slot named.
-/
import Derived.Deep.RegionHeld3
namespace Go.Proofs.Ytfbkbppaignofaa
open Go

section
variable {P : Program} {md : Region.Mode} {ops : Array Oper} {Q : Exit → Act → World → Prop} {S : World → Prop} {fuel : Nat} {listed : Array Bool} {a : Act} {w : World}

/-- An operation whose guard says no is passed over: its slot holds nothing. -/
theorem held_skip (i d : Nat) (hd : (ops[i]?).map (fun o => o.dst) = some (some d)) (hs : Region.noSelect ops = true) (hf : Region.free md ops listed i = true) (hr : (Region.ready md ops listed).contains i = true)
    (hQ : ∀ c a w, Q (.panic c) (a.put (some d) undef) w → Q (.panic c) a w) (hw : (ops[i]?).map (fun o => Region.wanted o (yielded ops a.tmps)) = some false) (hS : S w)
    (h : wpAnyH P md ops Q S fuel (listed.setIfInBounds i true) (a.put (some d) undef) w) : wpAnyH P md ops Q S (fuel + 1) listed a w := by
  obtain ⟨o, ho, hod⟩ := Option.map_eq_some_iff.1 hd
  rw [ho] at hw
  have hw' : Region.wanted o (yielded ops a.tmps) = false := by simpa using hw
  refine wpAnyH_take ho hs hf hr ?_ (.inr ⟨hw', rfl⟩) hS ?_
  · rw [hod]; exact hQ
  · rw [hod]; exact h

/-- An operation that yields v in every world that meets S. -/
theorem held_take (i d : Nat) (o : Oper) (v : Value) (ho : ops[i]? = some o) (hd : o.dst = some d) (hs : Region.noSelect ops = true) (hf : Region.free md ops listed i = true) (hr : (Region.ready md ops listed).contains i = true)
    (hQ : ∀ c a w, Q (.panic c) (a.put (some d) v) w → Q (.panic c) a w) (hw : Region.wanted o (yielded ops a.tmps) = true) (hy : ∀ w, S w → (execOp a.eval o).run P w = .ok (.value v) w) (hS : S w)
    (h : wpAnyH P md ops Q S fuel (listed.setIfInBounds i true) (a.put (some d) v) w) : wpAnyH P md ops Q S (fuel + 1) listed a w := by
  refine wpAnyH_take ho hs hf hr ?_ (.inl ⟨hw, hy⟩) hS ?_
  · rw [hd]; exact hQ
  · rw [hd]; exact h
end
end Go.Proofs.Ytfbkbppaignofaa

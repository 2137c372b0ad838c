/-
  Expressions of two kids that a law makes; the commutative kinds.
-/
import Derived.Test.YtfbkbppaignofaaMono
namespace Go.Proofs.Ytfbkbppaignofaa
open Go.RowKit

namespace ET
def TwoPost (w : World) (k : Int) (cs : Array Value) (e : Ending) (w' : World) : Prop :=
  ∃ g, e = .returned (.agg #[.int .i64 k, .int .i64 0, .bool false, .int .i64 0, .slice (some ⟨g, 0, none⟩) 2 2]) ∧ Blk w' g cs 27 ∧ Below w.heap.size w w'

theorem two_any (k : Int) (k1 c1 : Int) (b1 : Bool) (n1 : Int) (A1 : Option Addr) (m1 p1 : Nat) (k2 c2 : Int) (b2 : Bool) (n2 : Int) (A2 : Option Addr) (m2 p2 : Nat) (w : World) :
    Calls Try.prog 18 #[.int .i64 k, .agg #[.int .i64 k1, .int .i64 c1, .bool b1, .int .i64 n1, .slice A1 m1 p1], .agg #[.int .i64 k2, .int .i64 c2, .bool b2, .int .i64 n2, .slice A2 m2 p2]] w
      (TwoPost w k #[.int .i64 k1, .int .i64 c1, .bool b1, .int .i64 n1, .slice A1 m1 p1, .int .i64 k2, .int .i64 c2, .bool b2, .int .i64 n2, .slice A2 m2 p2]) := by
  go_enter Try.func18, Try.ntmps18
  go_wp2_with fail
  exact bodyPost_ret (v := .agg #[.int .i64 k, .int .i64 0, .bool false, .int .i64 0, .slice (some ⟨w.heap.size + 1 + 1 + 1, 0, none⟩) 2 2]) (by simp [results, Try.results18, go_sem]) rfl
    ⟨_, rfl, Blk.new' (by simp), B_alloc (B_alloc (B_alloc (B_alloc (Below.refl _ _) _) _) _) _⟩

theorem on_two {w : World} {g : Nat} {s t : ET} {A A' : Option Addr} {cp cp' : Nat} {k c : Int} {b : Bool} {n : Int} (X : Blk w g #[.int .i64 s.k, .int .i64 s.c, .bool s.b, .int .i64 s.n, .slice A s.m cp, .int .i64 t.k, .int .i64 t.c, .bool t.b, .int .i64 t.n, .slice A' t.m cp'] 27) (hS : On w s A) (hT : On w t A') :
    On w (ET.mk k c b n 2 (fun i => if i = 0 then s else t)) (some ⟨g, 0, none⟩) :=
  at_kids.2 (fun _ => ⟨g, 0, rfl, X.lt, fun i hi => by
    have : i < 2 := hi
    by_cases h0 : i = 0
    · subst h0
      exact ⟨A, cp, X.cell 0 _ rfl, X.cell 1 _ rfl, X.cell 2 _ rfl, X.cell 3 _ rfl, X.cell 4 _ rfl, hS⟩
    · obtain rfl : i = 1 := by omega
      exact ⟨A', cp', X.cell 5 _ rfl, X.cell 6 _ rfl, X.cell 7 _ rfl, X.cell 8 _ rfl, X.cell 9 _ rfl, hT⟩⟩)

/-- An expression of two valid kids has a value. -/
theorem evB_two {k : Int} (hk : 3 ≤ k ∧ k ≤ 9) {s t : ET} {rn : Nat} {f : Nat → M.V} (h : okRow rn f = true) (hs : s.okE rn 7 = true) (ht : t.okE rn 7 = true) : (ET.mk k 0 false 0 2 (fun i => if i = 0 then s else t)).evB rn f = true := by
  refine evB_mk h ?_
  rw [okE_kids]
  simp only [Bool.and_eq_true, decide_eq_true_eq]
  refine ⟨⟨?_, ?_⟩, fun i hi => ⟨by omega, ?_⟩⟩
  · show ((2 : Nat) : Int) = ar k
    unfold ar
    rw [if_neg (by omega), if_neg (by omega), if_pos hk]
    rfl
  · show headOk k 0 false 0 rn = true
    unfold headOk
    rw [if_neg (by omega), if_neg (by omega)]
    rfl
  · show (if i = 0 then s else t).okE rn 7 = true
    split
    · exact hs
    · exact ht
theorem ev_pair2 {k : Int} (hk : 3 ≤ k ∧ k ≤ 9) {s t : ET} {f : Nat → M.V} : (ET.mk k 0 false 0 2 (fun i => if i = 0 then s else t)).ev f = M.comb k (s.ev f) (t.ev f) := ev_pair hk
theorem most_two {L : Nat} (hL : 2 ≤ L) {k : Int} {s t : ET} (hs : s.Most L) (ht : t.Most L) : (ET.mk k 0 false 0 2 (fun i => if i = 0 then s else t)).Most L :=
  most_kids.2 ⟨hL, fun i _ => by
    show (if i = 0 then s else t).Most L
    split
    · exact hs
    · exact ht⟩
theorem kid7 {t : ET} {rn : Nat} {f : Nat → M.V} (h : t.evB rn f = true) {i : Nat} (hi : i < t.m) : (t.kid i).okE rn 7 = true := ((okE_parts (evB_parts h).2).2.2 i hi).2
end ET

theorem andT_comm (a b : Int) : M.andT a b = M.andT b a := by
  unfold M.andT
  repeat' split
  all_goals omega
theorem comb_comm {k : Int} (hk : 3 ≤ k ∧ k ≤ 9) (h4 : ¬ k = 4) (h7 : ¬ k = 7) (x y : M.V) : M.comb k x y = M.comb k y x := by
  unfold M.comb
  by_cases h8 : k = 8
  · rw [if_pos h8, if_pos h8, andT_comm]
  · rw [if_neg h8, if_neg h8]
    by_cases h9 : k = 9
    · rw [if_pos h9, if_pos h9, andT_comm]
    · rw [if_neg h9, if_neg h9]
      by_cases hn : x.nul = true ∨ y.nul = true
      · rw [if_pos hn, if_pos hn.symm]
      · have hn' : ¬ (y.nul = true ∨ x.nul = true) := fun h => hn h.symm
        rw [if_neg hn, if_neg hn', Int.add_comm x.n y.n, Int.mul_comm x.n y.n]
        by_cases h3 : k = 3
        · rw [if_pos h3, if_pos h3]
        · rw [if_neg h3, if_neg h3, if_neg h4, if_neg h4]
          by_cases h5 : k = 5
          · rw [if_pos h5, if_pos h5]
          · rw [if_neg h5, if_neg h5, if_pos (by omega), if_pos (by omega)]
            have he : decide (x.n = y.n) = decide (y.n = x.n) := by rw [Bool.eq_iff_iff]; simp only [decide_eq_true_eq]; exact ⟨Eq.symm, Eq.symm⟩
            rw [he]
end Go.Proofs.Ytfbkbppaignofaa

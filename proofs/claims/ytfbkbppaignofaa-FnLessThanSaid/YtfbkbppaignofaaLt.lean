/-
  laws.isTrue, and of an expression of two kids.
-/
import Derived.Test.YtfbkbppaignofaaTwo
namespace Go.Proofs.Ytfbkbppaignofaa
open Go.RowKit

namespace ET
theorem isTrue_any (t : ET) (w : World) (A : Option Addr) (cp : Nat) (R : Option Addr) (rn rc : Nat) (f : Nat → M.V) (hT : On w t A) (hM : t.Most 2000000) (hR : RowAt w w.heap.size R rn f) (hrn : rn ≤ 2000000) :
    Calls Try.prog 20 #[.agg #[.int .i64 t.k, .int .i64 t.c, .bool t.b, .int .i64 t.n, .slice A t.m cp], .slice R rn rc] w fun e w' =>
      e = .returned (.bool (t.evB rn f && (!(t.evV rn f).nul && (t.evV rn f).n != 0))) ∧ Below w.heap.size w w' := by
  have HT := Lib.hid hT
  have HR := Lib.hid hR
  clear hT hR
  obtain ⟨ev, hev⟩ : ∃ x, x = t.evV rn f := ⟨_, rfl⟩
  obtain ⟨eb, heb⟩ : ∃ x, x = t.evB rn f := ⟨_, rfl⟩
  have HEV := Lib.hid hev
  have HEB := Lib.hid heb
  rw [← hev, ← heb]
  clear hev heb
  go_enter Try.func20, Try.ntmps20
  go_wp2_with fail
  have hbA := B_alloc (Below.refl w.heap.size w) (.cells #[.int .i64 t.k, .int .i64 t.c, .bool t.b, .int .i64 t.n, .slice A t.m cp] 27)
  have HB1 := Lib.hid hbA
  refine (ET.EvalExpr_any t _ A cp R rn rc f (HT.out.on hbA) hM (HR.out.on hbA) hrn).mono ?_
  rintro e w2 ⟨rfl, hb⟩
  have HB2 := Lib.hid (B_more HB1.out hb)
  clear hbA HB1 hb HT HR
  rw [← HEV.out, ← HEB.out]
  clear HEV HEB
  unfold vv
  have XV := Lib.hid (Blk.new' (w := w2) (cs := #[.bool ev.nul, .int .i64 ev.n]) (T := 24) (g := w2.heap.size) rfl)
  have HB3 := Lib.hid (B_alloc HB2.out (.cells #[.bool ev.nul, .int .i64 ev.n] 24))
  have b0 := XV.out.cell 0 _ rfl
  have b1 := XV.out.cell 1 _ rfl
  dsimp only [List.getElem_toArray, List.getElem_cons_zero, List.getElem_cons_succ] at b0 b1
  clear HB2
  cases eb
  · go_wp2_with fail
    go_ret
    exact ⟨rfl, HB3.out⟩
  · obtain ⟨nn, nv⟩ := ev
    dsimp only at b0 b1
    cases nn
    · go_wp2_with fail
      go_ret
      exact ⟨rfl, HB3.out⟩
    · go_wp2_with fail
      go_ret
      exact ⟨rfl, HB3.out⟩

theorem isTrue_two {k : Int} (hk : 3 ≤ k ∧ k ≤ 9) (s u : ET) (w : World) (g : Nat) (S U : Option Addr) (sp up : Nat) (R : Option Addr) (rn rc : Nat) (f : Nat → M.V)
    (X : Blk w g #[.int .i64 s.k, .int .i64 s.c, .bool s.b, .int .i64 s.n, .slice S s.m sp, .int .i64 u.k, .int .i64 u.c, .bool u.b, .int .i64 u.n, .slice U u.m up] 27)
    (hs : On w s S) (hu : On w u U) (ms : s.Most 2000000) (mu : u.Most 2000000) (hR : RowAt w w.heap.size R rn f) (hrn : rn ≤ 2000000) (hok : okRow rn f = true) (s7 : s.okE rn 7 = true) (u7 : u.okE rn 7 = true) :
    Calls Try.prog 20 #[.agg #[.int .i64 k, .int .i64 0, .bool false, .int .i64 0, .slice (some ⟨g, 0, none⟩) 2 2], .slice R rn rc] w fun e w' =>
      e = .returned (.bool (!(M.comb k (s.ev f) (u.ev f)).nul && (M.comb k (s.ev f) (u.ev f)).n != 0)) ∧ Below w.heap.size w w' := by
  have hb2 := ET.evB_two hk hok s7 u7
  have h := ET.isTrue_any (ET.mk k 0 false 0 2 (fun i => if i = 0 then s else u)) w (some ⟨g, 0, none⟩) 2 R rn rc f (ET.on_two X hs hu) (ET.most_two (by omega) ms mu) hR hrn
  rw [ET.evV_yes hb2, hb2, ET.ev_pair2 hk] at h
  exact h

theorem comb7 {a b : M.V} (ha : a.nul = false) (hb : b.nul = false) : (!(M.comb 7 a b).nul && (M.comb 7 a b).n != 0) = decide (a.n < b.n) := by
  unfold M.comb
  rw [if_neg (by omega), if_neg (by omega), if_neg (by simp [ha, hb]), if_neg (by omega), if_neg (by omega), if_neg (by omega), if_neg (by omega)]
  by_cases h : a.n < b.n <;> simp [M.oneIf, h]
theorem comb6 {a b : M.V} (ha : a.nul = false) (hb : b.nul = false) : (!(M.comb 6 a b).nul && (M.comb 6 a b).n != 0) = decide (a.n = b.n) := by
  unfold M.comb
  rw [if_neg (by omega), if_neg (by omega), if_neg (by simp [ha, hb]), if_neg (by omega), if_neg (by omega), if_neg (by omega), if_pos rfl]
  by_cases h : a.n = b.n <;> simp [M.oneIf, h]
theorem comb_nul {k : Int} (hk : k = 6 ∨ k = 7) {a b : M.V} (h : (M.comb k a b).nul = false) : a.nul = false ∧ b.nul = false := by
  unfold M.comb at h
  rw [if_neg (by omega), if_neg (by omega)] at h
  by_cases hn : a.nul = true ∨ b.nul = true
  · rw [if_pos hn] at h
    exact absurd h (by simp)
  · simpa using hn
end ET
end Go.Proofs.Ytfbkbppaignofaa

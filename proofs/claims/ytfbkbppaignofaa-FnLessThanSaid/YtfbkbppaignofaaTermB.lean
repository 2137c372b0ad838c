/-
  The terms of the program: two kids.
-/
import Derived.Test.YtfbkbppaignofaaTerm
namespace Go.Proofs.Ytfbkbppaignofaa
open Go.RowKit

theorem keep_twoB {w X w1 : World} {a1 a2 : Addr} {v1 v2 : Value} (h : X.cell? a1 = some v1 ∧ X.cell? a2 = some v2 ∧ Below w.heap.size w X) (hb : Below X.heap.size X w1) :
    w1.cell? a1 = some v1 ∧ w1.cell? a2 = some v2 ∧ Below w.heap.size w w1 :=
  ⟨keep_cell h.1 hb, keep_cell h.2.1 hb, B_more h.2.2 hb⟩
theorem keep_twoBA {w X : World} {a1 a2 : Addr} {v1 v2 : Value} (h : X.cell? a1 = some v1 ∧ X.cell? a2 = some v2 ∧ Below w.heap.size w X) (o : Obj) :
    (X.alloc o).cell? a1 = some v1 ∧ (X.alloc o).cell? a2 = some v2 ∧ Below w.heap.size w (X.alloc o) := keep_twoB h ((Below.refl _ _).alloc (Nat.le_refl _) _)
theorem keep_twoBS {w X : World} {g : Nat} {v1 v2 : Value} (h : X.cell? ⟨g, 0, none⟩ = some v1 ∧ X.cell? ⟨g, 1, none⟩ = some v2 ∧ Below w.heap.size w X) {r : Nat} (hr : w.heap.size ≤ r) (hg : g ≠ r) (u0 u1 : Value) :
    ((X.setCell ⟨r, 0, none⟩ u0).setCell ⟨r, 1, none⟩ u1).cell? ⟨g, 0, none⟩ = some v1 ∧ ((X.setCell ⟨r, 0, none⟩ u0).setCell ⟨r, 1, none⟩ u1).cell? ⟨g, 1, none⟩ = some v2 ∧ Below w.heap.size w ((X.setCell ⟨r, 0, none⟩ u0).setCell ⟨r, 1, none⟩ u1) := by
  obtain ⟨h0, h1, hB⟩ := h
  have e : ∀ o, ((X.setCell ⟨r, 0, none⟩ u0).setCell ⟨r, 1, none⟩ u1).cell? ⟨g, o, none⟩ = X.cell? ⟨g, o, none⟩ := fun o => by
    rw [World.cell?_setCell_other _ _ _ _ (by intro h; injection h with h; exact hg h.symm), World.cell?_setCell_other _ _ _ _ (by intro h; injection h with h; exact hg h.symm)]
  exact ⟨(e 0).trans h0, (e 1).trans h1, B_set (B_set hB hr _) hr _⟩

set_option maxHeartbeats 4000000 in
set_option maxRecDepth 100000 in
theorem truths_any (i j : Value) (x y : M.V) (w : World) (R : Option Addr) (rn rc : Nat) (f : Nat → M.V) (hR : RowAt w w.heap.size R rn f) (hi : Ans R rn rc f i x) (hj : Ans R rn rc f j y) :
    Calls Try.prog 105 #[.agg #[i, j], .slice R rn rc] w fun e w' => e = .returned (.tuple #[.int .i64 (M.itru x), .int .i64 (M.itru y)]) ∧ Below w.heap.size w w' := by
  obtain ⟨T, u, g, rfl, hn, hm, hg, hc⟩ := hi
  obtain ⟨T', u', g', rfl, hn', hm', hg', hc'⟩ := hj
  have HB := Lib.hid (B_alloc (Below.refl w.heap.size w) (.cells #[.iface T u, .iface T' u'] 89))
  have XP := Lib.hid (Blk.new' (w := w) (cs := #[.iface T u, .iface T' u']) (T := 89) (g := w.heap.size) rfl)
  have HC := Lib.hid hc
  have HC' := Lib.hid hc'
  have HR := Lib.hid hR
  clear hc hc' hR
  go_enter Try.func105, Try.ntmps105
  go_wp2_with fail
  obtain ⟨w0, hw0⟩ : ∃ x, x = w.alloc (.cells #[.iface T u, .iface T' u'] 89) := ⟨_, rfl⟩
  rw [← hw0] at HB XP
  rw [← hw0]
  clear hw0
  refine wp_region_held_drew (S := (fun w' => w'.cell? ⟨w.heap.size, 0, none⟩ = some (.iface T u) ∧ w'.cell? ⟨w.heap.size, 1, none⟩ = some (.iface T' u') ∧ Below w.heap.size w w')) (by kernel_rfl)
    ⟨XP.out.cell 0 _ rfl, XP.out.cell 1 _ rfl, HB.out.drew⟩ (fun hHeld => ?_)
  refine held_take 0 6 _ ?_ rfl rfl (by kernel_rfl) (by kernel_rfl) (by kernel_rfl) (fun _ _ _ h => h) (by kernel_rfl) (fun w' hSw => ?_) (by assumption) ?_
  rotate_left
  · ((try dsimp only at hSw); go_simp; (try with_reducible rfl))
  simp only [Act.put, List.setIfInBounds_toArray, List.set_cons_zero, List.set_cons_succ]
  refine held_take 1 7 _ ?_ rfl rfl (by kernel_rfl) (by kernel_rfl) (by kernel_rfl) (fun _ _ _ h => h) (by kernel_rfl) (fun w' hSw => ?_) (by assumption) ?_
  rotate_left
  · ((try dsimp only at hSw); go_simp; (try with_reducible rfl))
  simp only [Act.put, List.setIfInBounds_toArray, List.set_cons_zero, List.set_cons_succ]
  refine held_take 2 8 _ ?_ rfl rfl (by kernel_rfl) (by kernel_rfl) (by kernel_rfl) (fun _ _ _ h => h) (by kernel_rfl) (fun w' hSw => ?_) (by assumption) ?_
  rotate_left
  · ((try dsimp only at hSw); go_simp; (try with_reducible rfl))
  simp only [Act.put, List.setIfInBounds_toArray, List.set_cons_zero, List.set_cons_succ]
  refine held_take 5 11 _ ?_ rfl rfl (by kernel_rfl) (by kernel_rfl) (by kernel_rfl) (fun _ _ _ h => h) (by kernel_rfl) (fun w' hSw => ?_) (by assumption) ?_
  rotate_left
  · ((try dsimp only at hSw); go_simp; (try with_reducible rfl))
  simp only [Act.put, List.setIfInBounds_toArray, List.set_cons_zero, List.set_cons_succ]
  refine held_take 6 12 _ ?_ rfl rfl (by kernel_rfl) (by kernel_rfl) (by kernel_rfl) (fun _ _ _ h => h) (by kernel_rfl) (fun w' hSw => ?_) (by assumption) ?_
  rotate_left
  · ((try dsimp only at hSw); go_simp; (try with_reducible rfl))
  simp only [Act.put, List.setIfInBounds_toArray, List.set_cons_zero, List.set_cons_succ]
  refine held_take 7 13 _ ?_ rfl rfl (by kernel_rfl) (by kernel_rfl) (by kernel_rfl) (fun _ _ _ h => h) (by kernel_rfl) (fun w' hSw => ?_) (by assumption) ?_
  rotate_left
  · ((try dsimp only at hSw); go_simp; (try with_reducible rfl))
  simp only [Act.put, List.setIfInBounds_toArray, List.set_cons_zero, List.set_cons_succ]
  refine wpAnyH_ready (rs := [3]) (by kernel_rfl) (by simp) ?_
  refine AllReadyH.cons rfl (fun K hK => ?_) AllReadyH.nil
  go_wp2_with fail
  refine (HC.out _ (HR.out.on hHeld.2.2)).mono ?_; rintro e w1 ⟨rfl, hb⟩
  go_wp2_with fail
  refine hK.out _ _ (keep_twoB hHeld hb) (fun hHeld2 => ?_)
  clear hK K
  (try clear hHeld)
  (try simp only [Act.put, List.setIfInBounds_toArray, List.set_cons_zero, List.set_cons_succ])
  clear hb
  refine wpAnyH_ready (rs := [4]) (by kernel_rfl) (by simp) ?_
  refine AllReadyH.cons rfl (fun K hK => ?_) AllReadyH.nil
  go_simp
  refine (itruth_any _ _ _).mono ?_; rintro e w2 ⟨rfl, hb⟩
  go_wp2_with fail
  refine hK.out _ _ (keep_twoB hHeld2 hb) (fun hHeld2 => ?_)
  clear hK K
  (try clear hHeld)
  (try simp only [Act.put, List.setIfInBounds_toArray, List.set_cons_zero, List.set_cons_succ])
  clear hb
  refine wpAnyH_ready (rs := [8]) (by kernel_rfl) (by simp) ?_
  refine AllReadyH.cons rfl (fun K hK => ?_) AllReadyH.nil
  go_wp2_with fail
  refine (HC'.out _ (HR.out.on hHeld2.2.2)).mono ?_; rintro e w3 ⟨rfl, hb⟩
  go_wp2_with fail
  refine hK.out _ _ (keep_twoB hHeld2 hb) (fun hHeld2 => ?_)
  clear hK K
  (try clear hHeld)
  (try simp only [Act.put, List.setIfInBounds_toArray, List.set_cons_zero, List.set_cons_succ])
  clear hb
  refine wpAnyH_ready (rs := [9]) (by kernel_rfl) (by simp) ?_
  refine AllReadyH.cons rfl (fun K hK => ?_) AllReadyH.nil
  go_simp
  refine (itruth_any _ _ _).mono ?_; rintro e w4 ⟨rfl, hb⟩
  go_wp2_with fail
  refine hK.out _ _ (keep_twoB hHeld2 hb) (fun hHeld2 => ?_)
  clear hK K
  (try clear hHeld)
  (try simp only [Act.put, List.setIfInBounds_toArray, List.set_cons_zero, List.set_cons_succ])
  clear hb
  refine held_take 10 4 _ ?_ rfl rfl (by kernel_rfl) (by kernel_rfl) (by kernel_rfl) (fun _ _ _ h => h) (by kernel_rfl) (fun w' hSw => ?_) (by assumption) ?_
  rotate_left
  · ((try dsimp only at hSw); go_simp; (try with_reducible rfl))
  simp only [Act.put, List.setIfInBounds_toArray, List.set_cons_zero, List.set_cons_succ]
  refine held_take 11 5 _ ?_ rfl rfl (by kernel_rfl) (by kernel_rfl) (by kernel_rfl) (fun _ _ _ h => h) (by kernel_rfl) (fun w' hSw => ?_) (by assumption) ?_
  rotate_left
  · ((try dsimp only at hSw); go_simp; (try with_reducible rfl))
  simp only [Act.put, List.setIfInBounds_toArray, List.set_cons_zero, List.set_cons_succ]
  have HBZ := Lib.hid hHeld2.2.2
  refine wpAnyH_done (by kernel_rfl) ?_ _
  go_wp2_with fail
  go_ret2
  exact ⟨rfl, HBZ.out⟩

end Go.Proofs.Ytfbkbppaignofaa

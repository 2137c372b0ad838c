/-
  The walk of the model's combine.
-/
import Derived.Test.YtfbkbppaignofaaEv
namespace Go.Proofs.Ytfbkbppaignofaa
open Go.RowKit

theorem keep_fourB {w X w1 : World} {a1 a2 a3 a4 : Addr} {v1 v2 v3 v4 : Value} (h : X.cell? a1 = some v1 ∧ X.cell? a2 = some v2 ∧ X.cell? a3 = some v3 ∧ X.cell? a4 = some v4 ∧ Below w.heap.size w X) (hb : Below X.heap.size X w1) :
    w1.cell? a1 = some v1 ∧ w1.cell? a2 = some v2 ∧ w1.cell? a3 = some v3 ∧ w1.cell? a4 = some v4 ∧ Below w.heap.size w w1 :=
  ⟨keep_cell h.1 hb, keep_cell h.2.1 hb, keep_cell h.2.2.1 hb, keep_cell h.2.2.2.1 hb, B_more h.2.2.2.2 hb⟩
theorem keep_fourS {w X : World} {g h : Nat} {v1 v2 v3 v4 : Value} (hh : X.cell? ⟨g, 0, none⟩ = some v1 ∧ X.cell? ⟨g, 1, none⟩ = some v2 ∧ X.cell? ⟨h, 0, none⟩ = some v3 ∧ X.cell? ⟨h, 1, none⟩ = some v4 ∧ Below w.heap.size w X)
    {r : Nat} (h1 : g ≠ r) (h2 : h ≠ r) (h3 : w.heap.size ≤ r) (u0 u1 : Value) :
    ((X.setCell ⟨r, 0, none⟩ u0).setCell ⟨r, 1, none⟩ u1).cell? ⟨g, 0, none⟩ = some v1 ∧ ((X.setCell ⟨r, 0, none⟩ u0).setCell ⟨r, 1, none⟩ u1).cell? ⟨g, 1, none⟩ = some v2 ∧
      ((X.setCell ⟨r, 0, none⟩ u0).setCell ⟨r, 1, none⟩ u1).cell? ⟨h, 0, none⟩ = some v3 ∧ ((X.setCell ⟨r, 0, none⟩ u0).setCell ⟨r, 1, none⟩ u1).cell? ⟨h, 1, none⟩ = some v4 ∧ Below w.heap.size w ((X.setCell ⟨r, 0, none⟩ u0).setCell ⟨r, 1, none⟩ u1) := by
  have e : ∀ (b o : Nat), b ≠ r → ((X.setCell ⟨r, 0, none⟩ u0).setCell ⟨r, 1, none⟩ u1).cell? ⟨b, o, none⟩ = X.cell? ⟨b, o, none⟩ := fun b o hb => by
    rw [World.cell?_setCell_other _ _ _ _ (by intro h; injection h with h; exact hb h.symm), World.cell?_setCell_other _ _ _ _ (by intro h; injection h with h; exact hb h.symm)]
  refine ⟨?_, ?_, ?_, ?_, B_set (B_set hh.2.2.2.2 h3 _) h3 _⟩
  · rw [e g 0 h1]; exact hh.1
  · rw [e g 1 h1]; exact hh.2.1
  · rw [e h 0 h2]; exact hh.2.2.1
  · rw [e h 1 h2]; exact hh.2.2.2.1

set_option maxHeartbeats 4000000 in
set_option maxRecDepth 100000 in
theorem scombine_and (b1 : Bool) (n1 : Int) (b2 : Bool) (n2 : Int) (w : World) :
    Calls Try.prog 60 #[.int .i64 8, .agg #[.bool b1, .int .i64 n1], .agg #[.bool b2, .int .i64 n2]] w fun e w' => e = .returned (vv (M.comb 8 ⟨b1, n1⟩ ⟨b2, n2⟩)) ∧ Below w.heap.size w w' := by
  have HC := Lib.hid (show M.comb 8 ⟨b1, n1⟩ ⟨b2, n2⟩ = M.ofT (M.andT (M.tru ⟨b1, n1⟩) (M.tru ⟨b2, n2⟩)) from rfl)
  have t1 := M.tru_three ⟨b1, n1⟩
  have t2 := M.tru_three ⟨b2, n2⟩
  have HB := Lib.hid (B_alloc (B_alloc (B_alloc (Below.refl w.heap.size w) (.cells #[.bool b1, .int .i64 n1] 24)) (.cells #[.bool b2, .int .i64 n2] 24)) (.cells #[.bool false, .int .i64 0] 24))
  have XA := Lib.hid (((Blk.new' (w := w) (cs := #[.bool b1, .int .i64 n1]) (T := 24) (g := w.heap.size) rfl).alloc (.cells #[.bool b2, .int .i64 n2] 24)).alloc (.cells #[.bool false, .int .i64 0] 24))
  have XB := Lib.hid ((Blk.new' (w := w.alloc (.cells #[.bool b1, .int .i64 n1] 24)) (cs := #[.bool b2, .int .i64 n2]) (T := 24) (g := w.heap.size + 1) (by simp)).alloc (.cells #[.bool false, .int .i64 0] 24))
  have XR := Lib.hid (Blk.new' (w := (w.alloc (.cells #[.bool b1, .int .i64 n1] 24)).alloc (.cells #[.bool b2, .int .i64 n2] 24)) (cs := #[.bool false, .int .i64 0]) (T := 24) (g := w.heap.size + 1 + 1) (by simp))
  go_enter Try.func60, Try.ntmps60
  go_wp2_with fail
  obtain ⟨w0, hw0⟩ : ∃ x, x = ((w.alloc (.cells #[.bool b1, .int .i64 n1] 24)).alloc (.cells #[.bool b2, .int .i64 n2] 24)).alloc (.cells #[.bool false, .int .i64 0] 24) := ⟨_, rfl⟩
  rw [← hw0] at HB XA XB XR
  rw [← hw0]
  clear hw0
  refine wp_region_held_drew (S := (fun w' => w'.cell? ⟨w.heap.size, 0, none⟩ = some (.bool b1) ∧ w'.cell? ⟨w.heap.size, 1, none⟩ = some (.int .i64 n1) ∧ w'.cell? ⟨w.heap.size + 1, 0, none⟩ = some (.bool b2) ∧ w'.cell? ⟨w.heap.size + 1, 1, none⟩ = some (.int .i64 n2) ∧ Below w.heap.size w w')) (by kernel_rfl)
    ⟨XA.out.cell 0 _ rfl, XA.out.cell 1 _ rfl, XB.out.cell 0 _ rfl, XB.out.cell 1 _ rfl, HB.out.drew⟩ (fun hHeld => ?_)
  refine held_take 0 10 _ ?_ rfl rfl (by kernel_rfl) (by kernel_rfl) (by kernel_rfl) (fun _ _ _ h => h) (by kernel_rfl) (fun w' hSw => ?_) (by assumption) ?_
  rotate_left
  · ((try dsimp only at hSw); go_simp; (try with_reducible rfl))
  simp only [Act.put, List.setIfInBounds_toArray, List.set_cons_zero, List.set_cons_succ]
  refine held_take 2 12 _ ?_ rfl rfl (by kernel_rfl) (by kernel_rfl) (by kernel_rfl) (fun _ _ _ h => h) (by kernel_rfl) (fun w' hSw => ?_) (by assumption) ?_
  rotate_left
  · ((try dsimp only at hSw); go_simp; (try with_reducible rfl))
  simp only [Act.put, List.setIfInBounds_toArray, List.set_cons_zero, List.set_cons_succ]
  have XR1 := Lib.hid XR.out.drew
  refine wpAnyH_ready (rs := [1]) (by kernel_rfl) (by simp) ?_
  refine AllReadyH.cons rfl (fun K hK => ?_) AllReadyH.nil
  go_simp
  refine (struth_any b1 n1 _).mono ?_; rintro e w1 ⟨rfl, hb⟩
  go_wp2_with fail
  refine hK.out _ _ (keep_fourB hHeld hb) (fun hHeld2 => ?_)
  clear hK K
  (try clear hHeld)
  (try simp only [Act.put, List.setIfInBounds_toArray, List.set_cons_zero, List.set_cons_succ])
  have XR2 := Lib.hid (XR1.out.below hb)
  clear hb
  refine wpAnyH_ready (rs := [3]) (by kernel_rfl) (by simp) ?_
  refine AllReadyH.cons rfl (fun K hK => ?_) AllReadyH.nil
  go_simp
  refine (struth_any b2 n2 _).mono ?_; rintro e w2 ⟨rfl, hb⟩
  go_wp2_with fail
  refine hK.out _ _ (keep_fourB hHeld2 hb) (fun hHeld2 => ?_)
  clear hK K
  (try clear hHeld)
  (try simp only [Act.put, List.setIfInBounds_toArray, List.set_cons_zero, List.set_cons_succ])
  have XR3 := Lib.hid (XR2.out.below hb)
  clear hb
  refine wpAnyH_ready (rs := [4]) (by kernel_rfl) (by simp) ?_
  refine AllReadyH.cons rfl (fun K hK => ?_) AllReadyH.nil
  go_simp
  refine (sandTruth_any _ _ t1 t2 _).mono ?_; rintro e w2 ⟨rfl, rfl⟩
  go_wp2_with fail
  refine hK.out _ _ (hHeld2) (fun hHeld2 => ?_)
  clear hK K
  (try clear hHeld)
  (try simp only [Act.put, List.setIfInBounds_toArray, List.set_cons_zero, List.set_cons_succ])
  refine wpAnyH_ready (rs := [5]) (by kernel_rfl) (by simp) ?_
  refine AllReadyH.cons rfl (fun K hK => ?_) AllReadyH.nil
  go_simp
  refine (sofTruth_any _ _).mono ?_; rintro e w4 ⟨rfl, hb⟩
  go_wp2_with fail
  refine hK.out _ _ (keep_fourB hHeld2 hb) (fun hHeld2 => ?_)
  clear hK K
  (try clear hHeld)
  (try simp only [Act.put, List.setIfInBounds_toArray, List.set_cons_zero, List.set_cons_succ])
  have XR5 := Lib.hid (XR3.out.below hb)
  clear hb
  have r0 := XR5.out.cell 0 _ rfl
  have r1 := XR5.out.cell 1 _ rfl
  have q0 := XR5.out.free 0
  have q1 := XR5.out.free 1
  dsimp only [List.getElem_toArray, List.getElem_cons_zero, List.getElem_cons_succ] at r0 r1
  unfold vv
  refine wpAnyH_ready (rs := [6]) (by kernel_rfl) (by simp) ?_
  refine AllReadyH.cons rfl (fun K hK => ?_) AllReadyH.nil
  go_wp2_with fail
  refine hK.out _ _ (keep_fourS hHeld2 (by omega) (by omega) (by omega) _ _) (fun hHeld3 => ?_)
  clear hK K
  have HBZ := Lib.hid hHeld3.2.2.2.2
  refine wpAnyH_done (by kernel_rfl) ?_ _
  go_wp2_with fail
  exact bodyPost_ret (v := vv (M.ofT (M.andT (M.tru ⟨b1, n1⟩) (M.tru ⟨b2, n2⟩)))) (by simp [results, Try.results60, go_sem, r0, r1, vv]) rfl ⟨ret_V HC.out.symm, HBZ.out⟩

set_option maxHeartbeats 4000000 in
set_option maxRecDepth 100000 in
theorem scombine_or (b1 : Bool) (n1 : Int) (b2 : Bool) (n2 : Int) (w : World) :
    Calls Try.prog 60 #[.int .i64 9, .agg #[.bool b1, .int .i64 n1], .agg #[.bool b2, .int .i64 n2]] w fun e w' => e = .returned (vv (M.comb 9 ⟨b1, n1⟩ ⟨b2, n2⟩)) ∧ Below w.heap.size w w' := by
  have HC := Lib.hid (show M.comb 9 ⟨b1, n1⟩ ⟨b2, n2⟩ = M.ofT (M.notT (M.andT (M.notT (M.tru ⟨b1, n1⟩)) (M.notT (M.tru ⟨b2, n2⟩)))) from rfl)
  have t1 := M.tru_three ⟨b1, n1⟩
  have t2 := M.tru_three ⟨b2, n2⟩
  have HB := Lib.hid (B_alloc (B_alloc (B_alloc (Below.refl w.heap.size w) (.cells #[.bool b1, .int .i64 n1] 24)) (.cells #[.bool b2, .int .i64 n2] 24)) (.cells #[.bool false, .int .i64 0] 24))
  have XA := Lib.hid (((Blk.new' (w := w) (cs := #[.bool b1, .int .i64 n1]) (T := 24) (g := w.heap.size) rfl).alloc (.cells #[.bool b2, .int .i64 n2] 24)).alloc (.cells #[.bool false, .int .i64 0] 24))
  have XB := Lib.hid ((Blk.new' (w := w.alloc (.cells #[.bool b1, .int .i64 n1] 24)) (cs := #[.bool b2, .int .i64 n2]) (T := 24) (g := w.heap.size + 1) (by simp)).alloc (.cells #[.bool false, .int .i64 0] 24))
  have XR := Lib.hid (Blk.new' (w := (w.alloc (.cells #[.bool b1, .int .i64 n1] 24)).alloc (.cells #[.bool b2, .int .i64 n2] 24)) (cs := #[.bool false, .int .i64 0]) (T := 24) (g := w.heap.size + 1 + 1) (by simp))
  go_enter Try.func60, Try.ntmps60
  go_wp2_with fail
  obtain ⟨w0, hw0⟩ : ∃ x, x = ((w.alloc (.cells #[.bool b1, .int .i64 n1] 24)).alloc (.cells #[.bool b2, .int .i64 n2] 24)).alloc (.cells #[.bool false, .int .i64 0] 24) := ⟨_, rfl⟩
  rw [← hw0] at HB XA XB XR
  rw [← hw0]
  clear hw0
  refine wp_region_held_drew (S := (fun w' => w'.cell? ⟨w.heap.size, 0, none⟩ = some (.bool b1) ∧ w'.cell? ⟨w.heap.size, 1, none⟩ = some (.int .i64 n1) ∧ w'.cell? ⟨w.heap.size + 1, 0, none⟩ = some (.bool b2) ∧ w'.cell? ⟨w.heap.size + 1, 1, none⟩ = some (.int .i64 n2) ∧ Below w.heap.size w w')) (by kernel_rfl)
    ⟨XA.out.cell 0 _ rfl, XA.out.cell 1 _ rfl, XB.out.cell 0 _ rfl, XB.out.cell 1 _ rfl, HB.out.drew⟩ (fun hHeld => ?_)
  refine held_take 0 18 _ ?_ rfl rfl (by kernel_rfl) (by kernel_rfl) (by kernel_rfl) (fun _ _ _ h => h) (by kernel_rfl) (fun w' hSw => ?_) (by assumption) ?_
  rotate_left
  · ((try dsimp only at hSw); go_simp; (try with_reducible rfl))
  simp only [Act.put, List.setIfInBounds_toArray, List.set_cons_zero, List.set_cons_succ]
  refine held_take 3 21 _ ?_ rfl rfl (by kernel_rfl) (by kernel_rfl) (by kernel_rfl) (fun _ _ _ h => h) (by kernel_rfl) (fun w' hSw => ?_) (by assumption) ?_
  rotate_left
  · ((try dsimp only at hSw); go_simp; (try with_reducible rfl))
  simp only [Act.put, List.setIfInBounds_toArray, List.set_cons_zero, List.set_cons_succ]
  have XR1 := Lib.hid XR.out.drew
  refine wpAnyH_ready (rs := [1]) (by kernel_rfl) (by simp) ?_
  refine AllReadyH.cons rfl (fun K hK => ?_) AllReadyH.nil
  go_simp
  refine (struth_any b1 n1 _).mono ?_; rintro e w1 ⟨rfl, hb⟩
  go_wp2_with fail
  refine hK.out _ _ (keep_fourB hHeld hb) (fun hHeld2 => ?_)
  clear hK K
  (try clear hHeld)
  (try simp only [Act.put, List.setIfInBounds_toArray, List.set_cons_zero, List.set_cons_succ])
  have XR2 := Lib.hid (XR1.out.below hb)
  clear hb
  refine wpAnyH_ready (rs := [2]) (by kernel_rfl) (by simp) ?_
  refine AllReadyH.cons rfl (fun K hK => ?_) AllReadyH.nil
  go_simp
  refine (snotTruth_any _ t1 _).mono ?_; rintro e w1 ⟨rfl, rfl⟩
  go_wp2_with fail
  refine hK.out _ _ (hHeld2) (fun hHeld2 => ?_)
  clear hK K
  (try clear hHeld)
  (try simp only [Act.put, List.setIfInBounds_toArray, List.set_cons_zero, List.set_cons_succ])
  refine wpAnyH_ready (rs := [4]) (by kernel_rfl) (by simp) ?_
  refine AllReadyH.cons rfl (fun K hK => ?_) AllReadyH.nil
  go_simp
  refine (struth_any b2 n2 _).mono ?_; rintro e w2 ⟨rfl, hb⟩
  go_wp2_with fail
  refine hK.out _ _ (keep_fourB hHeld2 hb) (fun hHeld2 => ?_)
  clear hK K
  (try clear hHeld)
  (try simp only [Act.put, List.setIfInBounds_toArray, List.set_cons_zero, List.set_cons_succ])
  have XR3 := Lib.hid (XR2.out.below hb)
  clear hb
  refine wpAnyH_ready (rs := [5]) (by kernel_rfl) (by simp) ?_
  refine AllReadyH.cons rfl (fun K hK => ?_) AllReadyH.nil
  go_simp
  refine (snotTruth_any _ t2 _).mono ?_; rintro e w2 ⟨rfl, rfl⟩
  go_wp2_with fail
  refine hK.out _ _ (hHeld2) (fun hHeld2 => ?_)
  clear hK K
  (try clear hHeld)
  (try simp only [Act.put, List.setIfInBounds_toArray, List.set_cons_zero, List.set_cons_succ])
  refine wpAnyH_ready (rs := [6]) (by kernel_rfl) (by simp) ?_
  refine AllReadyH.cons rfl (fun K hK => ?_) AllReadyH.nil
  go_simp
  refine (sandTruth_any _ _ (M.notT_three t1) (M.notT_three t2) _).mono ?_; rintro e w2 ⟨rfl, rfl⟩
  go_wp2_with fail
  refine hK.out _ _ (hHeld2) (fun hHeld2 => ?_)
  clear hK K
  (try clear hHeld)
  (try simp only [Act.put, List.setIfInBounds_toArray, List.set_cons_zero, List.set_cons_succ])
  refine wpAnyH_ready (rs := [7]) (by kernel_rfl) (by simp) ?_
  refine AllReadyH.cons rfl (fun K hK => ?_) AllReadyH.nil
  go_simp
  refine (snotTruth_any _ M.andT_three _).mono ?_; rintro e w2 ⟨rfl, rfl⟩
  go_wp2_with fail
  refine hK.out _ _ (hHeld2) (fun hHeld2 => ?_)
  clear hK K
  (try clear hHeld)
  (try simp only [Act.put, List.setIfInBounds_toArray, List.set_cons_zero, List.set_cons_succ])
  refine wpAnyH_ready (rs := [8]) (by kernel_rfl) (by simp) ?_
  refine AllReadyH.cons rfl (fun K hK => ?_) AllReadyH.nil
  go_simp
  refine (sofTruth_any _ _).mono ?_; rintro e w4 ⟨rfl, hb⟩
  go_wp2_with fail
  refine hK.out _ _ (keep_fourB hHeld2 hb) (fun hHeld2 => ?_)
  clear hK K
  (try clear hHeld)
  (try simp only [Act.put, List.setIfInBounds_toArray, List.set_cons_zero, List.set_cons_succ])
  have XR5 := Lib.hid (XR3.out.below hb)
  clear hb
  have r0 := XR5.out.cell 0 _ rfl
  have r1 := XR5.out.cell 1 _ rfl
  have q0 := XR5.out.free 0
  have q1 := XR5.out.free 1
  dsimp only [List.getElem_toArray, List.getElem_cons_zero, List.getElem_cons_succ] at r0 r1
  unfold vv
  refine wpAnyH_ready (rs := [9]) (by kernel_rfl) (by simp) ?_
  refine AllReadyH.cons rfl (fun K hK => ?_) AllReadyH.nil
  go_wp2_with fail
  refine hK.out _ _ (keep_fourS hHeld2 (by omega) (by omega) (by omega) _ _) (fun hHeld3 => ?_)
  clear hK K
  have HBZ := Lib.hid hHeld3.2.2.2.2
  refine wpAnyH_done (by kernel_rfl) ?_ _
  go_wp2_with fail
  exact bodyPost_ret (v := vv (M.ofT (M.notT (M.andT (M.notT (M.tru ⟨b1, n1⟩)) (M.notT (M.tru ⟨b2, n2⟩)))))) (by simp [results, Try.results60, go_sem, r0, r1, vv]) rfl ⟨ret_V HC.out.symm, HBZ.out⟩

end Go.Proofs.Ytfbkbppaignofaa

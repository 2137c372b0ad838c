/-
  The walk of the exact law on ExprSize.
-/
import Derived.Test.YtfbkbppaignofaaOpenE
import Derived.Test.YtfbkbppaignofaaTreeS
import Derived.Test.YtfbkbppaignofaaTreeU
import Derived.Test.YtfbkbppaignofaaTreeE
import Derived.Test.YtfbkbppaignofaaSizeE
namespace Go.Proofs.Ytfbkbppaignofaa
open Go.RowKit

set_option maxHeartbeats 4000000 in
set_option maxRecDepth 100000 in
theorem walk_FnExactExprSize (v0 : Value) (x0 : TreeX) (w : World) (h0 : IsTree w v0 x0) :
    Calls Try.prog 12 #[v0] w fun e w' => e = .returned (.bool true) ∧ Below w.heap.size w w' := by
  obtain ⟨t, A, cp⟩ := x0
  obtain ⟨rfl, hA, hM⟩ := h0
  dsimp only at hA hM ⊢
  have HB := Lib.hid (B_alloc (Below.refl w.heap.size w) (.cells #[.int .i64 t.k, .int .i64 t.c, .bool t.b, .int .i64 t.n, .slice A t.m cp] 42))
  have HA := Lib.hid (hA.on HB.out)
  have HS := Lib.hid (ET.szExpr_any t (w.alloc (.cells #[.int .i64 t.k, .int .i64 t.c, .bool t.b, .int .i64 t.n, .slice A t.m cp] 42)) A cp 1048576 HA.out hM (by omega) (by omega))
  unfold ET.val at HS ⊢
  clear hA hM
  rcases ET.measured (t := t) (l := 1048576) (by omega) (by omega) with hs | ⟨hs0, hs1, hmo⟩
  · rw [hs] at HS
    clear hs
    go_enter Try.func12, Try.ntmps12
    go_wp2_with fail
    refine HS.out.mono ?_; rintro e w1 ⟨rfl, hb⟩
    have HB1 := Lib.hid (B_more HB.out hb)
    clear hb
    go_wp2_with fail
    go_ret
    exact ⟨rfl, HB1.out⟩
  · obtain ⟨y, hy⟩ : ∃ y, y = t.sz 1048576 := ⟨_, rfl⟩
    rw [← hy] at HS hs0 hs1
    clear hy
    have HM := Lib.hid hmo
    go_enter Try.func12, Try.ntmps12
    go_wp2_with fail
    refine HS.out.mono ?_; rintro e w1 ⟨rfl, hb⟩
    have HB1 := Lib.hid (B_more HB.out hb)
    have XA := Lib.hid (((Blk.new' (g := w.heap.size) (by simp))).below hb)
    have HA1 := Lib.hid (HA.out.on hb)
    clear hb HB HA HS
    have a0 := XA.out.cell 0 _ rfl
    have a1 := XA.out.cell 1 _ rfl
    have a2 := XA.out.cell 2 _ rfl
    have a3 := XA.out.cell 3 _ rfl
    have a4 := XA.out.cell 4 _ rfl
    dsimp only [List.getElem_toArray, List.getElem_cons_zero, List.getElem_cons_succ] at a0 a1 a2 a3 a4
    go_wp2_with fail
    refine ((ET.toExpr_any t) _ A cp HA1.out HM.out).mono ?_; rintro e w2 ⟨A2, rfl, hT, hb⟩
    have HB2 := Lib.hid (B_more HB1.out hb)
    have XA2 := Lib.hid (XA.out.below hb)
    have HA2 := Lib.hid (HA1.out.on hb)
    have T2 := Lib.hid (hT.isOn)
    clear hb hT HB1 XA HA1 a0 a1 a2 a3 a4
    unfold ET.val
    go_wp2_with fail
    refine ((ET.sExprSize_any t) _ A2 t.m T2.out (ET.Most.up (by omega) HM.out)).mono ?_; rintro e w3 ⟨rfl, hb⟩
    have HB3 := Lib.hid (B_more HB2.out hb)
    have XA3 := Lib.hid (XA2.out.below hb)
    have HA3 := Lib.hid (HA2.out.on hb)
    clear hb HB2 XA2 HA2 T2
    have a0 := XA3.out.cell 0 _ rfl
    have a1 := XA3.out.cell 1 _ rfl
    have a2 := XA3.out.cell 2 _ rfl
    have a3 := XA3.out.cell 3 _ rfl
    have a4 := XA3.out.cell 4 _ rfl
    dsimp only [List.getElem_toArray, List.getElem_cons_zero, List.getElem_cons_succ] at a0 a1 a2 a3 a4
    go_wp2_with fail
    refine ((ET.toExpr_any t) _ A cp HA3.out HM.out).mono ?_; rintro e w4 ⟨A4, rfl, hT, hb⟩
    have HB4 := Lib.hid (B_more HB3.out hb)
    have XA4 := Lib.hid (XA3.out.below hb)
    have HA4 := Lib.hid (HA3.out.on hb)
    have T4 := Lib.hid (hT.isOn)
    clear hb hT HB3 XA3 HA3 a0 a1 a2 a3 a4
    unfold ET.val
    go_wp2_with fail
    have HB4' := Lib.hid (B_alloc HB4.out (.cells #[.int .i64 t.k, .int .i64 t.c, .bool t.b, .int .i64 t.n, .slice A4 t.m t.m] 27))
    have XX := Lib.hid (Blk.new' (w := w4) (cs := #[.int .i64 t.k, .int .i64 t.c, .bool t.b, .int .i64 t.n, .slice A4 t.m t.m]) (T := 27) (g := w4.heap.size) rfl)
    have hbA := B_alloc (Below.refl w4.heap.size w4) (.cells #[.int .i64 t.k, .int .i64 t.c, .bool t.b, .int .i64 t.n, .slice A4 t.m t.m] 27)
    have XA4' := Lib.hid (XA4.out.below hbA)
    have HA4' := Lib.hid (HA4.out.on hbA)
    have T4' := Lib.hid (T4.out.on hbA)
    clear hbA HB4 XA4 HA4 T4
    refine ((ET.ExprSize_any t) _ A4 t.m T4'.out (ET.Most.up (by omega) HM.out)).mono ?_; rintro e w5 ⟨rfl, hb⟩
    have HB5 := Lib.hid (B_more HB4'.out hb)
    have XA5 := Lib.hid (XA4'.out.below hb)
    have XX5 := Lib.hid (XX.out.below hb)
    have HA5 := Lib.hid (HA4'.out.on hb)
    have T5 := Lib.hid (T4'.out.on hb)
    clear hb HB4' XA4' HA4' T4' XX
    have a0 := XA5.out.cell 0 _ rfl
    have a1 := XA5.out.cell 1 _ rfl
    have a2 := XA5.out.cell 2 _ rfl
    have a3 := XA5.out.cell 3 _ rfl
    have a4 := XA5.out.cell 4 _ rfl
    dsimp only [List.getElem_toArray, List.getElem_cons_zero, List.getElem_cons_succ] at a0 a1 a2 a3 a4
    have b0 := XX5.out.cell 0 _ rfl
    have b1 := XX5.out.cell 1 _ rfl
    have b2 := XX5.out.cell 2 _ rfl
    have b3 := XX5.out.cell 3 _ rfl
    have b4 := XX5.out.cell 4 _ rfl
    dsimp only [List.getElem_toArray, List.getElem_cons_zero, List.getElem_cons_succ] at b0 b1 b2 b3 b4
    go_wp2_with fail
    have HB5' := Lib.hid (HB5.out.drew)
    have HA5' := Lib.hid (HA5.out.on (Below.refl _ _).drew)
    have T5' := Lib.hid (T5.out.on (Below.refl _ _).drew)
    clear HB5 XA5 XX5 HA5 T5
    refine wp_region_held_drew (S := (fun w' => w'.cell? ⟨w4.heap.size, 0, none⟩ = some (.int .i64 t.k) ∧ w'.cell? ⟨w4.heap.size, 1, none⟩ = some (.int .i64 t.c) ∧ w'.cell? ⟨w4.heap.size, 2, none⟩ = some (.bool t.b) ∧ w'.cell? ⟨w4.heap.size, 3, none⟩ = some (.int .i64 t.n) ∧ w'.cell? ⟨w4.heap.size, 4, none⟩ = some (.slice A4 t.m t.m) ∧ w'.cell? ⟨w.heap.size, 0, none⟩ = some (.int .i64 t.k) ∧ w'.cell? ⟨w.heap.size, 1, none⟩ = some (.int .i64 t.c) ∧ w'.cell? ⟨w.heap.size, 2, none⟩ = some (.bool t.b) ∧ w'.cell? ⟨w.heap.size, 3, none⟩ = some (.int .i64 t.n) ∧ w'.cell? ⟨w.heap.size, 4, none⟩ = some (.slice A t.m cp) ∧ Below w5.heap.size w5 w')) (by kernel_rfl) (init_ten b0 b1 b2 b3 b4 a0 a1 a2 a3 a4) (fun hHeld => ?_)
    refine held_take 0 22 _ ?_ rfl rfl (by kernel_rfl) (by kernel_rfl) (by kernel_rfl) (fun _ _ _ h => h) (by kernel_rfl) (fun w' hSw => ?_) (by assumption) ?_
    rotate_left
    · ((try dsimp only at hSw); go_simp; (try with_reducible rfl))
    simp only [Act.put, List.setIfInBounds_toArray, List.set_cons_zero, List.set_cons_succ]
    refine held_take 1 23 _ ?_ rfl rfl (by kernel_rfl) (by kernel_rfl) (by kernel_rfl) (fun _ _ _ h => h) (by kernel_rfl) (fun w' hSw => ?_) (by assumption) ?_
    rotate_left
    · ((try dsimp only at hSw); go_simp; (try with_reducible rfl))
    simp only [Act.put, List.setIfInBounds_toArray, List.set_cons_zero, List.set_cons_succ]
    refine wpAnyH_ready (rs := [2]) (by kernel_rfl) (by simp) ?_
    refine AllReadyH.cons rfl (fun K hK => ?_) AllReadyH.nil
    go_simp
    refine ((ET.toExpr_any t) _ A cp HA5'.out HM.out).mono ?_; rintro e w6 ⟨A6, rfl, hT, hb⟩
    go_wp2_with fail
    refine hK.out _ _ (keep_ten hHeld hb) (fun hHeld2 => ?_)
    clear hK K
    (try clear hHeld)
    (try simp only [Act.put, List.setIfInBounds_toArray, List.set_cons_zero, List.set_cons_succ])
    have HB6 := Lib.hid (B_more HB5'.out hb)
    have T6 := Lib.hid (hT.isOn)
    have T5 := Lib.hid (T5'.out.on hb)
    clear hb hT HB5' HA5' T5' a0 a1 a2 a3 a4 b0 b1 b2 b3 b4
    unfold ET.val
    refine wpAnyH_ready (rs := [3]) (by kernel_rfl) (by simp) ?_
    refine AllReadyH.cons rfl (fun K hK => ?_) AllReadyH.nil
    go_simp
    refine ((ET.eqExpr_any t) _ A4 A6 t.m t.m T5.out T6.out (ET.Most.up (by omega) HM.out)).mono ?_; rintro e w7 ⟨rfl, hb⟩
    go_wp2_with fail
    refine hK.out _ _ (keep_ten hHeld2 hb) (fun hHeld2 => ?_)
    clear hK K
    (try clear hHeld)
    (try simp only [Act.put, List.setIfInBounds_toArray, List.set_cons_zero, List.set_cons_succ])
    have HB7 := Lib.hid (B_more HB6.out hb)
    clear hb
    refine held_take 4 26 _ ?_ rfl rfl (by kernel_rfl) (by kernel_rfl) (by kernel_rfl) (fun _ _ _ h => h) (by kernel_rfl) (fun w' hSw => ?_) (by assumption) ?_
    rotate_left
    · ((try dsimp only at hSw); go_simp; (try with_reducible rfl))
    simp only [Act.put, List.setIfInBounds_toArray, List.set_cons_zero, List.set_cons_succ]
    refine wpAnyH_done (by kernel_rfl) ?_ _
    go_wp2_with fail
    go_ret
    exact ⟨rfl, HB7.out⟩
end Go.Proofs.Ytfbkbppaignofaa

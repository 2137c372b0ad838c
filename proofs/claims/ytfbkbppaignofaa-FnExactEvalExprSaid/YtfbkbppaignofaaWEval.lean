/-
  The walk of the exact law on EvalExpr.
-/
import Derived.Test.YtfbkbppaignofaaOpenE
import Derived.Test.YtfbkbppaignofaaTreeS
import Derived.Test.YtfbkbppaignofaaTreeU
import Derived.Test.YtfbkbppaignofaaTreeE
import Derived.Test.YtfbkbppaignofaaEvalX
import Derived.Test.YtfbkbppaignofaaOpenR
namespace Go.Proofs.Ytfbkbppaignofaa
open Go.RowKit

set_option maxHeartbeats 4000000 in
set_option maxRecDepth 100000 in
theorem walk_FnExactEvalExpr (v0 : Value) (x0 : TreeX) (v1 : Value) (x1 : LineX) (w : World) (h0 : IsTree w v0 x0) (h1 : IsLine w v1 x1) :
    Calls Try.prog 11 #[v0, v1] w fun e w' => e = .returned (.bool true) ∧ Below w.heap.size w w' := by
  obtain ⟨t, A, cp⟩ := x0
  obtain ⟨rfl, hA, hM⟩ := h0
  obtain ⟨R, rn, rc, f⟩ := x1
  obtain ⟨rfl, hR, hrn⟩ := h1
  dsimp only at hA hM hR hrn ⊢
  have HB := Lib.hid (B_alloc (Below.refl w.heap.size w) (.cells #[.int .i64 t.k, .int .i64 t.c, .bool t.b, .int .i64 t.n, .slice A t.m cp] 42))
  have HA := Lib.hid (hA.on HB.out)
  have HR := Lib.hid (hR.on HB.out)
  clear hR
  have HS := Lib.hid (ET.szExpr_any t (w.alloc (.cells #[.int .i64 t.k, .int .i64 t.c, .bool t.b, .int .i64 t.n, .slice A t.m cp] 42)) A cp 1048576 HA.out hM (by omega) (by omega))
  unfold ET.val at HS ⊢
  clear hA hM
  rcases ET.measured (t := t) (l := 1048576) (by omega) (by omega) with hs | ⟨hs0, hs1, hmo⟩
  · rw [hs] at HS
    clear hs
    go_enter Try.func11, Try.ntmps11
    go_wp2_with fail
    refine HS.out.mono ?_; rintro e w1 ⟨rfl, hb⟩
    have HB1 := Lib.hid (B_more HB.out hb)
    clear hb
    go_wp2_with fail
    go_ret
    exact ⟨rfl, HB1.out⟩
  · obtain ⟨y, hy⟩ : ∃ y, y = t.sz 1048576 := ⟨_, rfl⟩
    rw [← hy] at HS hs0 hs1
    clear hy
    have HM := Lib.hid hmo
    go_enter Try.func11, Try.ntmps11
    go_wp2_with fail
    refine HS.out.mono ?_; rintro e w1 ⟨rfl, hb⟩
    have HB1 := Lib.hid (B_more HB.out hb)
    have XA := Lib.hid (((Blk.new' (g := w.heap.size) (by simp))).below hb)
    have HA1 := Lib.hid (HA.out.on hb)
    have HR1 := Lib.hid (HR.out.on hb)
    clear hb HB HA HS HR
    have a0 := XA.out.cell 0 _ rfl
    have a1 := XA.out.cell 1 _ rfl
    have a2 := XA.out.cell 2 _ rfl
    have a3 := XA.out.cell 3 _ rfl
    have a4 := XA.out.cell 4 _ rfl
    dsimp only [List.getElem_toArray, List.getElem_cons_zero, List.getElem_cons_succ] at a0 a1 a2 a3 a4
    by_cases hn1 : y - (rn : Int) < 0
    · have K := Lib.hid (szS_neg hn1)
      clear hn1
      go_wp2_with fail
      refine (szValueS_any _ R rn rc y hs0 hs1 hrn).mono ?_; rintro e w' ⟨rfl, rfl⟩
      rw [K.out]
      go_wp2_with fail
      go_ret
      exact ⟨rfl, HB1.out⟩
    · have hrn2 : rn ≤ 1048576 := by omega
      have K := Lib.hid (szS_pos hn1)
      have hpos : ¬ y - (rn : Int) < 0 := hn1
      clear hn1
      go_wp2_with fail
      refine (szValueS_any _ R rn rc y hs0 hs1 hrn).mono ?_; rintro e w' ⟨rfl, rfl⟩
      rw [K.out]
      go_wp2_with fail
      refine ((ET.toExpr_any t) _ A cp HA1.out HM.out).mono ?_; rintro e w2 ⟨A2, rfl, hT, hb⟩
      have HB_2 := Lib.hid (B_more HB1.out hb)
      have XA_2 := Lib.hid (XA.out.below hb)
      have HA_2 := Lib.hid (HA1.out.on hb)
      have HR_2 := Lib.hid (HR1.out.on hb)
      have T1_2 := Lib.hid (hT.isOn)
      clear hb XA HA1 HR1 HB1 hT a0 a1 a2 a3 a4
      unfold ET.val
      go_wp2_with fail
      refine (toValueS_any _ R rn rc f HR_2.out hrn2).mono ?_; rintro e w3 ⟨g3, rfl, _, hg3, hb⟩
      have HB_3 := Lib.hid (B_more HB_2.out hb)
      have XA_3 := Lib.hid (XA_2.out.below hb)
      have HA_3 := Lib.hid (HA_2.out.on hb)
      have HR_3 := Lib.hid (HR_2.out.on hb)
      have T1_3 := Lib.hid (T1_2.out.on hb)
      have V1_3 := Lib.hid (hg3.row)
      clear hb XA_2 HA_2 HR_2 HB_2 T1_2 hg3
      go_wp2_with fail
      refine (ET.sEvalExpr_any t _ A2 t.m _ rn rn f T1_3.out (ET.Most.up (by omega) HM.out) V1_3.out (by omega)).mono ?_; rintro e w4 ⟨rfl, hb⟩
      have HB_4 := Lib.hid (B_more HB_3.out hb)
      have XA_4 := Lib.hid (XA_3.out.below hb)
      have HA_4 := Lib.hid (HA_3.out.on hb)
      have HR_4 := Lib.hid (HR_3.out.on hb)
      have T1_4 := Lib.hid (T1_3.out.on hb)
      have V1_4 := Lib.hid (V1_3.out.on hb)
      clear hb XA_3 HA_3 HR_3 HB_3 T1_3 V1_3
      clear T1_4
      clear V1_4
      obtain ⟨ev, hev⟩ : ∃ x, x = t.evV rn f := ⟨_, rfl⟩
      obtain ⟨eb, heb⟩ : ∃ x, x = t.evB rn f := ⟨_, rfl⟩
      have HEV := Lib.hid hev
      have HEB := Lib.hid heb
      rw [← hev, ← heb]
      clear hev heb
      unfold vv
      have hbA := B_alloc (Below.refl w4.heap.size w4) (.cells #[.bool ev.nul, .int .i64 ev.n] 24)
      have HB_5 := Lib.hid (B_alloc HB_4.out (.cells #[.bool ev.nul, .int .i64 ev.n] 24))
      have XA_5 := Lib.hid (XA_4.out.below hbA)
      have HA_5 := Lib.hid (HA_4.out.on hbA)
      have HR_5 := Lib.hid (HR_4.out.on hbA)
      have XW0_5 := Lib.hid (Blk.new' (w := w4) (cs := #[.bool ev.nul, .int .i64 ev.n]) (T := 24) (g := w4.heap.size) rfl)
      clear hbA XA_4 HA_4 HR_4 HB_4
      have a0 := XA_5.out.cell 0 _ rfl
      have a1 := XA_5.out.cell 1 _ rfl
      have a2 := XA_5.out.cell 2 _ rfl
      have a3 := XA_5.out.cell 3 _ rfl
      have a4 := XA_5.out.cell 4 _ rfl
      dsimp only [List.getElem_toArray, List.getElem_cons_zero, List.getElem_cons_succ] at a0 a1 a2 a3 a4
      go_wp2_with fail
      refine ((ET.toExpr_any t) _ A cp HA_5.out HM.out).mono ?_; rintro e w6 ⟨A6, rfl, hT, hb⟩
      have HB_6 := Lib.hid (B_more HB_5.out hb)
      have XA_6 := Lib.hid (XA_5.out.below hb)
      have HA_6 := Lib.hid (HA_5.out.on hb)
      have HR_6 := Lib.hid (HR_5.out.on hb)
      have XW0_6 := Lib.hid (XW0_5.out.below hb)
      have T2_6 := Lib.hid (hT.isOn)
      clear hb XA_5 HA_5 HR_5 HB_5 XW0_5 hT a0 a1 a2 a3 a4
      have hbA := B_alloc (Below.refl w6.heap.size w6) (.cells #[.int .i64 t.k, .int .i64 t.c, .bool t.b, .int .i64 t.n, .slice A6 t.m t.m] 27)
      have HB_7 := Lib.hid (B_alloc HB_6.out (.cells #[.int .i64 t.k, .int .i64 t.c, .bool t.b, .int .i64 t.n, .slice A6 t.m t.m] 27))
      have XA_7 := Lib.hid (XA_6.out.below hbA)
      have HA_7 := Lib.hid (HA_6.out.on hbA)
      have HR_7 := Lib.hid (HR_6.out.on hbA)
      have XW0_7 := Lib.hid (XW0_6.out.below hbA)
      have T2_7 := Lib.hid (T2_6.out.on hbA)
      have XX0_7 := Lib.hid (Blk.new' (w := w6) (cs := #[.int .i64 t.k, .int .i64 t.c, .bool t.b, .int .i64 t.n, .slice A6 t.m t.m]) (T := 27) (g := w6.heap.size) rfl)
      clear hbA XA_6 HA_6 HR_6 HB_6 XW0_6 T2_6
      unfold ET.val
      go_wp2_with fail
      refine (toValueS_any _ R rn rc f HR_7.out hrn2).mono ?_; rintro e w8 ⟨g8, rfl, _, hg8, hb⟩
      have HB_8 := Lib.hid (B_more HB_7.out hb)
      have XA_8 := Lib.hid (XA_7.out.below hb)
      have HA_8 := Lib.hid (HA_7.out.on hb)
      have HR_8 := Lib.hid (HR_7.out.on hb)
      have XW0_8 := Lib.hid (XW0_7.out.below hb)
      have T2_8 := Lib.hid (T2_7.out.on hb)
      have XX0_8 := Lib.hid (XX0_7.out.below hb)
      have V2_8 := Lib.hid (hg8.row)
      clear hb XA_7 HA_7 HR_7 HB_7 XW0_7 T2_7 XX0_7 hg8
      have b0 := XX0_8.out.cell 0 _ rfl
      have b1 := XX0_8.out.cell 1 _ rfl
      have b2 := XX0_8.out.cell 2 _ rfl
      have b3 := XX0_8.out.cell 3 _ rfl
      have b4 := XX0_8.out.cell 4 _ rfl
      dsimp only [List.getElem_toArray, List.getElem_cons_zero, List.getElem_cons_succ] at b0 b1 b2 b3 b4
      go_wp2_with fail
      refine (ET.EvalExpr_any t _ A6 t.m _ rn rn f T2_8.out (ET.Most.up (by omega) HM.out) V2_8.out (by omega)).mono ?_; rintro e w9 ⟨rfl, hb⟩
      have HB_9 := Lib.hid (B_more HB_8.out hb)
      have XA_9 := Lib.hid (XA_8.out.below hb)
      have HA_9 := Lib.hid (HA_8.out.on hb)
      have HR_9 := Lib.hid (HR_8.out.on hb)
      have XW0_9 := Lib.hid (XW0_8.out.below hb)
      have T2_9 := Lib.hid (T2_8.out.on hb)
      have XX0_9 := Lib.hid (XX0_8.out.below hb)
      have V2_9 := Lib.hid (V2_8.out.on hb)
      clear hb XA_8 HA_8 HR_8 HB_8 XW0_8 T2_8 XX0_8 V2_8 b0 b1 b2 b3 b4
      rw [← HEV.out, ← HEB.out]
      unfold vv
      have hbA := B_alloc (Below.refl w9.heap.size w9) (.cells #[.bool ev.nul, .int .i64 ev.n] 24)
      have HB_10 := Lib.hid (B_alloc HB_9.out (.cells #[.bool ev.nul, .int .i64 ev.n] 24))
      have XA_10 := Lib.hid (XA_9.out.below hbA)
      have HA_10 := Lib.hid (HA_9.out.on hbA)
      have HR_10 := Lib.hid (HR_9.out.on hbA)
      have XW0_10 := Lib.hid (XW0_9.out.below hbA)
      have T2_10 := Lib.hid (T2_9.out.on hbA)
      have XX0_10 := Lib.hid (XX0_9.out.below hbA)
      have V2_10 := Lib.hid (V2_9.out.on hbA)
      have XG0_10 := Lib.hid (Blk.new' (w := w9) (cs := #[.bool ev.nul, .int .i64 ev.n]) (T := 24) (g := w9.heap.size) rfl)
      clear hbA XA_9 HA_9 HR_9 HB_9 XW0_9 T2_9 XX0_9 V2_9
      have c0 := XG0_10.out.cell 0 _ rfl
      have c1 := XG0_10.out.cell 1 _ rfl
      dsimp only [List.getElem_toArray, List.getElem_cons_zero, List.getElem_cons_succ] at c0 c1
      have d0 := XW0_10.out.cell 0 _ rfl
      have d1 := XW0_10.out.cell 1 _ rfl
      dsimp only [List.getElem_toArray, List.getElem_cons_zero, List.getElem_cons_succ] at d0 d1
      have b0 := XX0_10.out.cell 0 _ rfl
      have b1 := XX0_10.out.cell 1 _ rfl
      have b2 := XX0_10.out.cell 2 _ rfl
      have b3 := XX0_10.out.cell 3 _ rfl
      have b4 := XX0_10.out.cell 4 _ rfl
      dsimp only [List.getElem_toArray, List.getElem_cons_zero, List.getElem_cons_succ] at b0 b1 b2 b3 b4
      have a0 := XA_10.out.cell 0 _ rfl
      have a1 := XA_10.out.cell 1 _ rfl
      have a2 := XA_10.out.cell 2 _ rfl
      have a3 := XA_10.out.cell 3 _ rfl
      have a4 := XA_10.out.cell 4 _ rfl
      dsimp only [List.getElem_toArray, List.getElem_cons_zero, List.getElem_cons_succ] at a0 a1 a2 a3 a4
      go_wp2_with fail
      refine (eqV_same _ _ _).mono ?_; rintro e w11 ⟨rfl, hb⟩
      have HB_11 := Lib.hid (B_more HB_10.out hb)
      have XA_11 := Lib.hid (XA_10.out.below hb)
      have HA_11 := Lib.hid (HA_10.out.on hb)
      have HR_11 := Lib.hid (HR_10.out.on hb)
      have XW0_11 := Lib.hid (XW0_10.out.below hb)
      have T2_11 := Lib.hid (T2_10.out.on hb)
      have XX0_11 := Lib.hid (XX0_10.out.below hb)
      have V2_11 := Lib.hid (V2_10.out.on hb)
      have XG0_11 := Lib.hid (XG0_10.out.below hb)
      clear hb XA_10 HA_10 HR_10 HB_10 XW0_10 T2_10 XX0_10 V2_10 XG0_10 a0 a1 a2 a3 a4 b0 b1 b2 b3 b4 c0 c1 d0 d1
      have b0 := XX0_11.out.cell 0 _ rfl
      have b1 := XX0_11.out.cell 1 _ rfl
      have b2 := XX0_11.out.cell 2 _ rfl
      have b3 := XX0_11.out.cell 3 _ rfl
      have b4 := XX0_11.out.cell 4 _ rfl
      dsimp only [List.getElem_toArray, List.getElem_cons_zero, List.getElem_cons_succ] at b0 b1 b2 b3 b4
      have a0 := XA_11.out.cell 0 _ rfl
      have a1 := XA_11.out.cell 1 _ rfl
      have a2 := XA_11.out.cell 2 _ rfl
      have a3 := XA_11.out.cell 3 _ rfl
      have a4 := XA_11.out.cell 4 _ rfl
      dsimp only [List.getElem_toArray, List.getElem_cons_zero, List.getElem_cons_succ] at a0 a1 a2 a3 a4
      have hbb : (eb != eb) = false := by simp
      go_wp2_with fail
      have HBd := Lib.hid HB_11.out.drew
      have HAd := Lib.hid (HA_11.out.on (Below.refl _ _).drew)
      have T2d := Lib.hid (T2_11.out.on (Below.refl _ _).drew)
      have V2d := Lib.hid (V2_11.out.on (Below.refl _ _).drew)
      have HRd := Lib.hid (HR_11.out.on (Below.refl _ _).drew)
      refine wp_region_held_drew (S := (fun w' => w'.cell? ⟨w6.heap.size, 0, none⟩ = some (.int .i64 t.k) ∧ w'.cell? ⟨w6.heap.size, 1, none⟩ = some (.int .i64 t.c) ∧ w'.cell? ⟨w6.heap.size, 2, none⟩ = some (.bool t.b) ∧ w'.cell? ⟨w6.heap.size, 3, none⟩ = some (.int .i64 t.n) ∧ w'.cell? ⟨w6.heap.size, 4, none⟩ = some (.slice A6 t.m t.m) ∧ w'.cell? ⟨w.heap.size, 0, none⟩ = some (.int .i64 t.k) ∧ w'.cell? ⟨w.heap.size, 1, none⟩ = some (.int .i64 t.c) ∧ w'.cell? ⟨w.heap.size, 2, none⟩ = some (.bool t.b) ∧ w'.cell? ⟨w.heap.size, 3, none⟩ = some (.int .i64 t.n) ∧ w'.cell? ⟨w.heap.size, 4, none⟩ = some (.slice A t.m cp) ∧ Below w11.heap.size w11 w')) (by kernel_rfl) (init_ten b0 b1 b2 b3 b4 a0 a1 a2 a3 a4) (fun hHeld => ?_)
      clear a0 a1 a2 a3 a4 b0 b1 b2 b3 b4
      refine held_take 0 49 _ ?_ rfl rfl (by kernel_rfl) (by kernel_rfl) (by kernel_rfl) (fun _ _ _ h => h) (by kernel_rfl) (fun w' hSw => ?_) (by assumption) ?_
      rotate_left
      · ((try dsimp only at hSw); go_simp; (try with_reducible rfl))
      simp only [Act.put, List.setIfInBounds_toArray, List.set_cons_zero, List.set_cons_succ]
      refine held_take 1 50 _ ?_ rfl rfl (by kernel_rfl) (by kernel_rfl) (by kernel_rfl) (fun _ _ _ h => h) (by kernel_rfl) (fun w' hSw => ?_) (by assumption) ?_
      rotate_left
      · ((try dsimp only at hSw); go_simp; (try with_reducible rfl))
      simp only [Act.put, List.setIfInBounds_toArray, List.set_cons_zero, List.set_cons_succ]
      refine wpAnyH_ready (rs := [2]) (by kernel_rfl) (by simp) ?_
      refine AllReadyH.cons rfl (fun K hK => ?_) AllReadyH.nil
      go_simp
      refine ((ET.toExpr_any t) _ A cp HAd.out HM.out).mono ?_; rintro e wx ⟨Ax, rfl, hT, hb⟩
      go_wp2_with fail
      refine hK.out _ _ (keep_ten hHeld hb) (fun hHeld2 => ?_)
      clear hK K
      (try clear hHeld)
      (try simp only [Act.put, List.setIfInBounds_toArray, List.set_cons_zero, List.set_cons_succ])
      have HBx := Lib.hid (B_more HBd.out hb)
      have Tx := Lib.hid (hT.isOn)
      have T2x := Lib.hid (T2d.out.on hb)
      have V2x := Lib.hid (V2d.out.on hb)
      have HRx := Lib.hid (HRd.out.on hb)
      clear hb hT
      unfold ET.val
      refine wpAnyH_ready (rs := [3]) (by kernel_rfl) (by simp) ?_
      refine AllReadyH.cons rfl (fun K hK => ?_) AllReadyH.nil
      go_simp
      refine ((ET.eqExpr_any t) _ A6 Ax t.m t.m T2x.out Tx.out (ET.Most.up (by omega) HM.out)).mono ?_; rintro e wy ⟨rfl, hb⟩
      go_wp2_with fail
      refine hK.out _ _ (keep_ten hHeld2 hb) (fun hHeld2 => ?_)
      clear hK K
      (try clear hHeld)
      (try simp only [Act.put, List.setIfInBounds_toArray, List.set_cons_zero, List.set_cons_succ])
      have HBy := Lib.hid (B_more HBx.out hb)
      have V2y := Lib.hid (V2x.out.on hb)
      have HRy := Lib.hid (HRx.out.on hb)
      clear hb
      refine held_take 4 53 _ ?_ rfl rfl (by kernel_rfl) (by kernel_rfl) (by kernel_rfl) (fun _ _ _ h => h) (by kernel_rfl) (fun w' hSw => ?_) (by assumption) ?_
      rotate_left
      · ((try dsimp only at hSw); go_simp; (try with_reducible rfl))
      simp only [Act.put, List.setIfInBounds_toArray, List.set_cons_zero, List.set_cons_succ]
      clear hHeld2
      refine wpAnyH_done (by kernel_rfl) ?_ _
      go_wp2_with fail
      refine (toValueS_any _ R rn rc f HRy.out hrn2).mono ?_; rintro e wz ⟨gz, rfl, _, hgz, hb⟩
      have HBz := Lib.hid (B_more HBy.out hb)
      have Vz := Lib.hid hgz.row
      have V2z := Lib.hid (V2y.out.on hb)
      clear hb hgz
      go_wp2_with fail
      refine (eq_line V2z.out Vz.out (by omega)).mono ?_; rintro e wu ⟨rfl, hb⟩
      have HBu := Lib.hid (B_more HBz.out hb)
      clear hb
      go_wp2_with fail
      go_ret
      exact ⟨rfl, HBu.out⟩
end Go.Proofs.Ytfbkbppaignofaa

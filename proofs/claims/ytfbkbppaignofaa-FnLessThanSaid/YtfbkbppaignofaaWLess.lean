/-
  The walk of the law that exactly one of less, greater and equal holds.
-/
import Derived.Test.YtfbkbppaignofaaDrawV
import Derived.Test.YtfbkbppaignofaaLt
namespace Go.Proofs.Ytfbkbppaignofaa
open Go.RowKit

theorem lt_three (a b : Int) : (decide (a < b) = true ∧ decide (b < a) = false ∧ decide (a = b) = false) ∨ (decide (a < b) = false ∧ decide (b < a) = true ∧ decide (a = b) = false) ∨ (decide (a < b) = false ∧ decide (b < a) = false ∧ decide (a = b) = true) := by
  simp only [decide_eq_true_eq, decide_eq_false_iff_not]
  omega

set_option maxHeartbeats 4000000 in
set_option maxRecDepth 100000 in
theorem walk_FnLessThan (a : Option Addr) (len cap : Nat) (zs : List Int) (w : World) (h : IsRow .u8 w a len cap zs) :
    Calls Try.prog 8 #[.slice a len cap] w fun e w' => e = .returned (.bool true) ∧ Below w.heap.size w w' := by
  have hh := Lib.hid h
  clear h
  by_cases hlen : (1048576 : Int) < (len : Int)
  · go_enter Try.func8, Try.ntmps8
    go_wp2_with fail
    go_ret
    exact ⟨rfl, Below.refl _ _⟩
  · go_enter Try.func8, Try.ntmps8
    go_wp2_with fail
    refine (ET.DrawEvalExpr_any _ a len cap zs hh.out).mono ?_
    rintro e w1 ⟨t, A, cp, R, rn, rc, f, rfl, hT, hM, hrn, hR, hb⟩
    have HT1 := Lib.hid hT
    have HM := Lib.hid hM
    have HR1 := Lib.hid hR
    have HB1 := Lib.hid hb
    have HBw1 := Lib.hid hb.size
    clear hT hM hR hb hh
    have hbA := B_alloc (Below.refl w1.heap.size w1) (.cells #[.int .i64 t.k, .int .i64 t.c, .bool t.b, .int .i64 t.n, .slice A t.m cp] 27)
    have HB_2 := Lib.hid (B_alloc HB1.out (.cells #[.int .i64 t.k, .int .i64 t.c, .bool t.b, .int .i64 t.n, .slice A t.m cp] 27))
    have HT_2 := Lib.hid (HT1.out.on hbA)
    have HR_2 := Lib.hid (HR1.out.on hbA)
    have XE_2 := Lib.hid (Blk.new' (w := w1) (cs := #[.int .i64 t.k, .int .i64 t.c, .bool t.b, .int .i64 t.n, .slice A t.m cp]) (T := 27) (g := w1.heap.size) rfl)
    clear hbA HT1 HR1 HB1
    unfold ET.val
    go_wp2_with fail
    refine (ET.EvalExpr_any t _ A cp R rn rc f HT_2.out (HM.out.up (by omega)) HR_2.out (by omega)).mono ?_; rintro e w3 ⟨rfl, hb⟩
    have HB_3 := Lib.hid (B_more HB_2.out hb)
    have HT_3 := Lib.hid (HT_2.out.on hb)
    have HR_3 := Lib.hid (HR_2.out.on hb)
    have XE_3 := Lib.hid (XE_2.out.below hb)
    clear hb HT_2 HR_2 HB_2 XE_2
    obtain ⟨ev, hev⟩ : ∃ x, x = t.evV rn f := ⟨_, rfl⟩
    obtain ⟨eb, heb⟩ : ∃ x, x = t.evB rn f := ⟨_, rfl⟩
    have HEV := Lib.hid hev
    have HEB := Lib.hid heb
    rw [← hev, ← heb]
    clear hev heb
    unfold vv
    have hbA := B_alloc (Below.refl w3.heap.size w3) (.cells #[.bool ev.nul, .int .i64 ev.n] 24)
    have HB_4 := Lib.hid (B_alloc HB_3.out (.cells #[.bool ev.nul, .int .i64 ev.n] 24))
    have HT_4 := Lib.hid (HT_3.out.on hbA)
    have HR_4 := Lib.hid (HR_3.out.on hbA)
    have XE_4 := Lib.hid (XE_3.out.below hbA)
    have XV_4 := Lib.hid (Blk.new' (w := w3) (cs := #[.bool ev.nul, .int .i64 ev.n]) (T := 24) (g := w3.heap.size) rfl)
    clear hbA HT_3 HR_3 HB_3 XE_3
    have a0 := XE_4.out.cell 0 _ rfl
    have a1 := XE_4.out.cell 1 _ rfl
    have a2 := XE_4.out.cell 2 _ rfl
    have a3 := XE_4.out.cell 3 _ rfl
    have a4 := XE_4.out.cell 4 _ rfl
    dsimp only [List.getElem_toArray, List.getElem_cons_zero, List.getElem_cons_succ] at a0 a1 a2 a3 a4
    go_wp2_with fail
    refine (ET.sEvalExpr_any t _ A cp R rn rc f HT_4.out (HM.out.up (by omega)) HR_4.out (by omega)).mono ?_; rintro e w5 ⟨rfl, hb⟩
    have HB_5 := Lib.hid (B_more HB_4.out hb)
    have HT_5 := Lib.hid (HT_4.out.on hb)
    have HR_5 := Lib.hid (HR_4.out.on hb)
    have XE_5 := Lib.hid (XE_4.out.below hb)
    have XV_5 := Lib.hid (XV_4.out.below hb)
    clear hb HT_4 HR_4 HB_4 XE_4 XV_4
    clear a0 a1 a2 a3 a4
    rw [← HEV.out, ← HEB.out]
    unfold vv
    have hbA := B_alloc (Below.refl w5.heap.size w5) (.cells #[.bool ev.nul, .int .i64 ev.n] 24)
    have HB_6 := Lib.hid (B_alloc HB_5.out (.cells #[.bool ev.nul, .int .i64 ev.n] 24))
    have HT_6 := Lib.hid (HT_5.out.on hbA)
    have HR_6 := Lib.hid (HR_5.out.on hbA)
    have XE_6 := Lib.hid (XE_5.out.below hbA)
    have XV_6 := Lib.hid (XV_5.out.below hbA)
    have XW_6 := Lib.hid (Blk.new' (w := w5) (cs := #[.bool ev.nul, .int .i64 ev.n]) (T := 24) (g := w5.heap.size) rfl)
    clear hbA HT_5 HR_5 HB_5 XE_5 XV_5
    have a0 := XE_6.out.cell 0 _ rfl
    have a1 := XE_6.out.cell 1 _ rfl
    have a2 := XE_6.out.cell 2 _ rfl
    have a3 := XE_6.out.cell 3 _ rfl
    have a4 := XE_6.out.cell 4 _ rfl
    dsimp only [List.getElem_toArray, List.getElem_cons_zero, List.getElem_cons_succ] at a0 a1 a2 a3 a4
    have b0 := XV_6.out.cell 0 _ rfl
    have b1 := XV_6.out.cell 1 _ rfl
    dsimp only [List.getElem_toArray, List.getElem_cons_zero, List.getElem_cons_succ] at b0 b1
    have c0 := XW_6.out.cell 0 _ rfl
    have c1 := XW_6.out.cell 1 _ rfl
    dsimp only [List.getElem_toArray, List.getElem_cons_zero, List.getElem_cons_succ] at c0 c1
    cases eb
    · go_wp2_with fail
      go_ret
      exact ⟨rfl, HB_6.out⟩
    · have HE := Lib.hid HEB.out.symm
      have HW1 := Lib.hid (show w.heap.size ≤ w1.heap.size from HBw1.out)
      obtain ⟨nn, nv⟩ := ev
      dsimp only at b0 b1 c0 c1
      by_cases hk : t.k = 6 ∨ t.k = 7
      · cases nn
        · have har := (ET.okE_parts (ET.evB_parts HE.out).2).1
          have hm2 : t.m = 2 := by unfold ET.ar at har; rw [if_neg (by omega), if_neg (by omega), if_pos (by omega)] at har; omega
          clear har
          rw [hm2] at a4
          have hk9 : 3 ≤ t.k ∧ t.k ≤ 9 := by omega
          have HN := Lib.hid (ET.comb_nul hk (congrArg M.V.nul ((HEV.out.trans (ET.evV_yes HE.out)).trans (ET.ev_two_kids hk9))).symm)
          clear hk9
          obtain ⟨bb, o, rfl, hbb, hcs⟩ := (ET.On.kids HT_6.out) (by omega)
          obtain ⟨A0, c0_, g00, g01, g02, g03, g04, g05⟩ := hcs 0 (by omega)
          obtain ⟨A1, c1_, g10, g11, g12, g13, g14, g15⟩ := hcs 1 (by omega)
          clear hcs
          have HK0 := Lib.hid (show ET.On _ (t.kid 0) A0 from g05)
          have HK1 := Lib.hid (show ET.On _ (t.kid 1) A1 from g15)
          clear g05 g15
          simp only [Nat.zero_mul, Nat.one_mul, Nat.add_zero] at g00 g01 g02 g03 g04 g10 g11 g12 g13 g14
          have HMK := Lib.hid (fun i (hi : i < t.m) => ((ET.most_kids.1 HM.out).2 i hi).up (L' := 2000000) (by omega))
          have HTW := Lib.hid (fun (k : Int) (hk : 3 ≤ k ∧ k ≤ 9) (i j : Nat) (hi : i < t.m) (hj : j < t.m) => ET.isTrue_two hk (t.kid i) (t.kid j) (hok := (ET.evB_parts HE.out).1) (s7 := ET.kid7 HE.out hi) (u7 := ET.kid7 HE.out hj) (ms := HMK.out i hi) (mu := HMK.out j hj) (hrn := (show rn ≤ 2000000 by omega)))
          have hb7 : t.k = 6 ∨ t.k = 7 := hk
          clear hk
          rcases hb7 with hk | hk
          · have hb7 : (t.k != 7) = true := by rw [hk]; rfl
            have hb6 : (t.k != 6) = false := by rw [hk]; rfl
            clear hk
            go_wp2_with fail
            clear a1 a2 a3 b0 b1 c0 c1
            rcases lt_three ((t.kid 0).ev f).n ((t.kid 1).ev f).n with ⟨q1, q2, q3⟩ | ⟨q1, q2, q3⟩ | ⟨q1, q2, q3⟩
            · have HQ1 := Lib.hid ((ET.comb7 HN.out.1 HN.out.2).trans q1)
              have HQ2 := Lib.hid ((ET.comb7 HN.out.2 HN.out.1).trans q2)
              have HQ3 := Lib.hid ((ET.comb6 HN.out.1 HN.out.2).trans q3)
              clear q1 q2 q3
              have K0d := Lib.hid (HK0.out.on (Below.refl _ _).drew)
              have K1d := Lib.hid (HK1.out.on (Below.refl _ _).drew)
              have RRd := Lib.hid (HR_6.out.on (Below.refl _ _).drew)
              refine wp_region_held_drew (S := (fun w' => w'.cell? ⟨w1.heap.size, 0, none⟩ = some (.int .i64 t.k) ∧ w'.cell? ⟨w1.heap.size, 4, none⟩ = some (.slice (some ⟨bb, o, none⟩) 2 cp) ∧ w'.cell? ⟨bb, o, none⟩ = some (.int .i64 (t.kid 0).k) ∧ w'.cell? ⟨bb, o + 1, none⟩ = some (.int .i64 (t.kid 0).c) ∧ w'.cell? ⟨bb, o + 2, none⟩ = some (.bool (t.kid 0).b) ∧ w'.cell? ⟨bb, o + 3, none⟩ = some (.int .i64 (t.kid 0).n) ∧ w'.cell? ⟨bb, o + 4, none⟩ = some (.slice A0 (t.kid 0).m c0_) ∧ w'.cell? ⟨bb, o + 5, none⟩ = some (.int .i64 (t.kid 1).k) ∧ w'.cell? ⟨bb, o + 5 + 1, none⟩ = some (.int .i64 (t.kid 1).c) ∧ w'.cell? ⟨bb, o + 5 + 2, none⟩ = some (.bool (t.kid 1).b) ∧ w'.cell? ⟨bb, o + 5 + 3, none⟩ = some (.int .i64 (t.kid 1).n) ∧ w'.cell? ⟨bb, o + 5 + 4, none⟩ = some (.slice A1 (t.kid 1).m c1_) ∧ Below w.heap.size w w')) (by kernel_rfl) ⟨a0, a4, g00, g01, g02, g03, g04, g10, g11, g12, g13, g14, HB_6.out.drew⟩ (fun hHeld => ?_)
              clear a0 a4 g00 g01 g02 g03 g04 g10 g11 g12 g13 g14
              generalize hwd : World.drew (w5.alloc (.cells #[.bool false, .int .i64 nv] 24)) = wd1 at K0d K1d RRd hHeld ⊢
              clear hwd
              refine held_take 0 64 _ ?_ rfl rfl (by kernel_rfl) (by kernel_rfl) (by kernel_rfl) (fun _ _ _ h => h) (by kernel_rfl) (fun w' hSw => ?_) (by assumption) ?_
              rotate_left
              · ((try dsimp only at hSw); go_simp; (try with_reducible rfl))
              simp only [Act.put, List.setIfInBounds_toArray, List.set_cons_zero, List.set_cons_succ]
              refine held_take 1 65 _ ?_ rfl rfl (by kernel_rfl) (by kernel_rfl) (by kernel_rfl) (fun _ _ _ h => h) (by kernel_rfl) (fun w' hSw => ?_) (by assumption) ?_
              rotate_left
              · ((try dsimp only at hSw); go_simp; (try with_reducible rfl))
              simp only [Act.put, List.setIfInBounds_toArray, List.set_cons_zero, List.set_cons_succ]
              refine held_take 2 66 _ ?_ rfl rfl (by kernel_rfl) (by kernel_rfl) (by kernel_rfl) (fun _ _ _ h => h) (by kernel_rfl) (fun w' hSw => ?_) (by assumption) ?_
              rotate_left
              · ((try dsimp only at hSw); go_simp; (try with_reducible rfl))
              simp only [Act.put, List.setIfInBounds_toArray, List.set_cons_zero, List.set_cons_succ]
              refine held_take 3 67 _ ?_ rfl rfl (by kernel_rfl) (by kernel_rfl) (by kernel_rfl) (fun _ _ _ h => h) (by kernel_rfl) (fun w' hSw => ?_) (by assumption) ?_
              rotate_left
              · ((try dsimp only at hSw); go_simp; (try with_reducible rfl))
              simp only [Act.put, List.setIfInBounds_toArray, List.set_cons_zero, List.set_cons_succ]
              refine held_take 4 68 _ ?_ rfl rfl (by kernel_rfl) (by kernel_rfl) (by kernel_rfl) (fun _ _ _ h => h) (by kernel_rfl) (fun w' hSw => ?_) (by assumption) ?_
              rotate_left
              · ((try dsimp only at hSw); go_simp; (try with_reducible rfl))
              simp only [Act.put, List.setIfInBounds_toArray, List.set_cons_zero, List.set_cons_succ]
              refine held_take 5 69 _ ?_ rfl rfl (by kernel_rfl) (by kernel_rfl) (by kernel_rfl) (fun _ _ _ h => h) (by kernel_rfl) (fun w' hSw => ?_) (by assumption) ?_
              rotate_left
              · ((try dsimp only at hSw); go_simp; (try with_reducible rfl))
              simp only [Act.put, List.setIfInBounds_toArray, List.set_cons_zero, List.set_cons_succ]
              refine held_take 6 70 _ ?_ rfl rfl (by kernel_rfl) (by kernel_rfl) (by kernel_rfl) (fun _ _ _ h => h) (by kernel_rfl) (fun w' hSw => ?_) (by assumption) ?_
              rotate_left
              · ((try dsimp only at hSw); go_simp; (try with_reducible rfl))
              simp only [Act.put, List.setIfInBounds_toArray, List.set_cons_zero, List.set_cons_succ]
              refine held_take 7 71 _ ?_ rfl rfl (by kernel_rfl) (by kernel_rfl) (by kernel_rfl) (fun _ _ _ h => h) (by kernel_rfl) (fun w' hSw => ?_) (by assumption) ?_
              rotate_left
              · ((try dsimp only at hSw); go_simp; (try with_reducible rfl))
              simp only [Act.put, List.setIfInBounds_toArray, List.set_cons_zero, List.set_cons_succ]
              refine held_take 9 73 _ ?_ rfl rfl (by kernel_rfl) (by kernel_rfl) (by kernel_rfl) (fun _ _ _ h => h) (by kernel_rfl) (fun w' hSw => ?_) (by assumption) ?_
              rotate_left
              · ((try dsimp only at hSw); go_simp; (try with_reducible rfl))
              simp only [Act.put, List.setIfInBounds_toArray, List.set_cons_zero, List.set_cons_succ]
              refine wpAnyH_ready (rs := [8]) (by kernel_rfl) (by simp) ?_
              refine (AllReadyH.cons rfl (fun K' hK' => ?_) AllReadyH.nil)
              rw [if_pos (show Region.wanted _ _ = true from rfl)]
              go_wp2_with fail
              refine (ET.two_any 7 _ _ _ _ A0 _ _ _ _ _ _ A1 _ _ _).mono ?_
              rintro e wt1 ⟨gt, rfl, hX, hb⟩
              have TT := Lib.hid hX
              have K0t := Lib.hid (K0d.out.on hb)
              have K1t := Lib.hid (K1d.out.on hb)
              have RRt := Lib.hid (RRd.out.on hb)
              go_wp2_with fail
              refine hK'.out _ _ (keep_twelve hHeld hb) (fun hHf => ?_)
              clear hK' K' hb hX hHeld K0d K1d RRd
              (try simp only [Act.put, List.setIfInBounds_toArray, List.set_cons_zero, List.set_cons_succ])
              refine wpAnyH_ready (rs := [10]) (by kernel_rfl) (by simp) ?_
              refine (AllReadyH.cons rfl (fun K' hK' => ?_) AllReadyH.nil)
              rw [if_pos (show Region.wanted _ _ = true from rfl)]
              go_wp2_with fail
              refine (HTW.out 7 (by omega) 0 1 (by omega) (by omega) _ _ _ _ _ _ _ _ TT.out K0t.out K1t.out RRt.out).mono ?_
              rintro e wu1 ⟨rfl, hb⟩
              rw [HQ1.out]
              have K0_1 := Lib.hid (K0t.out.on hb)
              have K1_1 := Lib.hid (K1t.out.on hb)
              have RR_1 := Lib.hid (RRt.out.on hb)
              go_wp2_with fail
              refine hK'.out _ _ (keep_twelve hHf hb) (fun hHg => ?_)
              clear hK' K' hb hHf K0t K1t RRt TT
              (try simp only [Act.put, List.setIfInBounds_toArray, List.set_cons_zero, List.set_cons_succ])
              obtain ⟨a0, a4, g00, g01, g02, g03, g04, g10, g11, g12, g13, g14, hbl⟩ := hHg
              have HBr1 := Lib.hid hbl
              clear hbl
              refine wpAnyH_done (by kernel_rfl) ?_ _
              go_wp2_with fail
              have K0d := Lib.hid (K0_1.out.on (Below.refl _ _).drew)
              have K1d := Lib.hid (K1_1.out.on (Below.refl _ _).drew)
              have RRd := Lib.hid (RR_1.out.on (Below.refl _ _).drew)
              refine wp_region_held_drew (S := (fun w' => w'.cell? ⟨w1.heap.size, 0, none⟩ = some (.int .i64 t.k) ∧ w'.cell? ⟨w1.heap.size, 4, none⟩ = some (.slice (some ⟨bb, o, none⟩) 2 cp) ∧ w'.cell? ⟨bb, o, none⟩ = some (.int .i64 (t.kid 0).k) ∧ w'.cell? ⟨bb, o + 1, none⟩ = some (.int .i64 (t.kid 0).c) ∧ w'.cell? ⟨bb, o + 2, none⟩ = some (.bool (t.kid 0).b) ∧ w'.cell? ⟨bb, o + 3, none⟩ = some (.int .i64 (t.kid 0).n) ∧ w'.cell? ⟨bb, o + 4, none⟩ = some (.slice A0 (t.kid 0).m c0_) ∧ w'.cell? ⟨bb, o + 5, none⟩ = some (.int .i64 (t.kid 1).k) ∧ w'.cell? ⟨bb, o + 5 + 1, none⟩ = some (.int .i64 (t.kid 1).c) ∧ w'.cell? ⟨bb, o + 5 + 2, none⟩ = some (.bool (t.kid 1).b) ∧ w'.cell? ⟨bb, o + 5 + 3, none⟩ = some (.int .i64 (t.kid 1).n) ∧ w'.cell? ⟨bb, o + 5 + 4, none⟩ = some (.slice A1 (t.kid 1).m c1_) ∧ Below w.heap.size w w')) (by kernel_rfl) ⟨a0, a4, g00, g01, g02, g03, g04, g10, g11, g12, g13, g14, HBr1.out.drew⟩ (fun hHeld => ?_)
              clear a0 a4 g00 g01 g02 g03 g04 g10 g11 g12 g13 g14
              generalize hwd : World.drew (wu1) = wd2 at K0d K1d RRd hHeld ⊢
              clear hwd
              refine held_take 0 77 _ ?_ rfl rfl (by kernel_rfl) (by kernel_rfl) (by kernel_rfl) (fun _ _ _ h => h) (by kernel_rfl) (fun w' hSw => ?_) (by assumption) ?_
              rotate_left
              · ((try dsimp only at hSw); go_simp; (try with_reducible rfl))
              simp only [Act.put, List.setIfInBounds_toArray, List.set_cons_zero, List.set_cons_succ]
              refine held_take 1 78 _ ?_ rfl rfl (by kernel_rfl) (by kernel_rfl) (by kernel_rfl) (fun _ _ _ h => h) (by kernel_rfl) (fun w' hSw => ?_) (by assumption) ?_
              rotate_left
              · ((try dsimp only at hSw); go_simp; (try with_reducible rfl))
              simp only [Act.put, List.setIfInBounds_toArray, List.set_cons_zero, List.set_cons_succ]
              refine held_take 2 79 _ ?_ rfl rfl (by kernel_rfl) (by kernel_rfl) (by kernel_rfl) (fun _ _ _ h => h) (by kernel_rfl) (fun w' hSw => ?_) (by assumption) ?_
              rotate_left
              · ((try dsimp only at hSw); go_simp; (try with_reducible rfl))
              simp only [Act.put, List.setIfInBounds_toArray, List.set_cons_zero, List.set_cons_succ]
              refine held_take 3 80 _ ?_ rfl rfl (by kernel_rfl) (by kernel_rfl) (by kernel_rfl) (fun _ _ _ h => h) (by kernel_rfl) (fun w' hSw => ?_) (by assumption) ?_
              rotate_left
              · ((try dsimp only at hSw); go_simp; (try with_reducible rfl))
              simp only [Act.put, List.setIfInBounds_toArray, List.set_cons_zero, List.set_cons_succ]
              refine held_take 4 81 _ ?_ rfl rfl (by kernel_rfl) (by kernel_rfl) (by kernel_rfl) (fun _ _ _ h => h) (by kernel_rfl) (fun w' hSw => ?_) (by assumption) ?_
              rotate_left
              · ((try dsimp only at hSw); go_simp; (try with_reducible rfl))
              simp only [Act.put, List.setIfInBounds_toArray, List.set_cons_zero, List.set_cons_succ]
              refine held_take 5 82 _ ?_ rfl rfl (by kernel_rfl) (by kernel_rfl) (by kernel_rfl) (fun _ _ _ h => h) (by kernel_rfl) (fun w' hSw => ?_) (by assumption) ?_
              rotate_left
              · ((try dsimp only at hSw); go_simp; (try with_reducible rfl))
              simp only [Act.put, List.setIfInBounds_toArray, List.set_cons_zero, List.set_cons_succ]
              refine held_take 6 83 _ ?_ rfl rfl (by kernel_rfl) (by kernel_rfl) (by kernel_rfl) (fun _ _ _ h => h) (by kernel_rfl) (fun w' hSw => ?_) (by assumption) ?_
              rotate_left
              · ((try dsimp only at hSw); go_simp; (try with_reducible rfl))
              simp only [Act.put, List.setIfInBounds_toArray, List.set_cons_zero, List.set_cons_succ]
              refine held_take 7 84 _ ?_ rfl rfl (by kernel_rfl) (by kernel_rfl) (by kernel_rfl) (fun _ _ _ h => h) (by kernel_rfl) (fun w' hSw => ?_) (by assumption) ?_
              rotate_left
              · ((try dsimp only at hSw); go_simp; (try with_reducible rfl))
              simp only [Act.put, List.setIfInBounds_toArray, List.set_cons_zero, List.set_cons_succ]
              refine held_take 9 86 _ ?_ rfl rfl (by kernel_rfl) (by kernel_rfl) (by kernel_rfl) (fun _ _ _ h => h) (by kernel_rfl) (fun w' hSw => ?_) (by assumption) ?_
              rotate_left
              · ((try dsimp only at hSw); go_simp; (try with_reducible rfl))
              simp only [Act.put, List.setIfInBounds_toArray, List.set_cons_zero, List.set_cons_succ]
              refine wpAnyH_ready (rs := [8]) (by kernel_rfl) (by simp) ?_
              refine (AllReadyH.cons rfl (fun K' hK' => ?_) AllReadyH.nil)
              rw [if_pos (show Region.wanted _ _ = true from rfl)]
              go_wp2_with fail
              refine (ET.two_any 7 _ _ _ _ A1 _ _ _ _ _ _ A0 _ _ _).mono ?_
              rintro e wt2 ⟨gt, rfl, hX, hb⟩
              have TT := Lib.hid hX
              have K0t := Lib.hid (K0d.out.on hb)
              have K1t := Lib.hid (K1d.out.on hb)
              have RRt := Lib.hid (RRd.out.on hb)
              go_wp2_with fail
              refine hK'.out _ _ (keep_twelve hHeld hb) (fun hHf => ?_)
              clear hK' K' hb hX hHeld K0d K1d RRd
              (try simp only [Act.put, List.setIfInBounds_toArray, List.set_cons_zero, List.set_cons_succ])
              refine wpAnyH_ready (rs := [10]) (by kernel_rfl) (by simp) ?_
              refine (AllReadyH.cons rfl (fun K' hK' => ?_) AllReadyH.nil)
              rw [if_pos (show Region.wanted _ _ = true from rfl)]
              go_wp2_with fail
              refine (HTW.out 7 (by omega) 1 0 (by omega) (by omega) _ _ _ _ _ _ _ _ TT.out K1t.out K0t.out RRt.out).mono ?_
              rintro e wu2 ⟨rfl, hb⟩
              rw [HQ2.out]
              have K0_2 := Lib.hid (K0t.out.on hb)
              have K1_2 := Lib.hid (K1t.out.on hb)
              have RR_2 := Lib.hid (RRt.out.on hb)
              go_wp2_with fail
              refine hK'.out _ _ (keep_twelve hHf hb) (fun hHg => ?_)
              clear hK' K' hb hHf K0t K1t RRt TT
              (try simp only [Act.put, List.setIfInBounds_toArray, List.set_cons_zero, List.set_cons_succ])
              obtain ⟨a0, a4, g00, g01, g02, g03, g04, g10, g11, g12, g13, g14, hbl⟩ := hHg
              have HBr2 := Lib.hid hbl
              clear hbl
              refine wpAnyH_done (by kernel_rfl) ?_ _
              go_wp2_with fail
              have K0d := Lib.hid (K0_2.out.on (Below.refl _ _).drew)
              have K1d := Lib.hid (K1_2.out.on (Below.refl _ _).drew)
              have RRd := Lib.hid (RR_2.out.on (Below.refl _ _).drew)
              refine wp_region_held_drew (S := (fun w' => w'.cell? ⟨w1.heap.size, 0, none⟩ = some (.int .i64 t.k) ∧ w'.cell? ⟨w1.heap.size, 4, none⟩ = some (.slice (some ⟨bb, o, none⟩) 2 cp) ∧ w'.cell? ⟨bb, o, none⟩ = some (.int .i64 (t.kid 0).k) ∧ w'.cell? ⟨bb, o + 1, none⟩ = some (.int .i64 (t.kid 0).c) ∧ w'.cell? ⟨bb, o + 2, none⟩ = some (.bool (t.kid 0).b) ∧ w'.cell? ⟨bb, o + 3, none⟩ = some (.int .i64 (t.kid 0).n) ∧ w'.cell? ⟨bb, o + 4, none⟩ = some (.slice A0 (t.kid 0).m c0_) ∧ w'.cell? ⟨bb, o + 5, none⟩ = some (.int .i64 (t.kid 1).k) ∧ w'.cell? ⟨bb, o + 5 + 1, none⟩ = some (.int .i64 (t.kid 1).c) ∧ w'.cell? ⟨bb, o + 5 + 2, none⟩ = some (.bool (t.kid 1).b) ∧ w'.cell? ⟨bb, o + 5 + 3, none⟩ = some (.int .i64 (t.kid 1).n) ∧ w'.cell? ⟨bb, o + 5 + 4, none⟩ = some (.slice A1 (t.kid 1).m c1_) ∧ Below w.heap.size w w')) (by kernel_rfl) ⟨a0, a4, g00, g01, g02, g03, g04, g10, g11, g12, g13, g14, HBr2.out.drew⟩ (fun hHeld => ?_)
              clear a0 a4 g00 g01 g02 g03 g04 g10 g11 g12 g13 g14
              generalize hwd : World.drew (wu2) = wd3 at K0d K1d RRd hHeld ⊢
              clear hwd
              refine held_take 0 90 _ ?_ rfl rfl (by kernel_rfl) (by kernel_rfl) (by kernel_rfl) (fun _ _ _ h => h) (by kernel_rfl) (fun w' hSw => ?_) (by assumption) ?_
              rotate_left
              · ((try dsimp only at hSw); go_simp; (try with_reducible rfl))
              simp only [Act.put, List.setIfInBounds_toArray, List.set_cons_zero, List.set_cons_succ]
              refine held_take 1 91 _ ?_ rfl rfl (by kernel_rfl) (by kernel_rfl) (by kernel_rfl) (fun _ _ _ h => h) (by kernel_rfl) (fun w' hSw => ?_) (by assumption) ?_
              rotate_left
              · ((try dsimp only at hSw); go_simp; (try with_reducible rfl))
              simp only [Act.put, List.setIfInBounds_toArray, List.set_cons_zero, List.set_cons_succ]
              refine held_take 2 92 _ ?_ rfl rfl (by kernel_rfl) (by kernel_rfl) (by kernel_rfl) (fun _ _ _ h => h) (by kernel_rfl) (fun w' hSw => ?_) (by assumption) ?_
              rotate_left
              · ((try dsimp only at hSw); go_simp; (try with_reducible rfl))
              simp only [Act.put, List.setIfInBounds_toArray, List.set_cons_zero, List.set_cons_succ]
              refine held_take 3 93 _ ?_ rfl rfl (by kernel_rfl) (by kernel_rfl) (by kernel_rfl) (fun _ _ _ h => h) (by kernel_rfl) (fun w' hSw => ?_) (by assumption) ?_
              rotate_left
              · ((try dsimp only at hSw); go_simp; (try with_reducible rfl))
              simp only [Act.put, List.setIfInBounds_toArray, List.set_cons_zero, List.set_cons_succ]
              refine held_take 4 94 _ ?_ rfl rfl (by kernel_rfl) (by kernel_rfl) (by kernel_rfl) (fun _ _ _ h => h) (by kernel_rfl) (fun w' hSw => ?_) (by assumption) ?_
              rotate_left
              · ((try dsimp only at hSw); go_simp; (try with_reducible rfl))
              simp only [Act.put, List.setIfInBounds_toArray, List.set_cons_zero, List.set_cons_succ]
              refine held_take 5 95 _ ?_ rfl rfl (by kernel_rfl) (by kernel_rfl) (by kernel_rfl) (fun _ _ _ h => h) (by kernel_rfl) (fun w' hSw => ?_) (by assumption) ?_
              rotate_left
              · ((try dsimp only at hSw); go_simp; (try with_reducible rfl))
              simp only [Act.put, List.setIfInBounds_toArray, List.set_cons_zero, List.set_cons_succ]
              refine held_take 6 96 _ ?_ rfl rfl (by kernel_rfl) (by kernel_rfl) (by kernel_rfl) (fun _ _ _ h => h) (by kernel_rfl) (fun w' hSw => ?_) (by assumption) ?_
              rotate_left
              · ((try dsimp only at hSw); go_simp; (try with_reducible rfl))
              simp only [Act.put, List.setIfInBounds_toArray, List.set_cons_zero, List.set_cons_succ]
              refine held_take 7 97 _ ?_ rfl rfl (by kernel_rfl) (by kernel_rfl) (by kernel_rfl) (fun _ _ _ h => h) (by kernel_rfl) (fun w' hSw => ?_) (by assumption) ?_
              rotate_left
              · ((try dsimp only at hSw); go_simp; (try with_reducible rfl))
              simp only [Act.put, List.setIfInBounds_toArray, List.set_cons_zero, List.set_cons_succ]
              refine held_take 9 99 _ ?_ rfl rfl (by kernel_rfl) (by kernel_rfl) (by kernel_rfl) (fun _ _ _ h => h) (by kernel_rfl) (fun w' hSw => ?_) (by assumption) ?_
              rotate_left
              · ((try dsimp only at hSw); go_simp; (try with_reducible rfl))
              simp only [Act.put, List.setIfInBounds_toArray, List.set_cons_zero, List.set_cons_succ]
              refine wpAnyH_ready (rs := [8]) (by kernel_rfl) (by simp) ?_
              refine (AllReadyH.cons rfl (fun K' hK' => ?_) AllReadyH.nil)
              rw [if_pos (show Region.wanted _ _ = true from rfl)]
              go_wp2_with fail
              refine (ET.two_any 6 _ _ _ _ A0 _ _ _ _ _ _ A1 _ _ _).mono ?_
              rintro e wt3 ⟨gt, rfl, hX, hb⟩
              have TT := Lib.hid hX
              have K0t := Lib.hid (K0d.out.on hb)
              have K1t := Lib.hid (K1d.out.on hb)
              have RRt := Lib.hid (RRd.out.on hb)
              go_wp2_with fail
              refine hK'.out _ _ (keep_twelve hHeld hb) (fun hHf => ?_)
              clear hK' K' hb hX hHeld K0d K1d RRd
              (try simp only [Act.put, List.setIfInBounds_toArray, List.set_cons_zero, List.set_cons_succ])
              refine wpAnyH_ready (rs := [10]) (by kernel_rfl) (by simp) ?_
              refine (AllReadyH.cons rfl (fun K' hK' => ?_) AllReadyH.nil)
              rw [if_pos (show Region.wanted _ _ = true from rfl)]
              go_wp2_with fail
              refine (HTW.out 6 (by omega) 0 1 (by omega) (by omega) _ _ _ _ _ _ _ _ TT.out K0t.out K1t.out RRt.out).mono ?_
              rintro e wu3 ⟨rfl, hb⟩
              rw [HQ3.out]
              have K0_3 := Lib.hid (K0t.out.on hb)
              have K1_3 := Lib.hid (K1t.out.on hb)
              have RR_3 := Lib.hid (RRt.out.on hb)
              go_wp2_with fail
              refine hK'.out _ _ (keep_twelve hHf hb) (fun hHg => ?_)
              clear hK' K' hb hHf K0t K1t RRt TT
              (try simp only [Act.put, List.setIfInBounds_toArray, List.set_cons_zero, List.set_cons_succ])
              obtain ⟨a0, a4, g00, g01, g02, g03, g04, g10, g11, g12, g13, g14, hbl⟩ := hHg
              have HBr3 := Lib.hid hbl
              clear hbl
              refine wpAnyH_done (by kernel_rfl) ?_ _
              go_wp2_with fail
              go_ret
              first | exact ⟨rfl, HBr3.out⟩ | exact ⟨ET.ret_of rfl (by simp), HBr3.out⟩
            · have HQ1 := Lib.hid ((ET.comb7 HN.out.1 HN.out.2).trans q1)
              have HQ2 := Lib.hid ((ET.comb7 HN.out.2 HN.out.1).trans q2)
              have HQ3 := Lib.hid ((ET.comb6 HN.out.1 HN.out.2).trans q3)
              clear q1 q2 q3
              have K0d := Lib.hid (HK0.out.on (Below.refl _ _).drew)
              have K1d := Lib.hid (HK1.out.on (Below.refl _ _).drew)
              have RRd := Lib.hid (HR_6.out.on (Below.refl _ _).drew)
              refine wp_region_held_drew (S := (fun w' => w'.cell? ⟨w1.heap.size, 0, none⟩ = some (.int .i64 t.k) ∧ w'.cell? ⟨w1.heap.size, 4, none⟩ = some (.slice (some ⟨bb, o, none⟩) 2 cp) ∧ w'.cell? ⟨bb, o, none⟩ = some (.int .i64 (t.kid 0).k) ∧ w'.cell? ⟨bb, o + 1, none⟩ = some (.int .i64 (t.kid 0).c) ∧ w'.cell? ⟨bb, o + 2, none⟩ = some (.bool (t.kid 0).b) ∧ w'.cell? ⟨bb, o + 3, none⟩ = some (.int .i64 (t.kid 0).n) ∧ w'.cell? ⟨bb, o + 4, none⟩ = some (.slice A0 (t.kid 0).m c0_) ∧ w'.cell? ⟨bb, o + 5, none⟩ = some (.int .i64 (t.kid 1).k) ∧ w'.cell? ⟨bb, o + 5 + 1, none⟩ = some (.int .i64 (t.kid 1).c) ∧ w'.cell? ⟨bb, o + 5 + 2, none⟩ = some (.bool (t.kid 1).b) ∧ w'.cell? ⟨bb, o + 5 + 3, none⟩ = some (.int .i64 (t.kid 1).n) ∧ w'.cell? ⟨bb, o + 5 + 4, none⟩ = some (.slice A1 (t.kid 1).m c1_) ∧ Below w.heap.size w w')) (by kernel_rfl) ⟨a0, a4, g00, g01, g02, g03, g04, g10, g11, g12, g13, g14, HB_6.out.drew⟩ (fun hHeld => ?_)
              clear a0 a4 g00 g01 g02 g03 g04 g10 g11 g12 g13 g14
              generalize hwd : World.drew (w5.alloc (.cells #[.bool false, .int .i64 nv] 24)) = wd4 at K0d K1d RRd hHeld ⊢
              clear hwd
              refine held_take 0 64 _ ?_ rfl rfl (by kernel_rfl) (by kernel_rfl) (by kernel_rfl) (fun _ _ _ h => h) (by kernel_rfl) (fun w' hSw => ?_) (by assumption) ?_
              rotate_left
              · ((try dsimp only at hSw); go_simp; (try with_reducible rfl))
              simp only [Act.put, List.setIfInBounds_toArray, List.set_cons_zero, List.set_cons_succ]
              refine held_take 1 65 _ ?_ rfl rfl (by kernel_rfl) (by kernel_rfl) (by kernel_rfl) (fun _ _ _ h => h) (by kernel_rfl) (fun w' hSw => ?_) (by assumption) ?_
              rotate_left
              · ((try dsimp only at hSw); go_simp; (try with_reducible rfl))
              simp only [Act.put, List.setIfInBounds_toArray, List.set_cons_zero, List.set_cons_succ]
              refine held_take 2 66 _ ?_ rfl rfl (by kernel_rfl) (by kernel_rfl) (by kernel_rfl) (fun _ _ _ h => h) (by kernel_rfl) (fun w' hSw => ?_) (by assumption) ?_
              rotate_left
              · ((try dsimp only at hSw); go_simp; (try with_reducible rfl))
              simp only [Act.put, List.setIfInBounds_toArray, List.set_cons_zero, List.set_cons_succ]
              refine held_take 3 67 _ ?_ rfl rfl (by kernel_rfl) (by kernel_rfl) (by kernel_rfl) (fun _ _ _ h => h) (by kernel_rfl) (fun w' hSw => ?_) (by assumption) ?_
              rotate_left
              · ((try dsimp only at hSw); go_simp; (try with_reducible rfl))
              simp only [Act.put, List.setIfInBounds_toArray, List.set_cons_zero, List.set_cons_succ]
              refine held_take 4 68 _ ?_ rfl rfl (by kernel_rfl) (by kernel_rfl) (by kernel_rfl) (fun _ _ _ h => h) (by kernel_rfl) (fun w' hSw => ?_) (by assumption) ?_
              rotate_left
              · ((try dsimp only at hSw); go_simp; (try with_reducible rfl))
              simp only [Act.put, List.setIfInBounds_toArray, List.set_cons_zero, List.set_cons_succ]
              refine held_take 5 69 _ ?_ rfl rfl (by kernel_rfl) (by kernel_rfl) (by kernel_rfl) (fun _ _ _ h => h) (by kernel_rfl) (fun w' hSw => ?_) (by assumption) ?_
              rotate_left
              · ((try dsimp only at hSw); go_simp; (try with_reducible rfl))
              simp only [Act.put, List.setIfInBounds_toArray, List.set_cons_zero, List.set_cons_succ]
              refine held_take 6 70 _ ?_ rfl rfl (by kernel_rfl) (by kernel_rfl) (by kernel_rfl) (fun _ _ _ h => h) (by kernel_rfl) (fun w' hSw => ?_) (by assumption) ?_
              rotate_left
              · ((try dsimp only at hSw); go_simp; (try with_reducible rfl))
              simp only [Act.put, List.setIfInBounds_toArray, List.set_cons_zero, List.set_cons_succ]
              refine held_take 7 71 _ ?_ rfl rfl (by kernel_rfl) (by kernel_rfl) (by kernel_rfl) (fun _ _ _ h => h) (by kernel_rfl) (fun w' hSw => ?_) (by assumption) ?_
              rotate_left
              · ((try dsimp only at hSw); go_simp; (try with_reducible rfl))
              simp only [Act.put, List.setIfInBounds_toArray, List.set_cons_zero, List.set_cons_succ]
              refine held_take 9 73 _ ?_ rfl rfl (by kernel_rfl) (by kernel_rfl) (by kernel_rfl) (fun _ _ _ h => h) (by kernel_rfl) (fun w' hSw => ?_) (by assumption) ?_
              rotate_left
              · ((try dsimp only at hSw); go_simp; (try with_reducible rfl))
              simp only [Act.put, List.setIfInBounds_toArray, List.set_cons_zero, List.set_cons_succ]
              refine wpAnyH_ready (rs := [8]) (by kernel_rfl) (by simp) ?_
              refine (AllReadyH.cons rfl (fun K' hK' => ?_) AllReadyH.nil)
              rw [if_pos (show Region.wanted _ _ = true from rfl)]
              go_wp2_with fail
              refine (ET.two_any 7 _ _ _ _ A0 _ _ _ _ _ _ A1 _ _ _).mono ?_
              rintro e wt4 ⟨gt, rfl, hX, hb⟩
              have TT := Lib.hid hX
              have K0t := Lib.hid (K0d.out.on hb)
              have K1t := Lib.hid (K1d.out.on hb)
              have RRt := Lib.hid (RRd.out.on hb)
              go_wp2_with fail
              refine hK'.out _ _ (keep_twelve hHeld hb) (fun hHf => ?_)
              clear hK' K' hb hX hHeld K0d K1d RRd
              (try simp only [Act.put, List.setIfInBounds_toArray, List.set_cons_zero, List.set_cons_succ])
              refine wpAnyH_ready (rs := [10]) (by kernel_rfl) (by simp) ?_
              refine (AllReadyH.cons rfl (fun K' hK' => ?_) AllReadyH.nil)
              rw [if_pos (show Region.wanted _ _ = true from rfl)]
              go_wp2_with fail
              refine (HTW.out 7 (by omega) 0 1 (by omega) (by omega) _ _ _ _ _ _ _ _ TT.out K0t.out K1t.out RRt.out).mono ?_
              rintro e wu4 ⟨rfl, hb⟩
              rw [HQ1.out]
              have K0_4 := Lib.hid (K0t.out.on hb)
              have K1_4 := Lib.hid (K1t.out.on hb)
              have RR_4 := Lib.hid (RRt.out.on hb)
              go_wp2_with fail
              refine hK'.out _ _ (keep_twelve hHf hb) (fun hHg => ?_)
              clear hK' K' hb hHf K0t K1t RRt TT
              (try simp only [Act.put, List.setIfInBounds_toArray, List.set_cons_zero, List.set_cons_succ])
              obtain ⟨a0, a4, g00, g01, g02, g03, g04, g10, g11, g12, g13, g14, hbl⟩ := hHg
              have HBr4 := Lib.hid hbl
              clear hbl
              refine wpAnyH_done (by kernel_rfl) ?_ _
              go_wp2_with fail
              have K0d := Lib.hid (K0_4.out.on (Below.refl _ _).drew)
              have K1d := Lib.hid (K1_4.out.on (Below.refl _ _).drew)
              have RRd := Lib.hid (RR_4.out.on (Below.refl _ _).drew)
              refine wp_region_held_drew (S := (fun w' => w'.cell? ⟨w1.heap.size, 0, none⟩ = some (.int .i64 t.k) ∧ w'.cell? ⟨w1.heap.size, 4, none⟩ = some (.slice (some ⟨bb, o, none⟩) 2 cp) ∧ w'.cell? ⟨bb, o, none⟩ = some (.int .i64 (t.kid 0).k) ∧ w'.cell? ⟨bb, o + 1, none⟩ = some (.int .i64 (t.kid 0).c) ∧ w'.cell? ⟨bb, o + 2, none⟩ = some (.bool (t.kid 0).b) ∧ w'.cell? ⟨bb, o + 3, none⟩ = some (.int .i64 (t.kid 0).n) ∧ w'.cell? ⟨bb, o + 4, none⟩ = some (.slice A0 (t.kid 0).m c0_) ∧ w'.cell? ⟨bb, o + 5, none⟩ = some (.int .i64 (t.kid 1).k) ∧ w'.cell? ⟨bb, o + 5 + 1, none⟩ = some (.int .i64 (t.kid 1).c) ∧ w'.cell? ⟨bb, o + 5 + 2, none⟩ = some (.bool (t.kid 1).b) ∧ w'.cell? ⟨bb, o + 5 + 3, none⟩ = some (.int .i64 (t.kid 1).n) ∧ w'.cell? ⟨bb, o + 5 + 4, none⟩ = some (.slice A1 (t.kid 1).m c1_) ∧ Below w.heap.size w w')) (by kernel_rfl) ⟨a0, a4, g00, g01, g02, g03, g04, g10, g11, g12, g13, g14, HBr4.out.drew⟩ (fun hHeld => ?_)
              clear a0 a4 g00 g01 g02 g03 g04 g10 g11 g12 g13 g14
              generalize hwd : World.drew (wu4) = wd5 at K0d K1d RRd hHeld ⊢
              clear hwd
              refine held_take 0 77 _ ?_ rfl rfl (by kernel_rfl) (by kernel_rfl) (by kernel_rfl) (fun _ _ _ h => h) (by kernel_rfl) (fun w' hSw => ?_) (by assumption) ?_
              rotate_left
              · ((try dsimp only at hSw); go_simp; (try with_reducible rfl))
              simp only [Act.put, List.setIfInBounds_toArray, List.set_cons_zero, List.set_cons_succ]
              refine held_take 1 78 _ ?_ rfl rfl (by kernel_rfl) (by kernel_rfl) (by kernel_rfl) (fun _ _ _ h => h) (by kernel_rfl) (fun w' hSw => ?_) (by assumption) ?_
              rotate_left
              · ((try dsimp only at hSw); go_simp; (try with_reducible rfl))
              simp only [Act.put, List.setIfInBounds_toArray, List.set_cons_zero, List.set_cons_succ]
              refine held_take 2 79 _ ?_ rfl rfl (by kernel_rfl) (by kernel_rfl) (by kernel_rfl) (fun _ _ _ h => h) (by kernel_rfl) (fun w' hSw => ?_) (by assumption) ?_
              rotate_left
              · ((try dsimp only at hSw); go_simp; (try with_reducible rfl))
              simp only [Act.put, List.setIfInBounds_toArray, List.set_cons_zero, List.set_cons_succ]
              refine held_take 3 80 _ ?_ rfl rfl (by kernel_rfl) (by kernel_rfl) (by kernel_rfl) (fun _ _ _ h => h) (by kernel_rfl) (fun w' hSw => ?_) (by assumption) ?_
              rotate_left
              · ((try dsimp only at hSw); go_simp; (try with_reducible rfl))
              simp only [Act.put, List.setIfInBounds_toArray, List.set_cons_zero, List.set_cons_succ]
              refine held_take 4 81 _ ?_ rfl rfl (by kernel_rfl) (by kernel_rfl) (by kernel_rfl) (fun _ _ _ h => h) (by kernel_rfl) (fun w' hSw => ?_) (by assumption) ?_
              rotate_left
              · ((try dsimp only at hSw); go_simp; (try with_reducible rfl))
              simp only [Act.put, List.setIfInBounds_toArray, List.set_cons_zero, List.set_cons_succ]
              refine held_take 5 82 _ ?_ rfl rfl (by kernel_rfl) (by kernel_rfl) (by kernel_rfl) (fun _ _ _ h => h) (by kernel_rfl) (fun w' hSw => ?_) (by assumption) ?_
              rotate_left
              · ((try dsimp only at hSw); go_simp; (try with_reducible rfl))
              simp only [Act.put, List.setIfInBounds_toArray, List.set_cons_zero, List.set_cons_succ]
              refine held_take 6 83 _ ?_ rfl rfl (by kernel_rfl) (by kernel_rfl) (by kernel_rfl) (fun _ _ _ h => h) (by kernel_rfl) (fun w' hSw => ?_) (by assumption) ?_
              rotate_left
              · ((try dsimp only at hSw); go_simp; (try with_reducible rfl))
              simp only [Act.put, List.setIfInBounds_toArray, List.set_cons_zero, List.set_cons_succ]
              refine held_take 7 84 _ ?_ rfl rfl (by kernel_rfl) (by kernel_rfl) (by kernel_rfl) (fun _ _ _ h => h) (by kernel_rfl) (fun w' hSw => ?_) (by assumption) ?_
              rotate_left
              · ((try dsimp only at hSw); go_simp; (try with_reducible rfl))
              simp only [Act.put, List.setIfInBounds_toArray, List.set_cons_zero, List.set_cons_succ]
              refine held_take 9 86 _ ?_ rfl rfl (by kernel_rfl) (by kernel_rfl) (by kernel_rfl) (fun _ _ _ h => h) (by kernel_rfl) (fun w' hSw => ?_) (by assumption) ?_
              rotate_left
              · ((try dsimp only at hSw); go_simp; (try with_reducible rfl))
              simp only [Act.put, List.setIfInBounds_toArray, List.set_cons_zero, List.set_cons_succ]
              refine wpAnyH_ready (rs := [8]) (by kernel_rfl) (by simp) ?_
              refine (AllReadyH.cons rfl (fun K' hK' => ?_) AllReadyH.nil)
              rw [if_pos (show Region.wanted _ _ = true from rfl)]
              go_wp2_with fail
              refine (ET.two_any 7 _ _ _ _ A1 _ _ _ _ _ _ A0 _ _ _).mono ?_
              rintro e wt5 ⟨gt, rfl, hX, hb⟩
              have TT := Lib.hid hX
              have K0t := Lib.hid (K0d.out.on hb)
              have K1t := Lib.hid (K1d.out.on hb)
              have RRt := Lib.hid (RRd.out.on hb)
              go_wp2_with fail
              refine hK'.out _ _ (keep_twelve hHeld hb) (fun hHf => ?_)
              clear hK' K' hb hX hHeld K0d K1d RRd
              (try simp only [Act.put, List.setIfInBounds_toArray, List.set_cons_zero, List.set_cons_succ])
              refine wpAnyH_ready (rs := [10]) (by kernel_rfl) (by simp) ?_
              refine (AllReadyH.cons rfl (fun K' hK' => ?_) AllReadyH.nil)
              rw [if_pos (show Region.wanted _ _ = true from rfl)]
              go_wp2_with fail
              refine (HTW.out 7 (by omega) 1 0 (by omega) (by omega) _ _ _ _ _ _ _ _ TT.out K1t.out K0t.out RRt.out).mono ?_
              rintro e wu5 ⟨rfl, hb⟩
              rw [HQ2.out]
              have K0_5 := Lib.hid (K0t.out.on hb)
              have K1_5 := Lib.hid (K1t.out.on hb)
              have RR_5 := Lib.hid (RRt.out.on hb)
              go_wp2_with fail
              refine hK'.out _ _ (keep_twelve hHf hb) (fun hHg => ?_)
              clear hK' K' hb hHf K0t K1t RRt TT
              (try simp only [Act.put, List.setIfInBounds_toArray, List.set_cons_zero, List.set_cons_succ])
              obtain ⟨a0, a4, g00, g01, g02, g03, g04, g10, g11, g12, g13, g14, hbl⟩ := hHg
              have HBr5 := Lib.hid hbl
              clear hbl
              refine wpAnyH_done (by kernel_rfl) ?_ _
              go_wp2_with fail
              have K0d := Lib.hid (K0_5.out.on (Below.refl _ _).drew)
              have K1d := Lib.hid (K1_5.out.on (Below.refl _ _).drew)
              have RRd := Lib.hid (RR_5.out.on (Below.refl _ _).drew)
              refine wp_region_held_drew (S := (fun w' => w'.cell? ⟨w1.heap.size, 0, none⟩ = some (.int .i64 t.k) ∧ w'.cell? ⟨w1.heap.size, 4, none⟩ = some (.slice (some ⟨bb, o, none⟩) 2 cp) ∧ w'.cell? ⟨bb, o, none⟩ = some (.int .i64 (t.kid 0).k) ∧ w'.cell? ⟨bb, o + 1, none⟩ = some (.int .i64 (t.kid 0).c) ∧ w'.cell? ⟨bb, o + 2, none⟩ = some (.bool (t.kid 0).b) ∧ w'.cell? ⟨bb, o + 3, none⟩ = some (.int .i64 (t.kid 0).n) ∧ w'.cell? ⟨bb, o + 4, none⟩ = some (.slice A0 (t.kid 0).m c0_) ∧ w'.cell? ⟨bb, o + 5, none⟩ = some (.int .i64 (t.kid 1).k) ∧ w'.cell? ⟨bb, o + 5 + 1, none⟩ = some (.int .i64 (t.kid 1).c) ∧ w'.cell? ⟨bb, o + 5 + 2, none⟩ = some (.bool (t.kid 1).b) ∧ w'.cell? ⟨bb, o + 5 + 3, none⟩ = some (.int .i64 (t.kid 1).n) ∧ w'.cell? ⟨bb, o + 5 + 4, none⟩ = some (.slice A1 (t.kid 1).m c1_) ∧ Below w.heap.size w w')) (by kernel_rfl) ⟨a0, a4, g00, g01, g02, g03, g04, g10, g11, g12, g13, g14, HBr5.out.drew⟩ (fun hHeld => ?_)
              clear a0 a4 g00 g01 g02 g03 g04 g10 g11 g12 g13 g14
              generalize hwd : World.drew (wu5) = wd6 at K0d K1d RRd hHeld ⊢
              clear hwd
              refine held_take 0 90 _ ?_ rfl rfl (by kernel_rfl) (by kernel_rfl) (by kernel_rfl) (fun _ _ _ h => h) (by kernel_rfl) (fun w' hSw => ?_) (by assumption) ?_
              rotate_left
              · ((try dsimp only at hSw); go_simp; (try with_reducible rfl))
              simp only [Act.put, List.setIfInBounds_toArray, List.set_cons_zero, List.set_cons_succ]
              refine held_take 1 91 _ ?_ rfl rfl (by kernel_rfl) (by kernel_rfl) (by kernel_rfl) (fun _ _ _ h => h) (by kernel_rfl) (fun w' hSw => ?_) (by assumption) ?_
              rotate_left
              · ((try dsimp only at hSw); go_simp; (try with_reducible rfl))
              simp only [Act.put, List.setIfInBounds_toArray, List.set_cons_zero, List.set_cons_succ]
              refine held_take 2 92 _ ?_ rfl rfl (by kernel_rfl) (by kernel_rfl) (by kernel_rfl) (fun _ _ _ h => h) (by kernel_rfl) (fun w' hSw => ?_) (by assumption) ?_
              rotate_left
              · ((try dsimp only at hSw); go_simp; (try with_reducible rfl))
              simp only [Act.put, List.setIfInBounds_toArray, List.set_cons_zero, List.set_cons_succ]
              refine held_take 3 93 _ ?_ rfl rfl (by kernel_rfl) (by kernel_rfl) (by kernel_rfl) (fun _ _ _ h => h) (by kernel_rfl) (fun w' hSw => ?_) (by assumption) ?_
              rotate_left
              · ((try dsimp only at hSw); go_simp; (try with_reducible rfl))
              simp only [Act.put, List.setIfInBounds_toArray, List.set_cons_zero, List.set_cons_succ]
              refine held_take 4 94 _ ?_ rfl rfl (by kernel_rfl) (by kernel_rfl) (by kernel_rfl) (fun _ _ _ h => h) (by kernel_rfl) (fun w' hSw => ?_) (by assumption) ?_
              rotate_left
              · ((try dsimp only at hSw); go_simp; (try with_reducible rfl))
              simp only [Act.put, List.setIfInBounds_toArray, List.set_cons_zero, List.set_cons_succ]
              refine held_take 5 95 _ ?_ rfl rfl (by kernel_rfl) (by kernel_rfl) (by kernel_rfl) (fun _ _ _ h => h) (by kernel_rfl) (fun w' hSw => ?_) (by assumption) ?_
              rotate_left
              · ((try dsimp only at hSw); go_simp; (try with_reducible rfl))
              simp only [Act.put, List.setIfInBounds_toArray, List.set_cons_zero, List.set_cons_succ]
              refine held_take 6 96 _ ?_ rfl rfl (by kernel_rfl) (by kernel_rfl) (by kernel_rfl) (fun _ _ _ h => h) (by kernel_rfl) (fun w' hSw => ?_) (by assumption) ?_
              rotate_left
              · ((try dsimp only at hSw); go_simp; (try with_reducible rfl))
              simp only [Act.put, List.setIfInBounds_toArray, List.set_cons_zero, List.set_cons_succ]
              refine held_take 7 97 _ ?_ rfl rfl (by kernel_rfl) (by kernel_rfl) (by kernel_rfl) (fun _ _ _ h => h) (by kernel_rfl) (fun w' hSw => ?_) (by assumption) ?_
              rotate_left
              · ((try dsimp only at hSw); go_simp; (try with_reducible rfl))
              simp only [Act.put, List.setIfInBounds_toArray, List.set_cons_zero, List.set_cons_succ]
              refine held_take 9 99 _ ?_ rfl rfl (by kernel_rfl) (by kernel_rfl) (by kernel_rfl) (fun _ _ _ h => h) (by kernel_rfl) (fun w' hSw => ?_) (by assumption) ?_
              rotate_left
              · ((try dsimp only at hSw); go_simp; (try with_reducible rfl))
              simp only [Act.put, List.setIfInBounds_toArray, List.set_cons_zero, List.set_cons_succ]
              refine wpAnyH_ready (rs := [8]) (by kernel_rfl) (by simp) ?_
              refine (AllReadyH.cons rfl (fun K' hK' => ?_) AllReadyH.nil)
              rw [if_pos (show Region.wanted _ _ = true from rfl)]
              go_wp2_with fail
              refine (ET.two_any 6 _ _ _ _ A0 _ _ _ _ _ _ A1 _ _ _).mono ?_
              rintro e wt6 ⟨gt, rfl, hX, hb⟩
              have TT := Lib.hid hX
              have K0t := Lib.hid (K0d.out.on hb)
              have K1t := Lib.hid (K1d.out.on hb)
              have RRt := Lib.hid (RRd.out.on hb)
              go_wp2_with fail
              refine hK'.out _ _ (keep_twelve hHeld hb) (fun hHf => ?_)
              clear hK' K' hb hX hHeld K0d K1d RRd
              (try simp only [Act.put, List.setIfInBounds_toArray, List.set_cons_zero, List.set_cons_succ])
              refine wpAnyH_ready (rs := [10]) (by kernel_rfl) (by simp) ?_
              refine (AllReadyH.cons rfl (fun K' hK' => ?_) AllReadyH.nil)
              rw [if_pos (show Region.wanted _ _ = true from rfl)]
              go_wp2_with fail
              refine (HTW.out 6 (by omega) 0 1 (by omega) (by omega) _ _ _ _ _ _ _ _ TT.out K0t.out K1t.out RRt.out).mono ?_
              rintro e wu6 ⟨rfl, hb⟩
              rw [HQ3.out]
              have K0_6 := Lib.hid (K0t.out.on hb)
              have K1_6 := Lib.hid (K1t.out.on hb)
              have RR_6 := Lib.hid (RRt.out.on hb)
              go_wp2_with fail
              refine hK'.out _ _ (keep_twelve hHf hb) (fun hHg => ?_)
              clear hK' K' hb hHf K0t K1t RRt TT
              (try simp only [Act.put, List.setIfInBounds_toArray, List.set_cons_zero, List.set_cons_succ])
              obtain ⟨a0, a4, g00, g01, g02, g03, g04, g10, g11, g12, g13, g14, hbl⟩ := hHg
              have HBr6 := Lib.hid hbl
              clear hbl
              refine wpAnyH_done (by kernel_rfl) ?_ _
              go_wp2_with fail
              go_ret
              first | exact ⟨rfl, HBr6.out⟩ | exact ⟨ET.ret_of rfl (by simp), HBr6.out⟩
            · have HQ1 := Lib.hid ((ET.comb7 HN.out.1 HN.out.2).trans q1)
              have HQ2 := Lib.hid ((ET.comb7 HN.out.2 HN.out.1).trans q2)
              have HQ3 := Lib.hid ((ET.comb6 HN.out.1 HN.out.2).trans q3)
              clear q1 q2 q3
              have K0d := Lib.hid (HK0.out.on (Below.refl _ _).drew)
              have K1d := Lib.hid (HK1.out.on (Below.refl _ _).drew)
              have RRd := Lib.hid (HR_6.out.on (Below.refl _ _).drew)
              refine wp_region_held_drew (S := (fun w' => w'.cell? ⟨w1.heap.size, 0, none⟩ = some (.int .i64 t.k) ∧ w'.cell? ⟨w1.heap.size, 4, none⟩ = some (.slice (some ⟨bb, o, none⟩) 2 cp) ∧ w'.cell? ⟨bb, o, none⟩ = some (.int .i64 (t.kid 0).k) ∧ w'.cell? ⟨bb, o + 1, none⟩ = some (.int .i64 (t.kid 0).c) ∧ w'.cell? ⟨bb, o + 2, none⟩ = some (.bool (t.kid 0).b) ∧ w'.cell? ⟨bb, o + 3, none⟩ = some (.int .i64 (t.kid 0).n) ∧ w'.cell? ⟨bb, o + 4, none⟩ = some (.slice A0 (t.kid 0).m c0_) ∧ w'.cell? ⟨bb, o + 5, none⟩ = some (.int .i64 (t.kid 1).k) ∧ w'.cell? ⟨bb, o + 5 + 1, none⟩ = some (.int .i64 (t.kid 1).c) ∧ w'.cell? ⟨bb, o + 5 + 2, none⟩ = some (.bool (t.kid 1).b) ∧ w'.cell? ⟨bb, o + 5 + 3, none⟩ = some (.int .i64 (t.kid 1).n) ∧ w'.cell? ⟨bb, o + 5 + 4, none⟩ = some (.slice A1 (t.kid 1).m c1_) ∧ Below w.heap.size w w')) (by kernel_rfl) ⟨a0, a4, g00, g01, g02, g03, g04, g10, g11, g12, g13, g14, HB_6.out.drew⟩ (fun hHeld => ?_)
              clear a0 a4 g00 g01 g02 g03 g04 g10 g11 g12 g13 g14
              generalize hwd : World.drew (w5.alloc (.cells #[.bool false, .int .i64 nv] 24)) = wd7 at K0d K1d RRd hHeld ⊢
              clear hwd
              refine held_take 0 64 _ ?_ rfl rfl (by kernel_rfl) (by kernel_rfl) (by kernel_rfl) (fun _ _ _ h => h) (by kernel_rfl) (fun w' hSw => ?_) (by assumption) ?_
              rotate_left
              · ((try dsimp only at hSw); go_simp; (try with_reducible rfl))
              simp only [Act.put, List.setIfInBounds_toArray, List.set_cons_zero, List.set_cons_succ]
              refine held_take 1 65 _ ?_ rfl rfl (by kernel_rfl) (by kernel_rfl) (by kernel_rfl) (fun _ _ _ h => h) (by kernel_rfl) (fun w' hSw => ?_) (by assumption) ?_
              rotate_left
              · ((try dsimp only at hSw); go_simp; (try with_reducible rfl))
              simp only [Act.put, List.setIfInBounds_toArray, List.set_cons_zero, List.set_cons_succ]
              refine held_take 2 66 _ ?_ rfl rfl (by kernel_rfl) (by kernel_rfl) (by kernel_rfl) (fun _ _ _ h => h) (by kernel_rfl) (fun w' hSw => ?_) (by assumption) ?_
              rotate_left
              · ((try dsimp only at hSw); go_simp; (try with_reducible rfl))
              simp only [Act.put, List.setIfInBounds_toArray, List.set_cons_zero, List.set_cons_succ]
              refine held_take 3 67 _ ?_ rfl rfl (by kernel_rfl) (by kernel_rfl) (by kernel_rfl) (fun _ _ _ h => h) (by kernel_rfl) (fun w' hSw => ?_) (by assumption) ?_
              rotate_left
              · ((try dsimp only at hSw); go_simp; (try with_reducible rfl))
              simp only [Act.put, List.setIfInBounds_toArray, List.set_cons_zero, List.set_cons_succ]
              refine held_take 4 68 _ ?_ rfl rfl (by kernel_rfl) (by kernel_rfl) (by kernel_rfl) (fun _ _ _ h => h) (by kernel_rfl) (fun w' hSw => ?_) (by assumption) ?_
              rotate_left
              · ((try dsimp only at hSw); go_simp; (try with_reducible rfl))
              simp only [Act.put, List.setIfInBounds_toArray, List.set_cons_zero, List.set_cons_succ]
              refine held_take 5 69 _ ?_ rfl rfl (by kernel_rfl) (by kernel_rfl) (by kernel_rfl) (fun _ _ _ h => h) (by kernel_rfl) (fun w' hSw => ?_) (by assumption) ?_
              rotate_left
              · ((try dsimp only at hSw); go_simp; (try with_reducible rfl))
              simp only [Act.put, List.setIfInBounds_toArray, List.set_cons_zero, List.set_cons_succ]
              refine held_take 6 70 _ ?_ rfl rfl (by kernel_rfl) (by kernel_rfl) (by kernel_rfl) (fun _ _ _ h => h) (by kernel_rfl) (fun w' hSw => ?_) (by assumption) ?_
              rotate_left
              · ((try dsimp only at hSw); go_simp; (try with_reducible rfl))
              simp only [Act.put, List.setIfInBounds_toArray, List.set_cons_zero, List.set_cons_succ]
              refine held_take 7 71 _ ?_ rfl rfl (by kernel_rfl) (by kernel_rfl) (by kernel_rfl) (fun _ _ _ h => h) (by kernel_rfl) (fun w' hSw => ?_) (by assumption) ?_
              rotate_left
              · ((try dsimp only at hSw); go_simp; (try with_reducible rfl))
              simp only [Act.put, List.setIfInBounds_toArray, List.set_cons_zero, List.set_cons_succ]
              refine held_take 9 73 _ ?_ rfl rfl (by kernel_rfl) (by kernel_rfl) (by kernel_rfl) (fun _ _ _ h => h) (by kernel_rfl) (fun w' hSw => ?_) (by assumption) ?_
              rotate_left
              · ((try dsimp only at hSw); go_simp; (try with_reducible rfl))
              simp only [Act.put, List.setIfInBounds_toArray, List.set_cons_zero, List.set_cons_succ]
              refine wpAnyH_ready (rs := [8]) (by kernel_rfl) (by simp) ?_
              refine (AllReadyH.cons rfl (fun K' hK' => ?_) AllReadyH.nil)
              rw [if_pos (show Region.wanted _ _ = true from rfl)]
              go_wp2_with fail
              refine (ET.two_any 7 _ _ _ _ A0 _ _ _ _ _ _ A1 _ _ _).mono ?_
              rintro e wt7 ⟨gt, rfl, hX, hb⟩
              have TT := Lib.hid hX
              have K0t := Lib.hid (K0d.out.on hb)
              have K1t := Lib.hid (K1d.out.on hb)
              have RRt := Lib.hid (RRd.out.on hb)
              go_wp2_with fail
              refine hK'.out _ _ (keep_twelve hHeld hb) (fun hHf => ?_)
              clear hK' K' hb hX hHeld K0d K1d RRd
              (try simp only [Act.put, List.setIfInBounds_toArray, List.set_cons_zero, List.set_cons_succ])
              refine wpAnyH_ready (rs := [10]) (by kernel_rfl) (by simp) ?_
              refine (AllReadyH.cons rfl (fun K' hK' => ?_) AllReadyH.nil)
              rw [if_pos (show Region.wanted _ _ = true from rfl)]
              go_wp2_with fail
              refine (HTW.out 7 (by omega) 0 1 (by omega) (by omega) _ _ _ _ _ _ _ _ TT.out K0t.out K1t.out RRt.out).mono ?_
              rintro e wu7 ⟨rfl, hb⟩
              rw [HQ1.out]
              have K0_7 := Lib.hid (K0t.out.on hb)
              have K1_7 := Lib.hid (K1t.out.on hb)
              have RR_7 := Lib.hid (RRt.out.on hb)
              go_wp2_with fail
              refine hK'.out _ _ (keep_twelve hHf hb) (fun hHg => ?_)
              clear hK' K' hb hHf K0t K1t RRt TT
              (try simp only [Act.put, List.setIfInBounds_toArray, List.set_cons_zero, List.set_cons_succ])
              obtain ⟨a0, a4, g00, g01, g02, g03, g04, g10, g11, g12, g13, g14, hbl⟩ := hHg
              have HBr7 := Lib.hid hbl
              clear hbl
              refine wpAnyH_done (by kernel_rfl) ?_ _
              go_wp2_with fail
              have K0d := Lib.hid (K0_7.out.on (Below.refl _ _).drew)
              have K1d := Lib.hid (K1_7.out.on (Below.refl _ _).drew)
              have RRd := Lib.hid (RR_7.out.on (Below.refl _ _).drew)
              refine wp_region_held_drew (S := (fun w' => w'.cell? ⟨w1.heap.size, 0, none⟩ = some (.int .i64 t.k) ∧ w'.cell? ⟨w1.heap.size, 4, none⟩ = some (.slice (some ⟨bb, o, none⟩) 2 cp) ∧ w'.cell? ⟨bb, o, none⟩ = some (.int .i64 (t.kid 0).k) ∧ w'.cell? ⟨bb, o + 1, none⟩ = some (.int .i64 (t.kid 0).c) ∧ w'.cell? ⟨bb, o + 2, none⟩ = some (.bool (t.kid 0).b) ∧ w'.cell? ⟨bb, o + 3, none⟩ = some (.int .i64 (t.kid 0).n) ∧ w'.cell? ⟨bb, o + 4, none⟩ = some (.slice A0 (t.kid 0).m c0_) ∧ w'.cell? ⟨bb, o + 5, none⟩ = some (.int .i64 (t.kid 1).k) ∧ w'.cell? ⟨bb, o + 5 + 1, none⟩ = some (.int .i64 (t.kid 1).c) ∧ w'.cell? ⟨bb, o + 5 + 2, none⟩ = some (.bool (t.kid 1).b) ∧ w'.cell? ⟨bb, o + 5 + 3, none⟩ = some (.int .i64 (t.kid 1).n) ∧ w'.cell? ⟨bb, o + 5 + 4, none⟩ = some (.slice A1 (t.kid 1).m c1_) ∧ Below w.heap.size w w')) (by kernel_rfl) ⟨a0, a4, g00, g01, g02, g03, g04, g10, g11, g12, g13, g14, HBr7.out.drew⟩ (fun hHeld => ?_)
              clear a0 a4 g00 g01 g02 g03 g04 g10 g11 g12 g13 g14
              generalize hwd : World.drew (wu7) = wd8 at K0d K1d RRd hHeld ⊢
              clear hwd
              refine held_take 0 77 _ ?_ rfl rfl (by kernel_rfl) (by kernel_rfl) (by kernel_rfl) (fun _ _ _ h => h) (by kernel_rfl) (fun w' hSw => ?_) (by assumption) ?_
              rotate_left
              · ((try dsimp only at hSw); go_simp; (try with_reducible rfl))
              simp only [Act.put, List.setIfInBounds_toArray, List.set_cons_zero, List.set_cons_succ]
              refine held_take 1 78 _ ?_ rfl rfl (by kernel_rfl) (by kernel_rfl) (by kernel_rfl) (fun _ _ _ h => h) (by kernel_rfl) (fun w' hSw => ?_) (by assumption) ?_
              rotate_left
              · ((try dsimp only at hSw); go_simp; (try with_reducible rfl))
              simp only [Act.put, List.setIfInBounds_toArray, List.set_cons_zero, List.set_cons_succ]
              refine held_take 2 79 _ ?_ rfl rfl (by kernel_rfl) (by kernel_rfl) (by kernel_rfl) (fun _ _ _ h => h) (by kernel_rfl) (fun w' hSw => ?_) (by assumption) ?_
              rotate_left
              · ((try dsimp only at hSw); go_simp; (try with_reducible rfl))
              simp only [Act.put, List.setIfInBounds_toArray, List.set_cons_zero, List.set_cons_succ]
              refine held_take 3 80 _ ?_ rfl rfl (by kernel_rfl) (by kernel_rfl) (by kernel_rfl) (fun _ _ _ h => h) (by kernel_rfl) (fun w' hSw => ?_) (by assumption) ?_
              rotate_left
              · ((try dsimp only at hSw); go_simp; (try with_reducible rfl))
              simp only [Act.put, List.setIfInBounds_toArray, List.set_cons_zero, List.set_cons_succ]
              refine held_take 4 81 _ ?_ rfl rfl (by kernel_rfl) (by kernel_rfl) (by kernel_rfl) (fun _ _ _ h => h) (by kernel_rfl) (fun w' hSw => ?_) (by assumption) ?_
              rotate_left
              · ((try dsimp only at hSw); go_simp; (try with_reducible rfl))
              simp only [Act.put, List.setIfInBounds_toArray, List.set_cons_zero, List.set_cons_succ]
              refine held_take 5 82 _ ?_ rfl rfl (by kernel_rfl) (by kernel_rfl) (by kernel_rfl) (fun _ _ _ h => h) (by kernel_rfl) (fun w' hSw => ?_) (by assumption) ?_
              rotate_left
              · ((try dsimp only at hSw); go_simp; (try with_reducible rfl))
              simp only [Act.put, List.setIfInBounds_toArray, List.set_cons_zero, List.set_cons_succ]
              refine held_take 6 83 _ ?_ rfl rfl (by kernel_rfl) (by kernel_rfl) (by kernel_rfl) (fun _ _ _ h => h) (by kernel_rfl) (fun w' hSw => ?_) (by assumption) ?_
              rotate_left
              · ((try dsimp only at hSw); go_simp; (try with_reducible rfl))
              simp only [Act.put, List.setIfInBounds_toArray, List.set_cons_zero, List.set_cons_succ]
              refine held_take 7 84 _ ?_ rfl rfl (by kernel_rfl) (by kernel_rfl) (by kernel_rfl) (fun _ _ _ h => h) (by kernel_rfl) (fun w' hSw => ?_) (by assumption) ?_
              rotate_left
              · ((try dsimp only at hSw); go_simp; (try with_reducible rfl))
              simp only [Act.put, List.setIfInBounds_toArray, List.set_cons_zero, List.set_cons_succ]
              refine held_take 9 86 _ ?_ rfl rfl (by kernel_rfl) (by kernel_rfl) (by kernel_rfl) (fun _ _ _ h => h) (by kernel_rfl) (fun w' hSw => ?_) (by assumption) ?_
              rotate_left
              · ((try dsimp only at hSw); go_simp; (try with_reducible rfl))
              simp only [Act.put, List.setIfInBounds_toArray, List.set_cons_zero, List.set_cons_succ]
              refine wpAnyH_ready (rs := [8]) (by kernel_rfl) (by simp) ?_
              refine (AllReadyH.cons rfl (fun K' hK' => ?_) AllReadyH.nil)
              rw [if_pos (show Region.wanted _ _ = true from rfl)]
              go_wp2_with fail
              refine (ET.two_any 7 _ _ _ _ A1 _ _ _ _ _ _ A0 _ _ _).mono ?_
              rintro e wt8 ⟨gt, rfl, hX, hb⟩
              have TT := Lib.hid hX
              have K0t := Lib.hid (K0d.out.on hb)
              have K1t := Lib.hid (K1d.out.on hb)
              have RRt := Lib.hid (RRd.out.on hb)
              go_wp2_with fail
              refine hK'.out _ _ (keep_twelve hHeld hb) (fun hHf => ?_)
              clear hK' K' hb hX hHeld K0d K1d RRd
              (try simp only [Act.put, List.setIfInBounds_toArray, List.set_cons_zero, List.set_cons_succ])
              refine wpAnyH_ready (rs := [10]) (by kernel_rfl) (by simp) ?_
              refine (AllReadyH.cons rfl (fun K' hK' => ?_) AllReadyH.nil)
              rw [if_pos (show Region.wanted _ _ = true from rfl)]
              go_wp2_with fail
              refine (HTW.out 7 (by omega) 1 0 (by omega) (by omega) _ _ _ _ _ _ _ _ TT.out K1t.out K0t.out RRt.out).mono ?_
              rintro e wu8 ⟨rfl, hb⟩
              rw [HQ2.out]
              have K0_8 := Lib.hid (K0t.out.on hb)
              have K1_8 := Lib.hid (K1t.out.on hb)
              have RR_8 := Lib.hid (RRt.out.on hb)
              go_wp2_with fail
              refine hK'.out _ _ (keep_twelve hHf hb) (fun hHg => ?_)
              clear hK' K' hb hHf K0t K1t RRt TT
              (try simp only [Act.put, List.setIfInBounds_toArray, List.set_cons_zero, List.set_cons_succ])
              obtain ⟨a0, a4, g00, g01, g02, g03, g04, g10, g11, g12, g13, g14, hbl⟩ := hHg
              have HBr8 := Lib.hid hbl
              clear hbl
              refine wpAnyH_done (by kernel_rfl) ?_ _
              go_wp2_with fail
              have K0d := Lib.hid (K0_8.out.on (Below.refl _ _).drew)
              have K1d := Lib.hid (K1_8.out.on (Below.refl _ _).drew)
              have RRd := Lib.hid (RR_8.out.on (Below.refl _ _).drew)
              refine wp_region_held_drew (S := (fun w' => w'.cell? ⟨w1.heap.size, 0, none⟩ = some (.int .i64 t.k) ∧ w'.cell? ⟨w1.heap.size, 4, none⟩ = some (.slice (some ⟨bb, o, none⟩) 2 cp) ∧ w'.cell? ⟨bb, o, none⟩ = some (.int .i64 (t.kid 0).k) ∧ w'.cell? ⟨bb, o + 1, none⟩ = some (.int .i64 (t.kid 0).c) ∧ w'.cell? ⟨bb, o + 2, none⟩ = some (.bool (t.kid 0).b) ∧ w'.cell? ⟨bb, o + 3, none⟩ = some (.int .i64 (t.kid 0).n) ∧ w'.cell? ⟨bb, o + 4, none⟩ = some (.slice A0 (t.kid 0).m c0_) ∧ w'.cell? ⟨bb, o + 5, none⟩ = some (.int .i64 (t.kid 1).k) ∧ w'.cell? ⟨bb, o + 5 + 1, none⟩ = some (.int .i64 (t.kid 1).c) ∧ w'.cell? ⟨bb, o + 5 + 2, none⟩ = some (.bool (t.kid 1).b) ∧ w'.cell? ⟨bb, o + 5 + 3, none⟩ = some (.int .i64 (t.kid 1).n) ∧ w'.cell? ⟨bb, o + 5 + 4, none⟩ = some (.slice A1 (t.kid 1).m c1_) ∧ Below w.heap.size w w')) (by kernel_rfl) ⟨a0, a4, g00, g01, g02, g03, g04, g10, g11, g12, g13, g14, HBr8.out.drew⟩ (fun hHeld => ?_)
              clear a0 a4 g00 g01 g02 g03 g04 g10 g11 g12 g13 g14
              generalize hwd : World.drew (wu8) = wd9 at K0d K1d RRd hHeld ⊢
              clear hwd
              refine held_take 0 90 _ ?_ rfl rfl (by kernel_rfl) (by kernel_rfl) (by kernel_rfl) (fun _ _ _ h => h) (by kernel_rfl) (fun w' hSw => ?_) (by assumption) ?_
              rotate_left
              · ((try dsimp only at hSw); go_simp; (try with_reducible rfl))
              simp only [Act.put, List.setIfInBounds_toArray, List.set_cons_zero, List.set_cons_succ]
              refine held_take 1 91 _ ?_ rfl rfl (by kernel_rfl) (by kernel_rfl) (by kernel_rfl) (fun _ _ _ h => h) (by kernel_rfl) (fun w' hSw => ?_) (by assumption) ?_
              rotate_left
              · ((try dsimp only at hSw); go_simp; (try with_reducible rfl))
              simp only [Act.put, List.setIfInBounds_toArray, List.set_cons_zero, List.set_cons_succ]
              refine held_take 2 92 _ ?_ rfl rfl (by kernel_rfl) (by kernel_rfl) (by kernel_rfl) (fun _ _ _ h => h) (by kernel_rfl) (fun w' hSw => ?_) (by assumption) ?_
              rotate_left
              · ((try dsimp only at hSw); go_simp; (try with_reducible rfl))
              simp only [Act.put, List.setIfInBounds_toArray, List.set_cons_zero, List.set_cons_succ]
              refine held_take 3 93 _ ?_ rfl rfl (by kernel_rfl) (by kernel_rfl) (by kernel_rfl) (fun _ _ _ h => h) (by kernel_rfl) (fun w' hSw => ?_) (by assumption) ?_
              rotate_left
              · ((try dsimp only at hSw); go_simp; (try with_reducible rfl))
              simp only [Act.put, List.setIfInBounds_toArray, List.set_cons_zero, List.set_cons_succ]
              refine held_take 4 94 _ ?_ rfl rfl (by kernel_rfl) (by kernel_rfl) (by kernel_rfl) (fun _ _ _ h => h) (by kernel_rfl) (fun w' hSw => ?_) (by assumption) ?_
              rotate_left
              · ((try dsimp only at hSw); go_simp; (try with_reducible rfl))
              simp only [Act.put, List.setIfInBounds_toArray, List.set_cons_zero, List.set_cons_succ]
              refine held_take 5 95 _ ?_ rfl rfl (by kernel_rfl) (by kernel_rfl) (by kernel_rfl) (fun _ _ _ h => h) (by kernel_rfl) (fun w' hSw => ?_) (by assumption) ?_
              rotate_left
              · ((try dsimp only at hSw); go_simp; (try with_reducible rfl))
              simp only [Act.put, List.setIfInBounds_toArray, List.set_cons_zero, List.set_cons_succ]
              refine held_take 6 96 _ ?_ rfl rfl (by kernel_rfl) (by kernel_rfl) (by kernel_rfl) (fun _ _ _ h => h) (by kernel_rfl) (fun w' hSw => ?_) (by assumption) ?_
              rotate_left
              · ((try dsimp only at hSw); go_simp; (try with_reducible rfl))
              simp only [Act.put, List.setIfInBounds_toArray, List.set_cons_zero, List.set_cons_succ]
              refine held_take 7 97 _ ?_ rfl rfl (by kernel_rfl) (by kernel_rfl) (by kernel_rfl) (fun _ _ _ h => h) (by kernel_rfl) (fun w' hSw => ?_) (by assumption) ?_
              rotate_left
              · ((try dsimp only at hSw); go_simp; (try with_reducible rfl))
              simp only [Act.put, List.setIfInBounds_toArray, List.set_cons_zero, List.set_cons_succ]
              refine held_take 9 99 _ ?_ rfl rfl (by kernel_rfl) (by kernel_rfl) (by kernel_rfl) (fun _ _ _ h => h) (by kernel_rfl) (fun w' hSw => ?_) (by assumption) ?_
              rotate_left
              · ((try dsimp only at hSw); go_simp; (try with_reducible rfl))
              simp only [Act.put, List.setIfInBounds_toArray, List.set_cons_zero, List.set_cons_succ]
              refine wpAnyH_ready (rs := [8]) (by kernel_rfl) (by simp) ?_
              refine (AllReadyH.cons rfl (fun K' hK' => ?_) AllReadyH.nil)
              rw [if_pos (show Region.wanted _ _ = true from rfl)]
              go_wp2_with fail
              refine (ET.two_any 6 _ _ _ _ A0 _ _ _ _ _ _ A1 _ _ _).mono ?_
              rintro e wt9 ⟨gt, rfl, hX, hb⟩
              have TT := Lib.hid hX
              have K0t := Lib.hid (K0d.out.on hb)
              have K1t := Lib.hid (K1d.out.on hb)
              have RRt := Lib.hid (RRd.out.on hb)
              go_wp2_with fail
              refine hK'.out _ _ (keep_twelve hHeld hb) (fun hHf => ?_)
              clear hK' K' hb hX hHeld K0d K1d RRd
              (try simp only [Act.put, List.setIfInBounds_toArray, List.set_cons_zero, List.set_cons_succ])
              refine wpAnyH_ready (rs := [10]) (by kernel_rfl) (by simp) ?_
              refine (AllReadyH.cons rfl (fun K' hK' => ?_) AllReadyH.nil)
              rw [if_pos (show Region.wanted _ _ = true from rfl)]
              go_wp2_with fail
              refine (HTW.out 6 (by omega) 0 1 (by omega) (by omega) _ _ _ _ _ _ _ _ TT.out K0t.out K1t.out RRt.out).mono ?_
              rintro e wu9 ⟨rfl, hb⟩
              rw [HQ3.out]
              have K0_9 := Lib.hid (K0t.out.on hb)
              have K1_9 := Lib.hid (K1t.out.on hb)
              have RR_9 := Lib.hid (RRt.out.on hb)
              go_wp2_with fail
              refine hK'.out _ _ (keep_twelve hHf hb) (fun hHg => ?_)
              clear hK' K' hb hHf K0t K1t RRt TT
              (try simp only [Act.put, List.setIfInBounds_toArray, List.set_cons_zero, List.set_cons_succ])
              obtain ⟨a0, a4, g00, g01, g02, g03, g04, g10, g11, g12, g13, g14, hbl⟩ := hHg
              have HBr9 := Lib.hid hbl
              clear hbl
              refine wpAnyH_done (by kernel_rfl) ?_ _
              go_wp2_with fail
              go_ret
              first | exact ⟨rfl, HBr9.out⟩ | exact ⟨ET.ret_of rfl (by simp), HBr9.out⟩
          · have hb7 : (t.k != 7) = false := by rw [hk]; rfl
            clear hk
            go_wp2_with fail
            clear a1 a2 a3 b0 b1 c0 c1
            rcases lt_three ((t.kid 0).ev f).n ((t.kid 1).ev f).n with ⟨q1, q2, q3⟩ | ⟨q1, q2, q3⟩ | ⟨q1, q2, q3⟩
            · have HQ1 := Lib.hid ((ET.comb7 HN.out.1 HN.out.2).trans q1)
              have HQ2 := Lib.hid ((ET.comb7 HN.out.2 HN.out.1).trans q2)
              have HQ3 := Lib.hid ((ET.comb6 HN.out.1 HN.out.2).trans q3)
              clear q1 q2 q3
              have K0d := Lib.hid (HK0.out.on (Below.refl _ _).drew)
              have K1d := Lib.hid (HK1.out.on (Below.refl _ _).drew)
              have RRd := Lib.hid (HR_6.out.on (Below.refl _ _).drew)
              refine wp_region_held_drew (S := (fun w' => w'.cell? ⟨w1.heap.size, 0, none⟩ = some (.int .i64 t.k) ∧ w'.cell? ⟨w1.heap.size, 4, none⟩ = some (.slice (some ⟨bb, o, none⟩) 2 cp) ∧ w'.cell? ⟨bb, o, none⟩ = some (.int .i64 (t.kid 0).k) ∧ w'.cell? ⟨bb, o + 1, none⟩ = some (.int .i64 (t.kid 0).c) ∧ w'.cell? ⟨bb, o + 2, none⟩ = some (.bool (t.kid 0).b) ∧ w'.cell? ⟨bb, o + 3, none⟩ = some (.int .i64 (t.kid 0).n) ∧ w'.cell? ⟨bb, o + 4, none⟩ = some (.slice A0 (t.kid 0).m c0_) ∧ w'.cell? ⟨bb, o + 5, none⟩ = some (.int .i64 (t.kid 1).k) ∧ w'.cell? ⟨bb, o + 5 + 1, none⟩ = some (.int .i64 (t.kid 1).c) ∧ w'.cell? ⟨bb, o + 5 + 2, none⟩ = some (.bool (t.kid 1).b) ∧ w'.cell? ⟨bb, o + 5 + 3, none⟩ = some (.int .i64 (t.kid 1).n) ∧ w'.cell? ⟨bb, o + 5 + 4, none⟩ = some (.slice A1 (t.kid 1).m c1_) ∧ Below w.heap.size w w')) (by kernel_rfl) ⟨a0, a4, g00, g01, g02, g03, g04, g10, g11, g12, g13, g14, HB_6.out.drew⟩ (fun hHeld => ?_)
              clear a0 a4 g00 g01 g02 g03 g04 g10 g11 g12 g13 g14
              generalize hwd : World.drew (w5.alloc (.cells #[.bool false, .int .i64 nv] 24)) = wd10 at K0d K1d RRd hHeld ⊢
              clear hwd
              refine held_take 0 64 _ ?_ rfl rfl (by kernel_rfl) (by kernel_rfl) (by kernel_rfl) (fun _ _ _ h => h) (by kernel_rfl) (fun w' hSw => ?_) (by assumption) ?_
              rotate_left
              · ((try dsimp only at hSw); go_simp; (try with_reducible rfl))
              simp only [Act.put, List.setIfInBounds_toArray, List.set_cons_zero, List.set_cons_succ]
              refine held_take 1 65 _ ?_ rfl rfl (by kernel_rfl) (by kernel_rfl) (by kernel_rfl) (fun _ _ _ h => h) (by kernel_rfl) (fun w' hSw => ?_) (by assumption) ?_
              rotate_left
              · ((try dsimp only at hSw); go_simp; (try with_reducible rfl))
              simp only [Act.put, List.setIfInBounds_toArray, List.set_cons_zero, List.set_cons_succ]
              refine held_take 2 66 _ ?_ rfl rfl (by kernel_rfl) (by kernel_rfl) (by kernel_rfl) (fun _ _ _ h => h) (by kernel_rfl) (fun w' hSw => ?_) (by assumption) ?_
              rotate_left
              · ((try dsimp only at hSw); go_simp; (try with_reducible rfl))
              simp only [Act.put, List.setIfInBounds_toArray, List.set_cons_zero, List.set_cons_succ]
              refine held_take 3 67 _ ?_ rfl rfl (by kernel_rfl) (by kernel_rfl) (by kernel_rfl) (fun _ _ _ h => h) (by kernel_rfl) (fun w' hSw => ?_) (by assumption) ?_
              rotate_left
              · ((try dsimp only at hSw); go_simp; (try with_reducible rfl))
              simp only [Act.put, List.setIfInBounds_toArray, List.set_cons_zero, List.set_cons_succ]
              refine held_take 4 68 _ ?_ rfl rfl (by kernel_rfl) (by kernel_rfl) (by kernel_rfl) (fun _ _ _ h => h) (by kernel_rfl) (fun w' hSw => ?_) (by assumption) ?_
              rotate_left
              · ((try dsimp only at hSw); go_simp; (try with_reducible rfl))
              simp only [Act.put, List.setIfInBounds_toArray, List.set_cons_zero, List.set_cons_succ]
              refine held_take 5 69 _ ?_ rfl rfl (by kernel_rfl) (by kernel_rfl) (by kernel_rfl) (fun _ _ _ h => h) (by kernel_rfl) (fun w' hSw => ?_) (by assumption) ?_
              rotate_left
              · ((try dsimp only at hSw); go_simp; (try with_reducible rfl))
              simp only [Act.put, List.setIfInBounds_toArray, List.set_cons_zero, List.set_cons_succ]
              refine held_take 6 70 _ ?_ rfl rfl (by kernel_rfl) (by kernel_rfl) (by kernel_rfl) (fun _ _ _ h => h) (by kernel_rfl) (fun w' hSw => ?_) (by assumption) ?_
              rotate_left
              · ((try dsimp only at hSw); go_simp; (try with_reducible rfl))
              simp only [Act.put, List.setIfInBounds_toArray, List.set_cons_zero, List.set_cons_succ]
              refine held_take 7 71 _ ?_ rfl rfl (by kernel_rfl) (by kernel_rfl) (by kernel_rfl) (fun _ _ _ h => h) (by kernel_rfl) (fun w' hSw => ?_) (by assumption) ?_
              rotate_left
              · ((try dsimp only at hSw); go_simp; (try with_reducible rfl))
              simp only [Act.put, List.setIfInBounds_toArray, List.set_cons_zero, List.set_cons_succ]
              refine held_take 9 73 _ ?_ rfl rfl (by kernel_rfl) (by kernel_rfl) (by kernel_rfl) (fun _ _ _ h => h) (by kernel_rfl) (fun w' hSw => ?_) (by assumption) ?_
              rotate_left
              · ((try dsimp only at hSw); go_simp; (try with_reducible rfl))
              simp only [Act.put, List.setIfInBounds_toArray, List.set_cons_zero, List.set_cons_succ]
              refine wpAnyH_ready (rs := [8]) (by kernel_rfl) (by simp) ?_
              refine (AllReadyH.cons rfl (fun K' hK' => ?_) AllReadyH.nil)
              rw [if_pos (show Region.wanted _ _ = true from rfl)]
              go_wp2_with fail
              refine (ET.two_any 7 _ _ _ _ A0 _ _ _ _ _ _ A1 _ _ _).mono ?_
              rintro e wt10 ⟨gt, rfl, hX, hb⟩
              have TT := Lib.hid hX
              have K0t := Lib.hid (K0d.out.on hb)
              have K1t := Lib.hid (K1d.out.on hb)
              have RRt := Lib.hid (RRd.out.on hb)
              go_wp2_with fail
              refine hK'.out _ _ (keep_twelve hHeld hb) (fun hHf => ?_)
              clear hK' K' hb hX hHeld K0d K1d RRd
              (try simp only [Act.put, List.setIfInBounds_toArray, List.set_cons_zero, List.set_cons_succ])
              refine wpAnyH_ready (rs := [10]) (by kernel_rfl) (by simp) ?_
              refine (AllReadyH.cons rfl (fun K' hK' => ?_) AllReadyH.nil)
              rw [if_pos (show Region.wanted _ _ = true from rfl)]
              go_wp2_with fail
              refine (HTW.out 7 (by omega) 0 1 (by omega) (by omega) _ _ _ _ _ _ _ _ TT.out K0t.out K1t.out RRt.out).mono ?_
              rintro e wu10 ⟨rfl, hb⟩
              rw [HQ1.out]
              have K0_10 := Lib.hid (K0t.out.on hb)
              have K1_10 := Lib.hid (K1t.out.on hb)
              have RR_10 := Lib.hid (RRt.out.on hb)
              go_wp2_with fail
              refine hK'.out _ _ (keep_twelve hHf hb) (fun hHg => ?_)
              clear hK' K' hb hHf K0t K1t RRt TT
              (try simp only [Act.put, List.setIfInBounds_toArray, List.set_cons_zero, List.set_cons_succ])
              obtain ⟨a0, a4, g00, g01, g02, g03, g04, g10, g11, g12, g13, g14, hbl⟩ := hHg
              have HBr10 := Lib.hid hbl
              clear hbl
              refine wpAnyH_done (by kernel_rfl) ?_ _
              go_wp2_with fail
              have K0d := Lib.hid (K0_10.out.on (Below.refl _ _).drew)
              have K1d := Lib.hid (K1_10.out.on (Below.refl _ _).drew)
              have RRd := Lib.hid (RR_10.out.on (Below.refl _ _).drew)
              refine wp_region_held_drew (S := (fun w' => w'.cell? ⟨w1.heap.size, 0, none⟩ = some (.int .i64 t.k) ∧ w'.cell? ⟨w1.heap.size, 4, none⟩ = some (.slice (some ⟨bb, o, none⟩) 2 cp) ∧ w'.cell? ⟨bb, o, none⟩ = some (.int .i64 (t.kid 0).k) ∧ w'.cell? ⟨bb, o + 1, none⟩ = some (.int .i64 (t.kid 0).c) ∧ w'.cell? ⟨bb, o + 2, none⟩ = some (.bool (t.kid 0).b) ∧ w'.cell? ⟨bb, o + 3, none⟩ = some (.int .i64 (t.kid 0).n) ∧ w'.cell? ⟨bb, o + 4, none⟩ = some (.slice A0 (t.kid 0).m c0_) ∧ w'.cell? ⟨bb, o + 5, none⟩ = some (.int .i64 (t.kid 1).k) ∧ w'.cell? ⟨bb, o + 5 + 1, none⟩ = some (.int .i64 (t.kid 1).c) ∧ w'.cell? ⟨bb, o + 5 + 2, none⟩ = some (.bool (t.kid 1).b) ∧ w'.cell? ⟨bb, o + 5 + 3, none⟩ = some (.int .i64 (t.kid 1).n) ∧ w'.cell? ⟨bb, o + 5 + 4, none⟩ = some (.slice A1 (t.kid 1).m c1_) ∧ Below w.heap.size w w')) (by kernel_rfl) ⟨a0, a4, g00, g01, g02, g03, g04, g10, g11, g12, g13, g14, HBr10.out.drew⟩ (fun hHeld => ?_)
              clear a0 a4 g00 g01 g02 g03 g04 g10 g11 g12 g13 g14
              generalize hwd : World.drew (wu10) = wd11 at K0d K1d RRd hHeld ⊢
              clear hwd
              refine held_take 0 77 _ ?_ rfl rfl (by kernel_rfl) (by kernel_rfl) (by kernel_rfl) (fun _ _ _ h => h) (by kernel_rfl) (fun w' hSw => ?_) (by assumption) ?_
              rotate_left
              · ((try dsimp only at hSw); go_simp; (try with_reducible rfl))
              simp only [Act.put, List.setIfInBounds_toArray, List.set_cons_zero, List.set_cons_succ]
              refine held_take 1 78 _ ?_ rfl rfl (by kernel_rfl) (by kernel_rfl) (by kernel_rfl) (fun _ _ _ h => h) (by kernel_rfl) (fun w' hSw => ?_) (by assumption) ?_
              rotate_left
              · ((try dsimp only at hSw); go_simp; (try with_reducible rfl))
              simp only [Act.put, List.setIfInBounds_toArray, List.set_cons_zero, List.set_cons_succ]
              refine held_take 2 79 _ ?_ rfl rfl (by kernel_rfl) (by kernel_rfl) (by kernel_rfl) (fun _ _ _ h => h) (by kernel_rfl) (fun w' hSw => ?_) (by assumption) ?_
              rotate_left
              · ((try dsimp only at hSw); go_simp; (try with_reducible rfl))
              simp only [Act.put, List.setIfInBounds_toArray, List.set_cons_zero, List.set_cons_succ]
              refine held_take 3 80 _ ?_ rfl rfl (by kernel_rfl) (by kernel_rfl) (by kernel_rfl) (fun _ _ _ h => h) (by kernel_rfl) (fun w' hSw => ?_) (by assumption) ?_
              rotate_left
              · ((try dsimp only at hSw); go_simp; (try with_reducible rfl))
              simp only [Act.put, List.setIfInBounds_toArray, List.set_cons_zero, List.set_cons_succ]
              refine held_take 4 81 _ ?_ rfl rfl (by kernel_rfl) (by kernel_rfl) (by kernel_rfl) (fun _ _ _ h => h) (by kernel_rfl) (fun w' hSw => ?_) (by assumption) ?_
              rotate_left
              · ((try dsimp only at hSw); go_simp; (try with_reducible rfl))
              simp only [Act.put, List.setIfInBounds_toArray, List.set_cons_zero, List.set_cons_succ]
              refine held_take 5 82 _ ?_ rfl rfl (by kernel_rfl) (by kernel_rfl) (by kernel_rfl) (fun _ _ _ h => h) (by kernel_rfl) (fun w' hSw => ?_) (by assumption) ?_
              rotate_left
              · ((try dsimp only at hSw); go_simp; (try with_reducible rfl))
              simp only [Act.put, List.setIfInBounds_toArray, List.set_cons_zero, List.set_cons_succ]
              refine held_take 6 83 _ ?_ rfl rfl (by kernel_rfl) (by kernel_rfl) (by kernel_rfl) (fun _ _ _ h => h) (by kernel_rfl) (fun w' hSw => ?_) (by assumption) ?_
              rotate_left
              · ((try dsimp only at hSw); go_simp; (try with_reducible rfl))
              simp only [Act.put, List.setIfInBounds_toArray, List.set_cons_zero, List.set_cons_succ]
              refine held_take 7 84 _ ?_ rfl rfl (by kernel_rfl) (by kernel_rfl) (by kernel_rfl) (fun _ _ _ h => h) (by kernel_rfl) (fun w' hSw => ?_) (by assumption) ?_
              rotate_left
              · ((try dsimp only at hSw); go_simp; (try with_reducible rfl))
              simp only [Act.put, List.setIfInBounds_toArray, List.set_cons_zero, List.set_cons_succ]
              refine held_take 9 86 _ ?_ rfl rfl (by kernel_rfl) (by kernel_rfl) (by kernel_rfl) (fun _ _ _ h => h) (by kernel_rfl) (fun w' hSw => ?_) (by assumption) ?_
              rotate_left
              · ((try dsimp only at hSw); go_simp; (try with_reducible rfl))
              simp only [Act.put, List.setIfInBounds_toArray, List.set_cons_zero, List.set_cons_succ]
              refine wpAnyH_ready (rs := [8]) (by kernel_rfl) (by simp) ?_
              refine (AllReadyH.cons rfl (fun K' hK' => ?_) AllReadyH.nil)
              rw [if_pos (show Region.wanted _ _ = true from rfl)]
              go_wp2_with fail
              refine (ET.two_any 7 _ _ _ _ A1 _ _ _ _ _ _ A0 _ _ _).mono ?_
              rintro e wt11 ⟨gt, rfl, hX, hb⟩
              have TT := Lib.hid hX
              have K0t := Lib.hid (K0d.out.on hb)
              have K1t := Lib.hid (K1d.out.on hb)
              have RRt := Lib.hid (RRd.out.on hb)
              go_wp2_with fail
              refine hK'.out _ _ (keep_twelve hHeld hb) (fun hHf => ?_)
              clear hK' K' hb hX hHeld K0d K1d RRd
              (try simp only [Act.put, List.setIfInBounds_toArray, List.set_cons_zero, List.set_cons_succ])
              refine wpAnyH_ready (rs := [10]) (by kernel_rfl) (by simp) ?_
              refine (AllReadyH.cons rfl (fun K' hK' => ?_) AllReadyH.nil)
              rw [if_pos (show Region.wanted _ _ = true from rfl)]
              go_wp2_with fail
              refine (HTW.out 7 (by omega) 1 0 (by omega) (by omega) _ _ _ _ _ _ _ _ TT.out K1t.out K0t.out RRt.out).mono ?_
              rintro e wu11 ⟨rfl, hb⟩
              rw [HQ2.out]
              have K0_11 := Lib.hid (K0t.out.on hb)
              have K1_11 := Lib.hid (K1t.out.on hb)
              have RR_11 := Lib.hid (RRt.out.on hb)
              go_wp2_with fail
              refine hK'.out _ _ (keep_twelve hHf hb) (fun hHg => ?_)
              clear hK' K' hb hHf K0t K1t RRt TT
              (try simp only [Act.put, List.setIfInBounds_toArray, List.set_cons_zero, List.set_cons_succ])
              obtain ⟨a0, a4, g00, g01, g02, g03, g04, g10, g11, g12, g13, g14, hbl⟩ := hHg
              have HBr11 := Lib.hid hbl
              clear hbl
              refine wpAnyH_done (by kernel_rfl) ?_ _
              go_wp2_with fail
              have K0d := Lib.hid (K0_11.out.on (Below.refl _ _).drew)
              have K1d := Lib.hid (K1_11.out.on (Below.refl _ _).drew)
              have RRd := Lib.hid (RR_11.out.on (Below.refl _ _).drew)
              refine wp_region_held_drew (S := (fun w' => w'.cell? ⟨w1.heap.size, 0, none⟩ = some (.int .i64 t.k) ∧ w'.cell? ⟨w1.heap.size, 4, none⟩ = some (.slice (some ⟨bb, o, none⟩) 2 cp) ∧ w'.cell? ⟨bb, o, none⟩ = some (.int .i64 (t.kid 0).k) ∧ w'.cell? ⟨bb, o + 1, none⟩ = some (.int .i64 (t.kid 0).c) ∧ w'.cell? ⟨bb, o + 2, none⟩ = some (.bool (t.kid 0).b) ∧ w'.cell? ⟨bb, o + 3, none⟩ = some (.int .i64 (t.kid 0).n) ∧ w'.cell? ⟨bb, o + 4, none⟩ = some (.slice A0 (t.kid 0).m c0_) ∧ w'.cell? ⟨bb, o + 5, none⟩ = some (.int .i64 (t.kid 1).k) ∧ w'.cell? ⟨bb, o + 5 + 1, none⟩ = some (.int .i64 (t.kid 1).c) ∧ w'.cell? ⟨bb, o + 5 + 2, none⟩ = some (.bool (t.kid 1).b) ∧ w'.cell? ⟨bb, o + 5 + 3, none⟩ = some (.int .i64 (t.kid 1).n) ∧ w'.cell? ⟨bb, o + 5 + 4, none⟩ = some (.slice A1 (t.kid 1).m c1_) ∧ Below w.heap.size w w')) (by kernel_rfl) ⟨a0, a4, g00, g01, g02, g03, g04, g10, g11, g12, g13, g14, HBr11.out.drew⟩ (fun hHeld => ?_)
              clear a0 a4 g00 g01 g02 g03 g04 g10 g11 g12 g13 g14
              generalize hwd : World.drew (wu11) = wd12 at K0d K1d RRd hHeld ⊢
              clear hwd
              refine held_take 0 90 _ ?_ rfl rfl (by kernel_rfl) (by kernel_rfl) (by kernel_rfl) (fun _ _ _ h => h) (by kernel_rfl) (fun w' hSw => ?_) (by assumption) ?_
              rotate_left
              · ((try dsimp only at hSw); go_simp; (try with_reducible rfl))
              simp only [Act.put, List.setIfInBounds_toArray, List.set_cons_zero, List.set_cons_succ]
              refine held_take 1 91 _ ?_ rfl rfl (by kernel_rfl) (by kernel_rfl) (by kernel_rfl) (fun _ _ _ h => h) (by kernel_rfl) (fun w' hSw => ?_) (by assumption) ?_
              rotate_left
              · ((try dsimp only at hSw); go_simp; (try with_reducible rfl))
              simp only [Act.put, List.setIfInBounds_toArray, List.set_cons_zero, List.set_cons_succ]
              refine held_take 2 92 _ ?_ rfl rfl (by kernel_rfl) (by kernel_rfl) (by kernel_rfl) (fun _ _ _ h => h) (by kernel_rfl) (fun w' hSw => ?_) (by assumption) ?_
              rotate_left
              · ((try dsimp only at hSw); go_simp; (try with_reducible rfl))
              simp only [Act.put, List.setIfInBounds_toArray, List.set_cons_zero, List.set_cons_succ]
              refine held_take 3 93 _ ?_ rfl rfl (by kernel_rfl) (by kernel_rfl) (by kernel_rfl) (fun _ _ _ h => h) (by kernel_rfl) (fun w' hSw => ?_) (by assumption) ?_
              rotate_left
              · ((try dsimp only at hSw); go_simp; (try with_reducible rfl))
              simp only [Act.put, List.setIfInBounds_toArray, List.set_cons_zero, List.set_cons_succ]
              refine held_take 4 94 _ ?_ rfl rfl (by kernel_rfl) (by kernel_rfl) (by kernel_rfl) (fun _ _ _ h => h) (by kernel_rfl) (fun w' hSw => ?_) (by assumption) ?_
              rotate_left
              · ((try dsimp only at hSw); go_simp; (try with_reducible rfl))
              simp only [Act.put, List.setIfInBounds_toArray, List.set_cons_zero, List.set_cons_succ]
              refine held_take 5 95 _ ?_ rfl rfl (by kernel_rfl) (by kernel_rfl) (by kernel_rfl) (fun _ _ _ h => h) (by kernel_rfl) (fun w' hSw => ?_) (by assumption) ?_
              rotate_left
              · ((try dsimp only at hSw); go_simp; (try with_reducible rfl))
              simp only [Act.put, List.setIfInBounds_toArray, List.set_cons_zero, List.set_cons_succ]
              refine held_take 6 96 _ ?_ rfl rfl (by kernel_rfl) (by kernel_rfl) (by kernel_rfl) (fun _ _ _ h => h) (by kernel_rfl) (fun w' hSw => ?_) (by assumption) ?_
              rotate_left
              · ((try dsimp only at hSw); go_simp; (try with_reducible rfl))
              simp only [Act.put, List.setIfInBounds_toArray, List.set_cons_zero, List.set_cons_succ]
              refine held_take 7 97 _ ?_ rfl rfl (by kernel_rfl) (by kernel_rfl) (by kernel_rfl) (fun _ _ _ h => h) (by kernel_rfl) (fun w' hSw => ?_) (by assumption) ?_
              rotate_left
              · ((try dsimp only at hSw); go_simp; (try with_reducible rfl))
              simp only [Act.put, List.setIfInBounds_toArray, List.set_cons_zero, List.set_cons_succ]
              refine held_take 9 99 _ ?_ rfl rfl (by kernel_rfl) (by kernel_rfl) (by kernel_rfl) (fun _ _ _ h => h) (by kernel_rfl) (fun w' hSw => ?_) (by assumption) ?_
              rotate_left
              · ((try dsimp only at hSw); go_simp; (try with_reducible rfl))
              simp only [Act.put, List.setIfInBounds_toArray, List.set_cons_zero, List.set_cons_succ]
              refine wpAnyH_ready (rs := [8]) (by kernel_rfl) (by simp) ?_
              refine (AllReadyH.cons rfl (fun K' hK' => ?_) AllReadyH.nil)
              rw [if_pos (show Region.wanted _ _ = true from rfl)]
              go_wp2_with fail
              refine (ET.two_any 6 _ _ _ _ A0 _ _ _ _ _ _ A1 _ _ _).mono ?_
              rintro e wt12 ⟨gt, rfl, hX, hb⟩
              have TT := Lib.hid hX
              have K0t := Lib.hid (K0d.out.on hb)
              have K1t := Lib.hid (K1d.out.on hb)
              have RRt := Lib.hid (RRd.out.on hb)
              go_wp2_with fail
              refine hK'.out _ _ (keep_twelve hHeld hb) (fun hHf => ?_)
              clear hK' K' hb hX hHeld K0d K1d RRd
              (try simp only [Act.put, List.setIfInBounds_toArray, List.set_cons_zero, List.set_cons_succ])
              refine wpAnyH_ready (rs := [10]) (by kernel_rfl) (by simp) ?_
              refine (AllReadyH.cons rfl (fun K' hK' => ?_) AllReadyH.nil)
              rw [if_pos (show Region.wanted _ _ = true from rfl)]
              go_wp2_with fail
              refine (HTW.out 6 (by omega) 0 1 (by omega) (by omega) _ _ _ _ _ _ _ _ TT.out K0t.out K1t.out RRt.out).mono ?_
              rintro e wu12 ⟨rfl, hb⟩
              rw [HQ3.out]
              have K0_12 := Lib.hid (K0t.out.on hb)
              have K1_12 := Lib.hid (K1t.out.on hb)
              have RR_12 := Lib.hid (RRt.out.on hb)
              go_wp2_with fail
              refine hK'.out _ _ (keep_twelve hHf hb) (fun hHg => ?_)
              clear hK' K' hb hHf K0t K1t RRt TT
              (try simp only [Act.put, List.setIfInBounds_toArray, List.set_cons_zero, List.set_cons_succ])
              obtain ⟨a0, a4, g00, g01, g02, g03, g04, g10, g11, g12, g13, g14, hbl⟩ := hHg
              have HBr12 := Lib.hid hbl
              clear hbl
              refine wpAnyH_done (by kernel_rfl) ?_ _
              go_wp2_with fail
              go_ret
              first | exact ⟨rfl, HBr12.out⟩ | exact ⟨ET.ret_of rfl (by simp), HBr12.out⟩
            · have HQ1 := Lib.hid ((ET.comb7 HN.out.1 HN.out.2).trans q1)
              have HQ2 := Lib.hid ((ET.comb7 HN.out.2 HN.out.1).trans q2)
              have HQ3 := Lib.hid ((ET.comb6 HN.out.1 HN.out.2).trans q3)
              clear q1 q2 q3
              have K0d := Lib.hid (HK0.out.on (Below.refl _ _).drew)
              have K1d := Lib.hid (HK1.out.on (Below.refl _ _).drew)
              have RRd := Lib.hid (HR_6.out.on (Below.refl _ _).drew)
              refine wp_region_held_drew (S := (fun w' => w'.cell? ⟨w1.heap.size, 0, none⟩ = some (.int .i64 t.k) ∧ w'.cell? ⟨w1.heap.size, 4, none⟩ = some (.slice (some ⟨bb, o, none⟩) 2 cp) ∧ w'.cell? ⟨bb, o, none⟩ = some (.int .i64 (t.kid 0).k) ∧ w'.cell? ⟨bb, o + 1, none⟩ = some (.int .i64 (t.kid 0).c) ∧ w'.cell? ⟨bb, o + 2, none⟩ = some (.bool (t.kid 0).b) ∧ w'.cell? ⟨bb, o + 3, none⟩ = some (.int .i64 (t.kid 0).n) ∧ w'.cell? ⟨bb, o + 4, none⟩ = some (.slice A0 (t.kid 0).m c0_) ∧ w'.cell? ⟨bb, o + 5, none⟩ = some (.int .i64 (t.kid 1).k) ∧ w'.cell? ⟨bb, o + 5 + 1, none⟩ = some (.int .i64 (t.kid 1).c) ∧ w'.cell? ⟨bb, o + 5 + 2, none⟩ = some (.bool (t.kid 1).b) ∧ w'.cell? ⟨bb, o + 5 + 3, none⟩ = some (.int .i64 (t.kid 1).n) ∧ w'.cell? ⟨bb, o + 5 + 4, none⟩ = some (.slice A1 (t.kid 1).m c1_) ∧ Below w.heap.size w w')) (by kernel_rfl) ⟨a0, a4, g00, g01, g02, g03, g04, g10, g11, g12, g13, g14, HB_6.out.drew⟩ (fun hHeld => ?_)
              clear a0 a4 g00 g01 g02 g03 g04 g10 g11 g12 g13 g14
              generalize hwd : World.drew (w5.alloc (.cells #[.bool false, .int .i64 nv] 24)) = wd13 at K0d K1d RRd hHeld ⊢
              clear hwd
              refine held_take 0 64 _ ?_ rfl rfl (by kernel_rfl) (by kernel_rfl) (by kernel_rfl) (fun _ _ _ h => h) (by kernel_rfl) (fun w' hSw => ?_) (by assumption) ?_
              rotate_left
              · ((try dsimp only at hSw); go_simp; (try with_reducible rfl))
              simp only [Act.put, List.setIfInBounds_toArray, List.set_cons_zero, List.set_cons_succ]
              refine held_take 1 65 _ ?_ rfl rfl (by kernel_rfl) (by kernel_rfl) (by kernel_rfl) (fun _ _ _ h => h) (by kernel_rfl) (fun w' hSw => ?_) (by assumption) ?_
              rotate_left
              · ((try dsimp only at hSw); go_simp; (try with_reducible rfl))
              simp only [Act.put, List.setIfInBounds_toArray, List.set_cons_zero, List.set_cons_succ]
              refine held_take 2 66 _ ?_ rfl rfl (by kernel_rfl) (by kernel_rfl) (by kernel_rfl) (fun _ _ _ h => h) (by kernel_rfl) (fun w' hSw => ?_) (by assumption) ?_
              rotate_left
              · ((try dsimp only at hSw); go_simp; (try with_reducible rfl))
              simp only [Act.put, List.setIfInBounds_toArray, List.set_cons_zero, List.set_cons_succ]
              refine held_take 3 67 _ ?_ rfl rfl (by kernel_rfl) (by kernel_rfl) (by kernel_rfl) (fun _ _ _ h => h) (by kernel_rfl) (fun w' hSw => ?_) (by assumption) ?_
              rotate_left
              · ((try dsimp only at hSw); go_simp; (try with_reducible rfl))
              simp only [Act.put, List.setIfInBounds_toArray, List.set_cons_zero, List.set_cons_succ]
              refine held_take 4 68 _ ?_ rfl rfl (by kernel_rfl) (by kernel_rfl) (by kernel_rfl) (fun _ _ _ h => h) (by kernel_rfl) (fun w' hSw => ?_) (by assumption) ?_
              rotate_left
              · ((try dsimp only at hSw); go_simp; (try with_reducible rfl))
              simp only [Act.put, List.setIfInBounds_toArray, List.set_cons_zero, List.set_cons_succ]
              refine held_take 5 69 _ ?_ rfl rfl (by kernel_rfl) (by kernel_rfl) (by kernel_rfl) (fun _ _ _ h => h) (by kernel_rfl) (fun w' hSw => ?_) (by assumption) ?_
              rotate_left
              · ((try dsimp only at hSw); go_simp; (try with_reducible rfl))
              simp only [Act.put, List.setIfInBounds_toArray, List.set_cons_zero, List.set_cons_succ]
              refine held_take 6 70 _ ?_ rfl rfl (by kernel_rfl) (by kernel_rfl) (by kernel_rfl) (fun _ _ _ h => h) (by kernel_rfl) (fun w' hSw => ?_) (by assumption) ?_
              rotate_left
              · ((try dsimp only at hSw); go_simp; (try with_reducible rfl))
              simp only [Act.put, List.setIfInBounds_toArray, List.set_cons_zero, List.set_cons_succ]
              refine held_take 7 71 _ ?_ rfl rfl (by kernel_rfl) (by kernel_rfl) (by kernel_rfl) (fun _ _ _ h => h) (by kernel_rfl) (fun w' hSw => ?_) (by assumption) ?_
              rotate_left
              · ((try dsimp only at hSw); go_simp; (try with_reducible rfl))
              simp only [Act.put, List.setIfInBounds_toArray, List.set_cons_zero, List.set_cons_succ]
              refine held_take 9 73 _ ?_ rfl rfl (by kernel_rfl) (by kernel_rfl) (by kernel_rfl) (fun _ _ _ h => h) (by kernel_rfl) (fun w' hSw => ?_) (by assumption) ?_
              rotate_left
              · ((try dsimp only at hSw); go_simp; (try with_reducible rfl))
              simp only [Act.put, List.setIfInBounds_toArray, List.set_cons_zero, List.set_cons_succ]
              refine wpAnyH_ready (rs := [8]) (by kernel_rfl) (by simp) ?_
              refine (AllReadyH.cons rfl (fun K' hK' => ?_) AllReadyH.nil)
              rw [if_pos (show Region.wanted _ _ = true from rfl)]
              go_wp2_with fail
              refine (ET.two_any 7 _ _ _ _ A0 _ _ _ _ _ _ A1 _ _ _).mono ?_
              rintro e wt13 ⟨gt, rfl, hX, hb⟩
              have TT := Lib.hid hX
              have K0t := Lib.hid (K0d.out.on hb)
              have K1t := Lib.hid (K1d.out.on hb)
              have RRt := Lib.hid (RRd.out.on hb)
              go_wp2_with fail
              refine hK'.out _ _ (keep_twelve hHeld hb) (fun hHf => ?_)
              clear hK' K' hb hX hHeld K0d K1d RRd
              (try simp only [Act.put, List.setIfInBounds_toArray, List.set_cons_zero, List.set_cons_succ])
              refine wpAnyH_ready (rs := [10]) (by kernel_rfl) (by simp) ?_
              refine (AllReadyH.cons rfl (fun K' hK' => ?_) AllReadyH.nil)
              rw [if_pos (show Region.wanted _ _ = true from rfl)]
              go_wp2_with fail
              refine (HTW.out 7 (by omega) 0 1 (by omega) (by omega) _ _ _ _ _ _ _ _ TT.out K0t.out K1t.out RRt.out).mono ?_
              rintro e wu13 ⟨rfl, hb⟩
              rw [HQ1.out]
              have K0_13 := Lib.hid (K0t.out.on hb)
              have K1_13 := Lib.hid (K1t.out.on hb)
              have RR_13 := Lib.hid (RRt.out.on hb)
              go_wp2_with fail
              refine hK'.out _ _ (keep_twelve hHf hb) (fun hHg => ?_)
              clear hK' K' hb hHf K0t K1t RRt TT
              (try simp only [Act.put, List.setIfInBounds_toArray, List.set_cons_zero, List.set_cons_succ])
              obtain ⟨a0, a4, g00, g01, g02, g03, g04, g10, g11, g12, g13, g14, hbl⟩ := hHg
              have HBr13 := Lib.hid hbl
              clear hbl
              refine wpAnyH_done (by kernel_rfl) ?_ _
              go_wp2_with fail
              have K0d := Lib.hid (K0_13.out.on (Below.refl _ _).drew)
              have K1d := Lib.hid (K1_13.out.on (Below.refl _ _).drew)
              have RRd := Lib.hid (RR_13.out.on (Below.refl _ _).drew)
              refine wp_region_held_drew (S := (fun w' => w'.cell? ⟨w1.heap.size, 0, none⟩ = some (.int .i64 t.k) ∧ w'.cell? ⟨w1.heap.size, 4, none⟩ = some (.slice (some ⟨bb, o, none⟩) 2 cp) ∧ w'.cell? ⟨bb, o, none⟩ = some (.int .i64 (t.kid 0).k) ∧ w'.cell? ⟨bb, o + 1, none⟩ = some (.int .i64 (t.kid 0).c) ∧ w'.cell? ⟨bb, o + 2, none⟩ = some (.bool (t.kid 0).b) ∧ w'.cell? ⟨bb, o + 3, none⟩ = some (.int .i64 (t.kid 0).n) ∧ w'.cell? ⟨bb, o + 4, none⟩ = some (.slice A0 (t.kid 0).m c0_) ∧ w'.cell? ⟨bb, o + 5, none⟩ = some (.int .i64 (t.kid 1).k) ∧ w'.cell? ⟨bb, o + 5 + 1, none⟩ = some (.int .i64 (t.kid 1).c) ∧ w'.cell? ⟨bb, o + 5 + 2, none⟩ = some (.bool (t.kid 1).b) ∧ w'.cell? ⟨bb, o + 5 + 3, none⟩ = some (.int .i64 (t.kid 1).n) ∧ w'.cell? ⟨bb, o + 5 + 4, none⟩ = some (.slice A1 (t.kid 1).m c1_) ∧ Below w.heap.size w w')) (by kernel_rfl) ⟨a0, a4, g00, g01, g02, g03, g04, g10, g11, g12, g13, g14, HBr13.out.drew⟩ (fun hHeld => ?_)
              clear a0 a4 g00 g01 g02 g03 g04 g10 g11 g12 g13 g14
              generalize hwd : World.drew (wu13) = wd14 at K0d K1d RRd hHeld ⊢
              clear hwd
              refine held_take 0 77 _ ?_ rfl rfl (by kernel_rfl) (by kernel_rfl) (by kernel_rfl) (fun _ _ _ h => h) (by kernel_rfl) (fun w' hSw => ?_) (by assumption) ?_
              rotate_left
              · ((try dsimp only at hSw); go_simp; (try with_reducible rfl))
              simp only [Act.put, List.setIfInBounds_toArray, List.set_cons_zero, List.set_cons_succ]
              refine held_take 1 78 _ ?_ rfl rfl (by kernel_rfl) (by kernel_rfl) (by kernel_rfl) (fun _ _ _ h => h) (by kernel_rfl) (fun w' hSw => ?_) (by assumption) ?_
              rotate_left
              · ((try dsimp only at hSw); go_simp; (try with_reducible rfl))
              simp only [Act.put, List.setIfInBounds_toArray, List.set_cons_zero, List.set_cons_succ]
              refine held_take 2 79 _ ?_ rfl rfl (by kernel_rfl) (by kernel_rfl) (by kernel_rfl) (fun _ _ _ h => h) (by kernel_rfl) (fun w' hSw => ?_) (by assumption) ?_
              rotate_left
              · ((try dsimp only at hSw); go_simp; (try with_reducible rfl))
              simp only [Act.put, List.setIfInBounds_toArray, List.set_cons_zero, List.set_cons_succ]
              refine held_take 3 80 _ ?_ rfl rfl (by kernel_rfl) (by kernel_rfl) (by kernel_rfl) (fun _ _ _ h => h) (by kernel_rfl) (fun w' hSw => ?_) (by assumption) ?_
              rotate_left
              · ((try dsimp only at hSw); go_simp; (try with_reducible rfl))
              simp only [Act.put, List.setIfInBounds_toArray, List.set_cons_zero, List.set_cons_succ]
              refine held_take 4 81 _ ?_ rfl rfl (by kernel_rfl) (by kernel_rfl) (by kernel_rfl) (fun _ _ _ h => h) (by kernel_rfl) (fun w' hSw => ?_) (by assumption) ?_
              rotate_left
              · ((try dsimp only at hSw); go_simp; (try with_reducible rfl))
              simp only [Act.put, List.setIfInBounds_toArray, List.set_cons_zero, List.set_cons_succ]
              refine held_take 5 82 _ ?_ rfl rfl (by kernel_rfl) (by kernel_rfl) (by kernel_rfl) (fun _ _ _ h => h) (by kernel_rfl) (fun w' hSw => ?_) (by assumption) ?_
              rotate_left
              · ((try dsimp only at hSw); go_simp; (try with_reducible rfl))
              simp only [Act.put, List.setIfInBounds_toArray, List.set_cons_zero, List.set_cons_succ]
              refine held_take 6 83 _ ?_ rfl rfl (by kernel_rfl) (by kernel_rfl) (by kernel_rfl) (fun _ _ _ h => h) (by kernel_rfl) (fun w' hSw => ?_) (by assumption) ?_
              rotate_left
              · ((try dsimp only at hSw); go_simp; (try with_reducible rfl))
              simp only [Act.put, List.setIfInBounds_toArray, List.set_cons_zero, List.set_cons_succ]
              refine held_take 7 84 _ ?_ rfl rfl (by kernel_rfl) (by kernel_rfl) (by kernel_rfl) (fun _ _ _ h => h) (by kernel_rfl) (fun w' hSw => ?_) (by assumption) ?_
              rotate_left
              · ((try dsimp only at hSw); go_simp; (try with_reducible rfl))
              simp only [Act.put, List.setIfInBounds_toArray, List.set_cons_zero, List.set_cons_succ]
              refine held_take 9 86 _ ?_ rfl rfl (by kernel_rfl) (by kernel_rfl) (by kernel_rfl) (fun _ _ _ h => h) (by kernel_rfl) (fun w' hSw => ?_) (by assumption) ?_
              rotate_left
              · ((try dsimp only at hSw); go_simp; (try with_reducible rfl))
              simp only [Act.put, List.setIfInBounds_toArray, List.set_cons_zero, List.set_cons_succ]
              refine wpAnyH_ready (rs := [8]) (by kernel_rfl) (by simp) ?_
              refine (AllReadyH.cons rfl (fun K' hK' => ?_) AllReadyH.nil)
              rw [if_pos (show Region.wanted _ _ = true from rfl)]
              go_wp2_with fail
              refine (ET.two_any 7 _ _ _ _ A1 _ _ _ _ _ _ A0 _ _ _).mono ?_
              rintro e wt14 ⟨gt, rfl, hX, hb⟩
              have TT := Lib.hid hX
              have K0t := Lib.hid (K0d.out.on hb)
              have K1t := Lib.hid (K1d.out.on hb)
              have RRt := Lib.hid (RRd.out.on hb)
              go_wp2_with fail
              refine hK'.out _ _ (keep_twelve hHeld hb) (fun hHf => ?_)
              clear hK' K' hb hX hHeld K0d K1d RRd
              (try simp only [Act.put, List.setIfInBounds_toArray, List.set_cons_zero, List.set_cons_succ])
              refine wpAnyH_ready (rs := [10]) (by kernel_rfl) (by simp) ?_
              refine (AllReadyH.cons rfl (fun K' hK' => ?_) AllReadyH.nil)
              rw [if_pos (show Region.wanted _ _ = true from rfl)]
              go_wp2_with fail
              refine (HTW.out 7 (by omega) 1 0 (by omega) (by omega) _ _ _ _ _ _ _ _ TT.out K1t.out K0t.out RRt.out).mono ?_
              rintro e wu14 ⟨rfl, hb⟩
              rw [HQ2.out]
              have K0_14 := Lib.hid (K0t.out.on hb)
              have K1_14 := Lib.hid (K1t.out.on hb)
              have RR_14 := Lib.hid (RRt.out.on hb)
              go_wp2_with fail
              refine hK'.out _ _ (keep_twelve hHf hb) (fun hHg => ?_)
              clear hK' K' hb hHf K0t K1t RRt TT
              (try simp only [Act.put, List.setIfInBounds_toArray, List.set_cons_zero, List.set_cons_succ])
              obtain ⟨a0, a4, g00, g01, g02, g03, g04, g10, g11, g12, g13, g14, hbl⟩ := hHg
              have HBr14 := Lib.hid hbl
              clear hbl
              refine wpAnyH_done (by kernel_rfl) ?_ _
              go_wp2_with fail
              have K0d := Lib.hid (K0_14.out.on (Below.refl _ _).drew)
              have K1d := Lib.hid (K1_14.out.on (Below.refl _ _).drew)
              have RRd := Lib.hid (RR_14.out.on (Below.refl _ _).drew)
              refine wp_region_held_drew (S := (fun w' => w'.cell? ⟨w1.heap.size, 0, none⟩ = some (.int .i64 t.k) ∧ w'.cell? ⟨w1.heap.size, 4, none⟩ = some (.slice (some ⟨bb, o, none⟩) 2 cp) ∧ w'.cell? ⟨bb, o, none⟩ = some (.int .i64 (t.kid 0).k) ∧ w'.cell? ⟨bb, o + 1, none⟩ = some (.int .i64 (t.kid 0).c) ∧ w'.cell? ⟨bb, o + 2, none⟩ = some (.bool (t.kid 0).b) ∧ w'.cell? ⟨bb, o + 3, none⟩ = some (.int .i64 (t.kid 0).n) ∧ w'.cell? ⟨bb, o + 4, none⟩ = some (.slice A0 (t.kid 0).m c0_) ∧ w'.cell? ⟨bb, o + 5, none⟩ = some (.int .i64 (t.kid 1).k) ∧ w'.cell? ⟨bb, o + 5 + 1, none⟩ = some (.int .i64 (t.kid 1).c) ∧ w'.cell? ⟨bb, o + 5 + 2, none⟩ = some (.bool (t.kid 1).b) ∧ w'.cell? ⟨bb, o + 5 + 3, none⟩ = some (.int .i64 (t.kid 1).n) ∧ w'.cell? ⟨bb, o + 5 + 4, none⟩ = some (.slice A1 (t.kid 1).m c1_) ∧ Below w.heap.size w w')) (by kernel_rfl) ⟨a0, a4, g00, g01, g02, g03, g04, g10, g11, g12, g13, g14, HBr14.out.drew⟩ (fun hHeld => ?_)
              clear a0 a4 g00 g01 g02 g03 g04 g10 g11 g12 g13 g14
              generalize hwd : World.drew (wu14) = wd15 at K0d K1d RRd hHeld ⊢
              clear hwd
              refine held_take 0 90 _ ?_ rfl rfl (by kernel_rfl) (by kernel_rfl) (by kernel_rfl) (fun _ _ _ h => h) (by kernel_rfl) (fun w' hSw => ?_) (by assumption) ?_
              rotate_left
              · ((try dsimp only at hSw); go_simp; (try with_reducible rfl))
              simp only [Act.put, List.setIfInBounds_toArray, List.set_cons_zero, List.set_cons_succ]
              refine held_take 1 91 _ ?_ rfl rfl (by kernel_rfl) (by kernel_rfl) (by kernel_rfl) (fun _ _ _ h => h) (by kernel_rfl) (fun w' hSw => ?_) (by assumption) ?_
              rotate_left
              · ((try dsimp only at hSw); go_simp; (try with_reducible rfl))
              simp only [Act.put, List.setIfInBounds_toArray, List.set_cons_zero, List.set_cons_succ]
              refine held_take 2 92 _ ?_ rfl rfl (by kernel_rfl) (by kernel_rfl) (by kernel_rfl) (fun _ _ _ h => h) (by kernel_rfl) (fun w' hSw => ?_) (by assumption) ?_
              rotate_left
              · ((try dsimp only at hSw); go_simp; (try with_reducible rfl))
              simp only [Act.put, List.setIfInBounds_toArray, List.set_cons_zero, List.set_cons_succ]
              refine held_take 3 93 _ ?_ rfl rfl (by kernel_rfl) (by kernel_rfl) (by kernel_rfl) (fun _ _ _ h => h) (by kernel_rfl) (fun w' hSw => ?_) (by assumption) ?_
              rotate_left
              · ((try dsimp only at hSw); go_simp; (try with_reducible rfl))
              simp only [Act.put, List.setIfInBounds_toArray, List.set_cons_zero, List.set_cons_succ]
              refine held_take 4 94 _ ?_ rfl rfl (by kernel_rfl) (by kernel_rfl) (by kernel_rfl) (fun _ _ _ h => h) (by kernel_rfl) (fun w' hSw => ?_) (by assumption) ?_
              rotate_left
              · ((try dsimp only at hSw); go_simp; (try with_reducible rfl))
              simp only [Act.put, List.setIfInBounds_toArray, List.set_cons_zero, List.set_cons_succ]
              refine held_take 5 95 _ ?_ rfl rfl (by kernel_rfl) (by kernel_rfl) (by kernel_rfl) (fun _ _ _ h => h) (by kernel_rfl) (fun w' hSw => ?_) (by assumption) ?_
              rotate_left
              · ((try dsimp only at hSw); go_simp; (try with_reducible rfl))
              simp only [Act.put, List.setIfInBounds_toArray, List.set_cons_zero, List.set_cons_succ]
              refine held_take 6 96 _ ?_ rfl rfl (by kernel_rfl) (by kernel_rfl) (by kernel_rfl) (fun _ _ _ h => h) (by kernel_rfl) (fun w' hSw => ?_) (by assumption) ?_
              rotate_left
              · ((try dsimp only at hSw); go_simp; (try with_reducible rfl))
              simp only [Act.put, List.setIfInBounds_toArray, List.set_cons_zero, List.set_cons_succ]
              refine held_take 7 97 _ ?_ rfl rfl (by kernel_rfl) (by kernel_rfl) (by kernel_rfl) (fun _ _ _ h => h) (by kernel_rfl) (fun w' hSw => ?_) (by assumption) ?_
              rotate_left
              · ((try dsimp only at hSw); go_simp; (try with_reducible rfl))
              simp only [Act.put, List.setIfInBounds_toArray, List.set_cons_zero, List.set_cons_succ]
              refine held_take 9 99 _ ?_ rfl rfl (by kernel_rfl) (by kernel_rfl) (by kernel_rfl) (fun _ _ _ h => h) (by kernel_rfl) (fun w' hSw => ?_) (by assumption) ?_
              rotate_left
              · ((try dsimp only at hSw); go_simp; (try with_reducible rfl))
              simp only [Act.put, List.setIfInBounds_toArray, List.set_cons_zero, List.set_cons_succ]
              refine wpAnyH_ready (rs := [8]) (by kernel_rfl) (by simp) ?_
              refine (AllReadyH.cons rfl (fun K' hK' => ?_) AllReadyH.nil)
              rw [if_pos (show Region.wanted _ _ = true from rfl)]
              go_wp2_with fail
              refine (ET.two_any 6 _ _ _ _ A0 _ _ _ _ _ _ A1 _ _ _).mono ?_
              rintro e wt15 ⟨gt, rfl, hX, hb⟩
              have TT := Lib.hid hX
              have K0t := Lib.hid (K0d.out.on hb)
              have K1t := Lib.hid (K1d.out.on hb)
              have RRt := Lib.hid (RRd.out.on hb)
              go_wp2_with fail
              refine hK'.out _ _ (keep_twelve hHeld hb) (fun hHf => ?_)
              clear hK' K' hb hX hHeld K0d K1d RRd
              (try simp only [Act.put, List.setIfInBounds_toArray, List.set_cons_zero, List.set_cons_succ])
              refine wpAnyH_ready (rs := [10]) (by kernel_rfl) (by simp) ?_
              refine (AllReadyH.cons rfl (fun K' hK' => ?_) AllReadyH.nil)
              rw [if_pos (show Region.wanted _ _ = true from rfl)]
              go_wp2_with fail
              refine (HTW.out 6 (by omega) 0 1 (by omega) (by omega) _ _ _ _ _ _ _ _ TT.out K0t.out K1t.out RRt.out).mono ?_
              rintro e wu15 ⟨rfl, hb⟩
              rw [HQ3.out]
              have K0_15 := Lib.hid (K0t.out.on hb)
              have K1_15 := Lib.hid (K1t.out.on hb)
              have RR_15 := Lib.hid (RRt.out.on hb)
              go_wp2_with fail
              refine hK'.out _ _ (keep_twelve hHf hb) (fun hHg => ?_)
              clear hK' K' hb hHf K0t K1t RRt TT
              (try simp only [Act.put, List.setIfInBounds_toArray, List.set_cons_zero, List.set_cons_succ])
              obtain ⟨a0, a4, g00, g01, g02, g03, g04, g10, g11, g12, g13, g14, hbl⟩ := hHg
              have HBr15 := Lib.hid hbl
              clear hbl
              refine wpAnyH_done (by kernel_rfl) ?_ _
              go_wp2_with fail
              go_ret
              first | exact ⟨rfl, HBr15.out⟩ | exact ⟨ET.ret_of rfl (by simp), HBr15.out⟩
            · have HQ1 := Lib.hid ((ET.comb7 HN.out.1 HN.out.2).trans q1)
              have HQ2 := Lib.hid ((ET.comb7 HN.out.2 HN.out.1).trans q2)
              have HQ3 := Lib.hid ((ET.comb6 HN.out.1 HN.out.2).trans q3)
              clear q1 q2 q3
              have K0d := Lib.hid (HK0.out.on (Below.refl _ _).drew)
              have K1d := Lib.hid (HK1.out.on (Below.refl _ _).drew)
              have RRd := Lib.hid (HR_6.out.on (Below.refl _ _).drew)
              refine wp_region_held_drew (S := (fun w' => w'.cell? ⟨w1.heap.size, 0, none⟩ = some (.int .i64 t.k) ∧ w'.cell? ⟨w1.heap.size, 4, none⟩ = some (.slice (some ⟨bb, o, none⟩) 2 cp) ∧ w'.cell? ⟨bb, o, none⟩ = some (.int .i64 (t.kid 0).k) ∧ w'.cell? ⟨bb, o + 1, none⟩ = some (.int .i64 (t.kid 0).c) ∧ w'.cell? ⟨bb, o + 2, none⟩ = some (.bool (t.kid 0).b) ∧ w'.cell? ⟨bb, o + 3, none⟩ = some (.int .i64 (t.kid 0).n) ∧ w'.cell? ⟨bb, o + 4, none⟩ = some (.slice A0 (t.kid 0).m c0_) ∧ w'.cell? ⟨bb, o + 5, none⟩ = some (.int .i64 (t.kid 1).k) ∧ w'.cell? ⟨bb, o + 5 + 1, none⟩ = some (.int .i64 (t.kid 1).c) ∧ w'.cell? ⟨bb, o + 5 + 2, none⟩ = some (.bool (t.kid 1).b) ∧ w'.cell? ⟨bb, o + 5 + 3, none⟩ = some (.int .i64 (t.kid 1).n) ∧ w'.cell? ⟨bb, o + 5 + 4, none⟩ = some (.slice A1 (t.kid 1).m c1_) ∧ Below w.heap.size w w')) (by kernel_rfl) ⟨a0, a4, g00, g01, g02, g03, g04, g10, g11, g12, g13, g14, HB_6.out.drew⟩ (fun hHeld => ?_)
              clear a0 a4 g00 g01 g02 g03 g04 g10 g11 g12 g13 g14
              generalize hwd : World.drew (w5.alloc (.cells #[.bool false, .int .i64 nv] 24)) = wd16 at K0d K1d RRd hHeld ⊢
              clear hwd
              refine held_take 0 64 _ ?_ rfl rfl (by kernel_rfl) (by kernel_rfl) (by kernel_rfl) (fun _ _ _ h => h) (by kernel_rfl) (fun w' hSw => ?_) (by assumption) ?_
              rotate_left
              · ((try dsimp only at hSw); go_simp; (try with_reducible rfl))
              simp only [Act.put, List.setIfInBounds_toArray, List.set_cons_zero, List.set_cons_succ]
              refine held_take 1 65 _ ?_ rfl rfl (by kernel_rfl) (by kernel_rfl) (by kernel_rfl) (fun _ _ _ h => h) (by kernel_rfl) (fun w' hSw => ?_) (by assumption) ?_
              rotate_left
              · ((try dsimp only at hSw); go_simp; (try with_reducible rfl))
              simp only [Act.put, List.setIfInBounds_toArray, List.set_cons_zero, List.set_cons_succ]
              refine held_take 2 66 _ ?_ rfl rfl (by kernel_rfl) (by kernel_rfl) (by kernel_rfl) (fun _ _ _ h => h) (by kernel_rfl) (fun w' hSw => ?_) (by assumption) ?_
              rotate_left
              · ((try dsimp only at hSw); go_simp; (try with_reducible rfl))
              simp only [Act.put, List.setIfInBounds_toArray, List.set_cons_zero, List.set_cons_succ]
              refine held_take 3 67 _ ?_ rfl rfl (by kernel_rfl) (by kernel_rfl) (by kernel_rfl) (fun _ _ _ h => h) (by kernel_rfl) (fun w' hSw => ?_) (by assumption) ?_
              rotate_left
              · ((try dsimp only at hSw); go_simp; (try with_reducible rfl))
              simp only [Act.put, List.setIfInBounds_toArray, List.set_cons_zero, List.set_cons_succ]
              refine held_take 4 68 _ ?_ rfl rfl (by kernel_rfl) (by kernel_rfl) (by kernel_rfl) (fun _ _ _ h => h) (by kernel_rfl) (fun w' hSw => ?_) (by assumption) ?_
              rotate_left
              · ((try dsimp only at hSw); go_simp; (try with_reducible rfl))
              simp only [Act.put, List.setIfInBounds_toArray, List.set_cons_zero, List.set_cons_succ]
              refine held_take 5 69 _ ?_ rfl rfl (by kernel_rfl) (by kernel_rfl) (by kernel_rfl) (fun _ _ _ h => h) (by kernel_rfl) (fun w' hSw => ?_) (by assumption) ?_
              rotate_left
              · ((try dsimp only at hSw); go_simp; (try with_reducible rfl))
              simp only [Act.put, List.setIfInBounds_toArray, List.set_cons_zero, List.set_cons_succ]
              refine held_take 6 70 _ ?_ rfl rfl (by kernel_rfl) (by kernel_rfl) (by kernel_rfl) (fun _ _ _ h => h) (by kernel_rfl) (fun w' hSw => ?_) (by assumption) ?_
              rotate_left
              · ((try dsimp only at hSw); go_simp; (try with_reducible rfl))
              simp only [Act.put, List.setIfInBounds_toArray, List.set_cons_zero, List.set_cons_succ]
              refine held_take 7 71 _ ?_ rfl rfl (by kernel_rfl) (by kernel_rfl) (by kernel_rfl) (fun _ _ _ h => h) (by kernel_rfl) (fun w' hSw => ?_) (by assumption) ?_
              rotate_left
              · ((try dsimp only at hSw); go_simp; (try with_reducible rfl))
              simp only [Act.put, List.setIfInBounds_toArray, List.set_cons_zero, List.set_cons_succ]
              refine held_take 9 73 _ ?_ rfl rfl (by kernel_rfl) (by kernel_rfl) (by kernel_rfl) (fun _ _ _ h => h) (by kernel_rfl) (fun w' hSw => ?_) (by assumption) ?_
              rotate_left
              · ((try dsimp only at hSw); go_simp; (try with_reducible rfl))
              simp only [Act.put, List.setIfInBounds_toArray, List.set_cons_zero, List.set_cons_succ]
              refine wpAnyH_ready (rs := [8]) (by kernel_rfl) (by simp) ?_
              refine (AllReadyH.cons rfl (fun K' hK' => ?_) AllReadyH.nil)
              rw [if_pos (show Region.wanted _ _ = true from rfl)]
              go_wp2_with fail
              refine (ET.two_any 7 _ _ _ _ A0 _ _ _ _ _ _ A1 _ _ _).mono ?_
              rintro e wt16 ⟨gt, rfl, hX, hb⟩
              have TT := Lib.hid hX
              have K0t := Lib.hid (K0d.out.on hb)
              have K1t := Lib.hid (K1d.out.on hb)
              have RRt := Lib.hid (RRd.out.on hb)
              go_wp2_with fail
              refine hK'.out _ _ (keep_twelve hHeld hb) (fun hHf => ?_)
              clear hK' K' hb hX hHeld K0d K1d RRd
              (try simp only [Act.put, List.setIfInBounds_toArray, List.set_cons_zero, List.set_cons_succ])
              refine wpAnyH_ready (rs := [10]) (by kernel_rfl) (by simp) ?_
              refine (AllReadyH.cons rfl (fun K' hK' => ?_) AllReadyH.nil)
              rw [if_pos (show Region.wanted _ _ = true from rfl)]
              go_wp2_with fail
              refine (HTW.out 7 (by omega) 0 1 (by omega) (by omega) _ _ _ _ _ _ _ _ TT.out K0t.out K1t.out RRt.out).mono ?_
              rintro e wu16 ⟨rfl, hb⟩
              rw [HQ1.out]
              have K0_16 := Lib.hid (K0t.out.on hb)
              have K1_16 := Lib.hid (K1t.out.on hb)
              have RR_16 := Lib.hid (RRt.out.on hb)
              go_wp2_with fail
              refine hK'.out _ _ (keep_twelve hHf hb) (fun hHg => ?_)
              clear hK' K' hb hHf K0t K1t RRt TT
              (try simp only [Act.put, List.setIfInBounds_toArray, List.set_cons_zero, List.set_cons_succ])
              obtain ⟨a0, a4, g00, g01, g02, g03, g04, g10, g11, g12, g13, g14, hbl⟩ := hHg
              have HBr16 := Lib.hid hbl
              clear hbl
              refine wpAnyH_done (by kernel_rfl) ?_ _
              go_wp2_with fail
              have K0d := Lib.hid (K0_16.out.on (Below.refl _ _).drew)
              have K1d := Lib.hid (K1_16.out.on (Below.refl _ _).drew)
              have RRd := Lib.hid (RR_16.out.on (Below.refl _ _).drew)
              refine wp_region_held_drew (S := (fun w' => w'.cell? ⟨w1.heap.size, 0, none⟩ = some (.int .i64 t.k) ∧ w'.cell? ⟨w1.heap.size, 4, none⟩ = some (.slice (some ⟨bb, o, none⟩) 2 cp) ∧ w'.cell? ⟨bb, o, none⟩ = some (.int .i64 (t.kid 0).k) ∧ w'.cell? ⟨bb, o + 1, none⟩ = some (.int .i64 (t.kid 0).c) ∧ w'.cell? ⟨bb, o + 2, none⟩ = some (.bool (t.kid 0).b) ∧ w'.cell? ⟨bb, o + 3, none⟩ = some (.int .i64 (t.kid 0).n) ∧ w'.cell? ⟨bb, o + 4, none⟩ = some (.slice A0 (t.kid 0).m c0_) ∧ w'.cell? ⟨bb, o + 5, none⟩ = some (.int .i64 (t.kid 1).k) ∧ w'.cell? ⟨bb, o + 5 + 1, none⟩ = some (.int .i64 (t.kid 1).c) ∧ w'.cell? ⟨bb, o + 5 + 2, none⟩ = some (.bool (t.kid 1).b) ∧ w'.cell? ⟨bb, o + 5 + 3, none⟩ = some (.int .i64 (t.kid 1).n) ∧ w'.cell? ⟨bb, o + 5 + 4, none⟩ = some (.slice A1 (t.kid 1).m c1_) ∧ Below w.heap.size w w')) (by kernel_rfl) ⟨a0, a4, g00, g01, g02, g03, g04, g10, g11, g12, g13, g14, HBr16.out.drew⟩ (fun hHeld => ?_)
              clear a0 a4 g00 g01 g02 g03 g04 g10 g11 g12 g13 g14
              generalize hwd : World.drew (wu16) = wd17 at K0d K1d RRd hHeld ⊢
              clear hwd
              refine held_take 0 77 _ ?_ rfl rfl (by kernel_rfl) (by kernel_rfl) (by kernel_rfl) (fun _ _ _ h => h) (by kernel_rfl) (fun w' hSw => ?_) (by assumption) ?_
              rotate_left
              · ((try dsimp only at hSw); go_simp; (try with_reducible rfl))
              simp only [Act.put, List.setIfInBounds_toArray, List.set_cons_zero, List.set_cons_succ]
              refine held_take 1 78 _ ?_ rfl rfl (by kernel_rfl) (by kernel_rfl) (by kernel_rfl) (fun _ _ _ h => h) (by kernel_rfl) (fun w' hSw => ?_) (by assumption) ?_
              rotate_left
              · ((try dsimp only at hSw); go_simp; (try with_reducible rfl))
              simp only [Act.put, List.setIfInBounds_toArray, List.set_cons_zero, List.set_cons_succ]
              refine held_take 2 79 _ ?_ rfl rfl (by kernel_rfl) (by kernel_rfl) (by kernel_rfl) (fun _ _ _ h => h) (by kernel_rfl) (fun w' hSw => ?_) (by assumption) ?_
              rotate_left
              · ((try dsimp only at hSw); go_simp; (try with_reducible rfl))
              simp only [Act.put, List.setIfInBounds_toArray, List.set_cons_zero, List.set_cons_succ]
              refine held_take 3 80 _ ?_ rfl rfl (by kernel_rfl) (by kernel_rfl) (by kernel_rfl) (fun _ _ _ h => h) (by kernel_rfl) (fun w' hSw => ?_) (by assumption) ?_
              rotate_left
              · ((try dsimp only at hSw); go_simp; (try with_reducible rfl))
              simp only [Act.put, List.setIfInBounds_toArray, List.set_cons_zero, List.set_cons_succ]
              refine held_take 4 81 _ ?_ rfl rfl (by kernel_rfl) (by kernel_rfl) (by kernel_rfl) (fun _ _ _ h => h) (by kernel_rfl) (fun w' hSw => ?_) (by assumption) ?_
              rotate_left
              · ((try dsimp only at hSw); go_simp; (try with_reducible rfl))
              simp only [Act.put, List.setIfInBounds_toArray, List.set_cons_zero, List.set_cons_succ]
              refine held_take 5 82 _ ?_ rfl rfl (by kernel_rfl) (by kernel_rfl) (by kernel_rfl) (fun _ _ _ h => h) (by kernel_rfl) (fun w' hSw => ?_) (by assumption) ?_
              rotate_left
              · ((try dsimp only at hSw); go_simp; (try with_reducible rfl))
              simp only [Act.put, List.setIfInBounds_toArray, List.set_cons_zero, List.set_cons_succ]
              refine held_take 6 83 _ ?_ rfl rfl (by kernel_rfl) (by kernel_rfl) (by kernel_rfl) (fun _ _ _ h => h) (by kernel_rfl) (fun w' hSw => ?_) (by assumption) ?_
              rotate_left
              · ((try dsimp only at hSw); go_simp; (try with_reducible rfl))
              simp only [Act.put, List.setIfInBounds_toArray, List.set_cons_zero, List.set_cons_succ]
              refine held_take 7 84 _ ?_ rfl rfl (by kernel_rfl) (by kernel_rfl) (by kernel_rfl) (fun _ _ _ h => h) (by kernel_rfl) (fun w' hSw => ?_) (by assumption) ?_
              rotate_left
              · ((try dsimp only at hSw); go_simp; (try with_reducible rfl))
              simp only [Act.put, List.setIfInBounds_toArray, List.set_cons_zero, List.set_cons_succ]
              refine held_take 9 86 _ ?_ rfl rfl (by kernel_rfl) (by kernel_rfl) (by kernel_rfl) (fun _ _ _ h => h) (by kernel_rfl) (fun w' hSw => ?_) (by assumption) ?_
              rotate_left
              · ((try dsimp only at hSw); go_simp; (try with_reducible rfl))
              simp only [Act.put, List.setIfInBounds_toArray, List.set_cons_zero, List.set_cons_succ]
              refine wpAnyH_ready (rs := [8]) (by kernel_rfl) (by simp) ?_
              refine (AllReadyH.cons rfl (fun K' hK' => ?_) AllReadyH.nil)
              rw [if_pos (show Region.wanted _ _ = true from rfl)]
              go_wp2_with fail
              refine (ET.two_any 7 _ _ _ _ A1 _ _ _ _ _ _ A0 _ _ _).mono ?_
              rintro e wt17 ⟨gt, rfl, hX, hb⟩
              have TT := Lib.hid hX
              have K0t := Lib.hid (K0d.out.on hb)
              have K1t := Lib.hid (K1d.out.on hb)
              have RRt := Lib.hid (RRd.out.on hb)
              go_wp2_with fail
              refine hK'.out _ _ (keep_twelve hHeld hb) (fun hHf => ?_)
              clear hK' K' hb hX hHeld K0d K1d RRd
              (try simp only [Act.put, List.setIfInBounds_toArray, List.set_cons_zero, List.set_cons_succ])
              refine wpAnyH_ready (rs := [10]) (by kernel_rfl) (by simp) ?_
              refine (AllReadyH.cons rfl (fun K' hK' => ?_) AllReadyH.nil)
              rw [if_pos (show Region.wanted _ _ = true from rfl)]
              go_wp2_with fail
              refine (HTW.out 7 (by omega) 1 0 (by omega) (by omega) _ _ _ _ _ _ _ _ TT.out K1t.out K0t.out RRt.out).mono ?_
              rintro e wu17 ⟨rfl, hb⟩
              rw [HQ2.out]
              have K0_17 := Lib.hid (K0t.out.on hb)
              have K1_17 := Lib.hid (K1t.out.on hb)
              have RR_17 := Lib.hid (RRt.out.on hb)
              go_wp2_with fail
              refine hK'.out _ _ (keep_twelve hHf hb) (fun hHg => ?_)
              clear hK' K' hb hHf K0t K1t RRt TT
              (try simp only [Act.put, List.setIfInBounds_toArray, List.set_cons_zero, List.set_cons_succ])
              obtain ⟨a0, a4, g00, g01, g02, g03, g04, g10, g11, g12, g13, g14, hbl⟩ := hHg
              have HBr17 := Lib.hid hbl
              clear hbl
              refine wpAnyH_done (by kernel_rfl) ?_ _
              go_wp2_with fail
              have K0d := Lib.hid (K0_17.out.on (Below.refl _ _).drew)
              have K1d := Lib.hid (K1_17.out.on (Below.refl _ _).drew)
              have RRd := Lib.hid (RR_17.out.on (Below.refl _ _).drew)
              refine wp_region_held_drew (S := (fun w' => w'.cell? ⟨w1.heap.size, 0, none⟩ = some (.int .i64 t.k) ∧ w'.cell? ⟨w1.heap.size, 4, none⟩ = some (.slice (some ⟨bb, o, none⟩) 2 cp) ∧ w'.cell? ⟨bb, o, none⟩ = some (.int .i64 (t.kid 0).k) ∧ w'.cell? ⟨bb, o + 1, none⟩ = some (.int .i64 (t.kid 0).c) ∧ w'.cell? ⟨bb, o + 2, none⟩ = some (.bool (t.kid 0).b) ∧ w'.cell? ⟨bb, o + 3, none⟩ = some (.int .i64 (t.kid 0).n) ∧ w'.cell? ⟨bb, o + 4, none⟩ = some (.slice A0 (t.kid 0).m c0_) ∧ w'.cell? ⟨bb, o + 5, none⟩ = some (.int .i64 (t.kid 1).k) ∧ w'.cell? ⟨bb, o + 5 + 1, none⟩ = some (.int .i64 (t.kid 1).c) ∧ w'.cell? ⟨bb, o + 5 + 2, none⟩ = some (.bool (t.kid 1).b) ∧ w'.cell? ⟨bb, o + 5 + 3, none⟩ = some (.int .i64 (t.kid 1).n) ∧ w'.cell? ⟨bb, o + 5 + 4, none⟩ = some (.slice A1 (t.kid 1).m c1_) ∧ Below w.heap.size w w')) (by kernel_rfl) ⟨a0, a4, g00, g01, g02, g03, g04, g10, g11, g12, g13, g14, HBr17.out.drew⟩ (fun hHeld => ?_)
              clear a0 a4 g00 g01 g02 g03 g04 g10 g11 g12 g13 g14
              generalize hwd : World.drew (wu17) = wd18 at K0d K1d RRd hHeld ⊢
              clear hwd
              refine held_take 0 90 _ ?_ rfl rfl (by kernel_rfl) (by kernel_rfl) (by kernel_rfl) (fun _ _ _ h => h) (by kernel_rfl) (fun w' hSw => ?_) (by assumption) ?_
              rotate_left
              · ((try dsimp only at hSw); go_simp; (try with_reducible rfl))
              simp only [Act.put, List.setIfInBounds_toArray, List.set_cons_zero, List.set_cons_succ]
              refine held_take 1 91 _ ?_ rfl rfl (by kernel_rfl) (by kernel_rfl) (by kernel_rfl) (fun _ _ _ h => h) (by kernel_rfl) (fun w' hSw => ?_) (by assumption) ?_
              rotate_left
              · ((try dsimp only at hSw); go_simp; (try with_reducible rfl))
              simp only [Act.put, List.setIfInBounds_toArray, List.set_cons_zero, List.set_cons_succ]
              refine held_take 2 92 _ ?_ rfl rfl (by kernel_rfl) (by kernel_rfl) (by kernel_rfl) (fun _ _ _ h => h) (by kernel_rfl) (fun w' hSw => ?_) (by assumption) ?_
              rotate_left
              · ((try dsimp only at hSw); go_simp; (try with_reducible rfl))
              simp only [Act.put, List.setIfInBounds_toArray, List.set_cons_zero, List.set_cons_succ]
              refine held_take 3 93 _ ?_ rfl rfl (by kernel_rfl) (by kernel_rfl) (by kernel_rfl) (fun _ _ _ h => h) (by kernel_rfl) (fun w' hSw => ?_) (by assumption) ?_
              rotate_left
              · ((try dsimp only at hSw); go_simp; (try with_reducible rfl))
              simp only [Act.put, List.setIfInBounds_toArray, List.set_cons_zero, List.set_cons_succ]
              refine held_take 4 94 _ ?_ rfl rfl (by kernel_rfl) (by kernel_rfl) (by kernel_rfl) (fun _ _ _ h => h) (by kernel_rfl) (fun w' hSw => ?_) (by assumption) ?_
              rotate_left
              · ((try dsimp only at hSw); go_simp; (try with_reducible rfl))
              simp only [Act.put, List.setIfInBounds_toArray, List.set_cons_zero, List.set_cons_succ]
              refine held_take 5 95 _ ?_ rfl rfl (by kernel_rfl) (by kernel_rfl) (by kernel_rfl) (fun _ _ _ h => h) (by kernel_rfl) (fun w' hSw => ?_) (by assumption) ?_
              rotate_left
              · ((try dsimp only at hSw); go_simp; (try with_reducible rfl))
              simp only [Act.put, List.setIfInBounds_toArray, List.set_cons_zero, List.set_cons_succ]
              refine held_take 6 96 _ ?_ rfl rfl (by kernel_rfl) (by kernel_rfl) (by kernel_rfl) (fun _ _ _ h => h) (by kernel_rfl) (fun w' hSw => ?_) (by assumption) ?_
              rotate_left
              · ((try dsimp only at hSw); go_simp; (try with_reducible rfl))
              simp only [Act.put, List.setIfInBounds_toArray, List.set_cons_zero, List.set_cons_succ]
              refine held_take 7 97 _ ?_ rfl rfl (by kernel_rfl) (by kernel_rfl) (by kernel_rfl) (fun _ _ _ h => h) (by kernel_rfl) (fun w' hSw => ?_) (by assumption) ?_
              rotate_left
              · ((try dsimp only at hSw); go_simp; (try with_reducible rfl))
              simp only [Act.put, List.setIfInBounds_toArray, List.set_cons_zero, List.set_cons_succ]
              refine held_take 9 99 _ ?_ rfl rfl (by kernel_rfl) (by kernel_rfl) (by kernel_rfl) (fun _ _ _ h => h) (by kernel_rfl) (fun w' hSw => ?_) (by assumption) ?_
              rotate_left
              · ((try dsimp only at hSw); go_simp; (try with_reducible rfl))
              simp only [Act.put, List.setIfInBounds_toArray, List.set_cons_zero, List.set_cons_succ]
              refine wpAnyH_ready (rs := [8]) (by kernel_rfl) (by simp) ?_
              refine (AllReadyH.cons rfl (fun K' hK' => ?_) AllReadyH.nil)
              rw [if_pos (show Region.wanted _ _ = true from rfl)]
              go_wp2_with fail
              refine (ET.two_any 6 _ _ _ _ A0 _ _ _ _ _ _ A1 _ _ _).mono ?_
              rintro e wt18 ⟨gt, rfl, hX, hb⟩
              have TT := Lib.hid hX
              have K0t := Lib.hid (K0d.out.on hb)
              have K1t := Lib.hid (K1d.out.on hb)
              have RRt := Lib.hid (RRd.out.on hb)
              go_wp2_with fail
              refine hK'.out _ _ (keep_twelve hHeld hb) (fun hHf => ?_)
              clear hK' K' hb hX hHeld K0d K1d RRd
              (try simp only [Act.put, List.setIfInBounds_toArray, List.set_cons_zero, List.set_cons_succ])
              refine wpAnyH_ready (rs := [10]) (by kernel_rfl) (by simp) ?_
              refine (AllReadyH.cons rfl (fun K' hK' => ?_) AllReadyH.nil)
              rw [if_pos (show Region.wanted _ _ = true from rfl)]
              go_wp2_with fail
              refine (HTW.out 6 (by omega) 0 1 (by omega) (by omega) _ _ _ _ _ _ _ _ TT.out K0t.out K1t.out RRt.out).mono ?_
              rintro e wu18 ⟨rfl, hb⟩
              rw [HQ3.out]
              have K0_18 := Lib.hid (K0t.out.on hb)
              have K1_18 := Lib.hid (K1t.out.on hb)
              have RR_18 := Lib.hid (RRt.out.on hb)
              go_wp2_with fail
              refine hK'.out _ _ (keep_twelve hHf hb) (fun hHg => ?_)
              clear hK' K' hb hHf K0t K1t RRt TT
              (try simp only [Act.put, List.setIfInBounds_toArray, List.set_cons_zero, List.set_cons_succ])
              obtain ⟨a0, a4, g00, g01, g02, g03, g04, g10, g11, g12, g13, g14, hbl⟩ := hHg
              have HBr18 := Lib.hid hbl
              clear hbl
              refine wpAnyH_done (by kernel_rfl) ?_ _
              go_wp2_with fail
              go_ret
              first | exact ⟨rfl, HBr18.out⟩ | exact ⟨ET.ret_of rfl (by simp), HBr18.out⟩
        · have hb7 : t.k = 6 ∨ t.k = 7 := hk
          clear hk
          rcases hb7 with hk | hk
          · have hb7 : (t.k != 7) = true := by rw [hk]; rfl
            have hb6 : (t.k != 6) = false := by rw [hk]; rfl
            clear hk
            go_wp2_with fail
            go_ret
            exact ⟨rfl, HB_6.out⟩
          · have hb7 : (t.k != 7) = false := by rw [hk]; rfl
            clear hk
            go_wp2_with fail
            go_ret
            exact ⟨rfl, HB_6.out⟩
      · have hb7 : (t.k != 7) = true := by simp; omega
        have hb6 : (t.k != 6) = true := by simp; omega
        clear hk
        go_wp2_with fail
        go_ret
        exact ⟨rfl, HB_6.out⟩
end Go.Proofs.Ytfbkbppaignofaa

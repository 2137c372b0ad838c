/-
  The walk of the law that sums, products, equality, conjunction and disjunction are commutative.
-/
import Derived.Test.YtfbkbppaignofaaDrawV
import Derived.Test.YtfbkbppaignofaaTwo
namespace Go.Proofs.Ytfbkbppaignofaa
open Go.RowKit

set_option maxHeartbeats 4000000 in
set_option maxRecDepth 100000 in
theorem walk_FnCommute (a : Option Addr) (len cap : Nat) (zs : List Int) (w : World) (h : IsRow .u8 w a len cap zs) :
    Calls Try.prog 4 #[.slice a len cap] w fun e w' => e = .returned (.bool true) ∧ Below w.heap.size w w' := by
  have hh := Lib.hid h
  clear h
  by_cases hlen : (1048576 : Int) < (len : Int)
  · go_enter Try.func4, Try.ntmps4
    go_wp2_with fail
    go_ret
    exact ⟨rfl, Below.refl _ _⟩
  · go_enter Try.func4, Try.ntmps4
    go_wp2_with fail
    refine (ET.DrawEvalExpr_any _ a len cap zs hh.out).mono ?_
    rintro e w1 ⟨t, A, cp, R, rn, rc, f, rfl, hT, hM, hrn, hR, hb⟩
    have HT1 := Lib.hid hT
    have HM := Lib.hid hM
    have HR1 := Lib.hid hR
    have HB1 := Lib.hid hb
    have HBw1 := Lib.hid hb.size
    clear hT hM hR hb hh
    have hbA := B_alloc (Below.refl w1.heap.size w1) (.cells #[.int .i64 t.k, .int .i64 t.c, .bool t.b, .int .i64 t.n, .slice A t.m cp] 27)
    have HB_2 := Lib.hid (B_alloc HB1.out (.cells #[.int .i64 t.k, .int .i64 t.c, .bool t.b, .int .i64 t.n, .slice A t.m cp] 27))
    have HT_2 := Lib.hid (HT1.out.on hbA)
    have HR_2 := Lib.hid (HR1.out.on hbA)
    have XE_2 := Lib.hid (Blk.new' (w := w1) (cs := #[.int .i64 t.k, .int .i64 t.c, .bool t.b, .int .i64 t.n, .slice A t.m cp]) (T := 27) (g := w1.heap.size) rfl)
    clear hbA HT1 HR1 HB1
    unfold ET.val
    go_wp2_with fail
    refine (ET.EvalExpr_any t _ A cp R rn rc f HT_2.out (HM.out.up (by omega)) HR_2.out (by omega)).mono ?_; rintro e w3 ⟨rfl, hb⟩
    have HB_3 := Lib.hid (B_more HB_2.out hb)
    have HT_3 := Lib.hid (HT_2.out.on hb)
    have HR_3 := Lib.hid (HR_2.out.on hb)
    have XE_3 := Lib.hid (XE_2.out.below hb)
    clear hb HT_2 HR_2 HB_2 XE_2
    obtain ⟨ev, hev⟩ : ∃ x, x = t.evV rn f := ⟨_, rfl⟩
    obtain ⟨eb, heb⟩ : ∃ x, x = t.evB rn f := ⟨_, rfl⟩
    have HEV := Lib.hid hev
    have HEB := Lib.hid heb
    rw [← hev, ← heb]
    clear hev heb
    unfold vv
    have hbA := B_alloc (Below.refl w3.heap.size w3) (.cells #[.bool ev.nul, .int .i64 ev.n] 24)
    have HB_4 := Lib.hid (B_alloc HB_3.out (.cells #[.bool ev.nul, .int .i64 ev.n] 24))
    have HT_4 := Lib.hid (HT_3.out.on hbA)
    have HR_4 := Lib.hid (HR_3.out.on hbA)
    have XE_4 := Lib.hid (XE_3.out.below hbA)
    have XV_4 := Lib.hid (Blk.new' (w := w3) (cs := #[.bool ev.nul, .int .i64 ev.n]) (T := 24) (g := w3.heap.size) rfl)
    clear hbA HT_3 HR_3 HB_3 XE_3
    have a0 := XE_4.out.cell 0 _ rfl
    have a1 := XE_4.out.cell 1 _ rfl
    have a2 := XE_4.out.cell 2 _ rfl
    have a3 := XE_4.out.cell 3 _ rfl
    have a4 := XE_4.out.cell 4 _ rfl
    dsimp only [List.getElem_toArray, List.getElem_cons_zero, List.getElem_cons_succ] at a0 a1 a2 a3 a4
    go_wp2_with fail
    refine (ET.sEvalExpr_any t _ A cp R rn rc f HT_4.out (HM.out.up (by omega)) HR_4.out (by omega)).mono ?_; rintro e w5 ⟨rfl, hb⟩
    have HB_5 := Lib.hid (B_more HB_4.out hb)
    have HT_5 := Lib.hid (HT_4.out.on hb)
    have HR_5 := Lib.hid (HR_4.out.on hb)
    have XE_5 := Lib.hid (XE_4.out.below hb)
    have XV_5 := Lib.hid (XV_4.out.below hb)
    clear hb HT_4 HR_4 HB_4 XE_4 XV_4
    clear a0 a1 a2 a3 a4
    rw [← HEV.out, ← HEB.out]
    unfold vv
    have hbA := B_alloc (Below.refl w5.heap.size w5) (.cells #[.bool ev.nul, .int .i64 ev.n] 24)
    have HB_6 := Lib.hid (B_alloc HB_5.out (.cells #[.bool ev.nul, .int .i64 ev.n] 24))
    have HT_6 := Lib.hid (HT_5.out.on hbA)
    have HR_6 := Lib.hid (HR_5.out.on hbA)
    have XE_6 := Lib.hid (XE_5.out.below hbA)
    have XV_6 := Lib.hid (XV_5.out.below hbA)
    have XW_6 := Lib.hid (Blk.new' (w := w5) (cs := #[.bool ev.nul, .int .i64 ev.n]) (T := 24) (g := w5.heap.size) rfl)
    clear hbA HT_5 HR_5 HB_5 XE_5 XV_5
    have a0 := XE_6.out.cell 0 _ rfl
    have a1 := XE_6.out.cell 1 _ rfl
    have a2 := XE_6.out.cell 2 _ rfl
    have a3 := XE_6.out.cell 3 _ rfl
    have a4 := XE_6.out.cell 4 _ rfl
    dsimp only [List.getElem_toArray, List.getElem_cons_zero, List.getElem_cons_succ] at a0 a1 a2 a3 a4
    have b0 := XV_6.out.cell 0 _ rfl
    have b1 := XV_6.out.cell 1 _ rfl
    dsimp only [List.getElem_toArray, List.getElem_cons_zero, List.getElem_cons_succ] at b0 b1
    have c0 := XW_6.out.cell 0 _ rfl
    have c1 := XW_6.out.cell 1 _ rfl
    dsimp only [List.getElem_toArray, List.getElem_cons_zero, List.getElem_cons_succ] at c0 c1
    cases eb
    · go_wp2_with fail
      go_ret
      exact ⟨rfl, HB_6.out⟩
    · have HE := Lib.hid HEB.out.symm
      have HW1 := Lib.hid (show w.heap.size ≤ w1.heap.size from HBw1.out)
      by_cases hm2 : t.m = 2
      · have har := (ET.okE_parts (ET.evB_parts HE.out).2).1
        have hk9 : 3 ≤ t.k ∧ t.k ≤ 9 := by unfold ET.ar at har; repeat' split at har; all_goals omega
        clear har
        rw [hm2] at a4
        by_cases h4 : t.k = 4
        · have hb4 : (t.k == 4) = true := by simpa using h4
          go_wp2_with fail
          go_ret
          exact ⟨rfl, HB_6.out⟩
        have hb4 : (t.k == 4) = false := by simpa using h4
        by_cases h7 : t.k = 7
        · have hb7 : (t.k == 7) = true := by simpa using h7
          go_wp2_with fail
          go_ret
          exact ⟨rfl, HB_6.out⟩
        have hb7 : (t.k == 7) = false := by simpa using h7
        have HX := Lib.hid ((HEV.out.trans (ET.evV_yes HE.out)).trans ((ET.ev_two_kids hk9).trans (comb_comm hk9 h4 h7 _ _)))
        obtain ⟨bb, o, rfl, hbb, hcs⟩ := (ET.On.kids HT_6.out) (by omega)
        obtain ⟨A0, c0_, g00, g01, g02, g03, g04, g05⟩ := hcs 0 (by omega)
        obtain ⟨A1, c1_, g10, g11, g12, g13, g14, g15⟩ := hcs 1 (by omega)
        clear hcs
        have HK0 := Lib.hid (show ET.On _ (t.kid 0) A0 from g05)
        have HK1 := Lib.hid (show ET.On _ (t.kid 1) A1 from g15)
        clear g05 g15
        simp only [Nat.zero_mul, Nat.one_mul, Nat.add_zero] at g00 g01 g02 g03 g04 g10 g11 g12 g13 g14
        have HMK := Lib.hid (fun i (hi : i < t.m) => ((ET.most_kids.1 HM.out).2 i hi).up (L' := 2000000) (by omega))
        have hcc : Hid (∀ (W : World) (g : Nat), Blk W g #[.int .i64 (t.kid 1).k, .int .i64 (t.kid 1).c, .bool (t.kid 1).b, .int .i64 (t.kid 1).n, .slice A1 (t.kid 1).m c1_, .int .i64 (t.kid 0).k, .int .i64 (t.kid 0).c, .bool (t.kid 0).b, .int .i64 (t.kid 0).n, .slice A0 (t.kid 0).m c0_] 27 → ET.On W (t.kid 1) A1 → ET.On W (t.kid 0) A0 → RowAt W W.heap.size R rn f → Calls Try.prog 14 #[.agg #[.int .i64 t.k, .int .i64 0, .bool false, .int .i64 0, .slice (some ⟨g, 0, none⟩) 2 2], .slice R rn rc] W fun e w' => e = .returned (.tuple #[.agg #[.bool ev.nul, .int .i64 ev.n], .bool true]) ∧ Below W.heap.size W w') := fun W g X h1 h0 hr => by
          have hb2 := ET.evB_two hk9 (ET.evB_parts HE.out).1 (ET.kid7 HE.out (i := 1) (by omega)) (ET.kid7 HE.out (i := 0) (by omega))
          have h := ET.EvalExpr_any (ET.mk t.k 0 false 0 2 (fun i => if i = 0 then t.kid 1 else t.kid 0)) W (some ⟨g, 0, none⟩) 2 R rn rc f (ET.on_two X h1 h0) (ET.most_two (by omega) (HMK.out 1 (by omega)) (HMK.out 0 (by omega))) hr (by omega)
          rw [ET.evV_yes hb2, hb2, ET.ev_pair2 hk9, ← HX.out] at h
          exact h
        go_wp2_with fail
        have K0d := Lib.hid (HK0.out.on (Below.refl _ _).drew)
        have K1d := Lib.hid (HK1.out.on (Below.refl _ _).drew)
        have RRd := Lib.hid (HR_6.out.on (Below.refl _ _).drew)
        have XVd := Lib.hid XV_6.out.drew
        refine wp_region_held_drew (S := (fun w' => w'.cell? ⟨w1.heap.size, 0, none⟩ = some (.int .i64 t.k) ∧ w'.cell? ⟨w1.heap.size, 4, none⟩ = some (.slice (some ⟨bb, o, none⟩) 2 cp) ∧ w'.cell? ⟨bb, o, none⟩ = some (.int .i64 (t.kid 0).k) ∧ w'.cell? ⟨bb, o + 1, none⟩ = some (.int .i64 (t.kid 0).c) ∧ w'.cell? ⟨bb, o + 2, none⟩ = some (.bool (t.kid 0).b) ∧ w'.cell? ⟨bb, o + 3, none⟩ = some (.int .i64 (t.kid 0).n) ∧ w'.cell? ⟨bb, o + 4, none⟩ = some (.slice A0 (t.kid 0).m c0_) ∧ w'.cell? ⟨bb, o + 5, none⟩ = some (.int .i64 (t.kid 1).k) ∧ w'.cell? ⟨bb, o + 5 + 1, none⟩ = some (.int .i64 (t.kid 1).c) ∧ w'.cell? ⟨bb, o + 5 + 2, none⟩ = some (.bool (t.kid 1).b) ∧ w'.cell? ⟨bb, o + 5 + 3, none⟩ = some (.int .i64 (t.kid 1).n) ∧ w'.cell? ⟨bb, o + 5 + 4, none⟩ = some (.slice A1 (t.kid 1).m c1_) ∧ Below w.heap.size w w')) (by kernel_rfl) ⟨a0, a4, g00, g01, g02, g03, g04, g10, g11, g12, g13, g14, HB_6.out.drew⟩ (fun hHeld => ?_)
        clear a0 a1 a2 a3 a4 b0 b1 c0 c1 g00 g01 g02 g03 g04 g10 g11 g12 g13 g14
        generalize hwd : World.drew (w5.alloc (.cells #[.bool ev.nul, .int .i64 ev.n] 24)) = wd at K0d K1d RRd XVd hHeld ⊢
        clear hwd
        refine held_take 0 68 _ ?_ rfl rfl (by kernel_rfl) (by kernel_rfl) (by kernel_rfl) (fun _ _ _ h => h) (by kernel_rfl) (fun w' hSw => ?_) (by assumption) ?_
        rotate_left
        · ((try dsimp only at hSw); go_simp; (try with_reducible rfl))
        simp only [Act.put, List.setIfInBounds_toArray, List.set_cons_zero, List.set_cons_succ]
        refine held_take 1 69 _ ?_ rfl rfl (by kernel_rfl) (by kernel_rfl) (by kernel_rfl) (fun _ _ _ h => h) (by kernel_rfl) (fun w' hSw => ?_) (by assumption) ?_
        rotate_left
        · ((try dsimp only at hSw); go_simp; (try with_reducible rfl))
        simp only [Act.put, List.setIfInBounds_toArray, List.set_cons_zero, List.set_cons_succ]
        refine held_take 2 70 _ ?_ rfl rfl (by kernel_rfl) (by kernel_rfl) (by kernel_rfl) (fun _ _ _ h => h) (by kernel_rfl) (fun w' hSw => ?_) (by assumption) ?_
        rotate_left
        · ((try dsimp only at hSw); go_simp; (try with_reducible rfl))
        simp only [Act.put, List.setIfInBounds_toArray, List.set_cons_zero, List.set_cons_succ]
        refine held_take 3 71 _ ?_ rfl rfl (by kernel_rfl) (by kernel_rfl) (by kernel_rfl) (fun _ _ _ h => h) (by kernel_rfl) (fun w' hSw => ?_) (by assumption) ?_
        rotate_left
        · ((try dsimp only at hSw); go_simp; (try with_reducible rfl))
        simp only [Act.put, List.setIfInBounds_toArray, List.set_cons_zero, List.set_cons_succ]
        refine held_take 4 72 _ ?_ rfl rfl (by kernel_rfl) (by kernel_rfl) (by kernel_rfl) (fun _ _ _ h => h) (by kernel_rfl) (fun w' hSw => ?_) (by assumption) ?_
        rotate_left
        · ((try dsimp only at hSw); go_simp; (try with_reducible rfl))
        simp only [Act.put, List.setIfInBounds_toArray, List.set_cons_zero, List.set_cons_succ]
        refine held_take 5 73 _ ?_ rfl rfl (by kernel_rfl) (by kernel_rfl) (by kernel_rfl) (fun _ _ _ h => h) (by kernel_rfl) (fun w' hSw => ?_) (by assumption) ?_
        rotate_left
        · ((try dsimp only at hSw); go_simp; (try with_reducible rfl))
        simp only [Act.put, List.setIfInBounds_toArray, List.set_cons_zero, List.set_cons_succ]
        refine held_take 6 74 _ ?_ rfl rfl (by kernel_rfl) (by kernel_rfl) (by kernel_rfl) (fun _ _ _ h => h) (by kernel_rfl) (fun w' hSw => ?_) (by assumption) ?_
        rotate_left
        · ((try dsimp only at hSw); go_simp; (try with_reducible rfl))
        simp only [Act.put, List.setIfInBounds_toArray, List.set_cons_zero, List.set_cons_succ]
        refine held_take 7 75 _ ?_ rfl rfl (by kernel_rfl) (by kernel_rfl) (by kernel_rfl) (fun _ _ _ h => h) (by kernel_rfl) (fun w' hSw => ?_) (by assumption) ?_
        rotate_left
        · ((try dsimp only at hSw); go_simp; (try with_reducible rfl))
        simp only [Act.put, List.setIfInBounds_toArray, List.set_cons_zero, List.set_cons_succ]
        refine held_take 8 76 _ ?_ rfl rfl (by kernel_rfl) (by kernel_rfl) (by kernel_rfl) (fun _ _ _ h => h) (by kernel_rfl) (fun w' hSw => ?_) (by assumption) ?_
        rotate_left
        · ((try dsimp only at hSw); go_simp; (try with_reducible rfl))
        simp only [Act.put, List.setIfInBounds_toArray, List.set_cons_zero, List.set_cons_succ]
        refine held_take 9 77 _ ?_ rfl rfl (by kernel_rfl) (by kernel_rfl) (by kernel_rfl) (fun _ _ _ h => h) (by kernel_rfl) (fun w' hSw => ?_) (by assumption) ?_
        rotate_left
        · ((try dsimp only at hSw); go_simp; (try with_reducible rfl))
        simp only [Act.put, List.setIfInBounds_toArray, List.set_cons_zero, List.set_cons_succ]
        refine held_take 11 79 _ ?_ rfl rfl (by kernel_rfl) (by kernel_rfl) (by kernel_rfl) (fun _ _ _ h => h) (by kernel_rfl) (fun w' hSw => ?_) (by assumption) ?_
        rotate_left
        · ((try dsimp only at hSw); go_simp; (try with_reducible rfl))
        simp only [Act.put, List.setIfInBounds_toArray, List.set_cons_zero, List.set_cons_succ]
        refine wpAnyH_ready (rs := [10, 16]) (by kernel_rfl) (by simp) ?_
        refine (AllReadyH.cons rfl (fun K' hK' => ?_) (AllReadyH.cons rfl (fun K' hK' => ?_) AllReadyH.nil))
        · rw [if_pos (show Region.wanted _ _ = true from rfl)]
          go_wp2_with fail
          refine (ET.two_any t.k _ _ _ _ A1 _ _ _ _ _ _ A0 _ _ _).mono ?_
          rintro e wt1 ⟨gt, rfl, hX, hb⟩
          have K01 := Lib.hid (K0d.out.on hb)
          have K11 := Lib.hid (K1d.out.on hb)
          have RR1 := Lib.hid (RRd.out.on hb)
          have XV1 := Lib.hid (XVd.out.below hb)
          have TT1 := Lib.hid hX
          go_wp2_with fail
          refine hK'.out _ _ (keep_twelve hHeld hb) (fun hHe1 => ?_)
          clear hK' K' hb hX
          (try simp only [Act.put, List.setIfInBounds_toArray, List.set_cons_zero, List.set_cons_succ])
          refine wpAnyH_ready (rs := [12, 16]) (by kernel_rfl) (by simp) ?_
          refine (AllReadyH.cons rfl (fun K' hK' => ?_) (AllReadyH.cons rfl (fun K' hK' => ?_) AllReadyH.nil))
          · rw [if_pos (show Region.wanted _ _ = true from rfl)]
            go_wp2_with fail
            refine (hcc.out _ _ TT1.out K11.out K01.out RR1.out).mono ?_
            rintro e wt2 ⟨rfl, hb⟩
            have K02 := Lib.hid (K01.out.on hb)
            have K12 := Lib.hid (K11.out.on hb)
            have RR2 := Lib.hid (RR1.out.on hb)
            have XV2 := Lib.hid (XV1.out.below hb)
            have TT2 := Lib.hid (TT1.out.below hb)
            go_wp2_with fail
            refine hK'.out _ _ (keep_twelve hHe1 hb) (fun hHe2 => ?_)
            clear hK' K' hb
            (try simp only [Act.put, List.setIfInBounds_toArray, List.set_cons_zero, List.set_cons_succ])
            refine held_take 13 67 _ ?_ rfl rfl (by kernel_rfl) (by kernel_rfl) (by kernel_rfl) (fun _ _ _ h => h) (by kernel_rfl) (fun w' hSw => ?_) (by assumption) ?_
            rotate_left
            · ((try dsimp only at hSw); go_simp; (try with_reducible rfl))
            simp only [Act.put, List.setIfInBounds_toArray, List.set_cons_zero, List.set_cons_succ]
            refine held_take 14 81 _ ?_ rfl rfl (by kernel_rfl) (by kernel_rfl) (by kernel_rfl) (fun _ _ _ h => h) (by kernel_rfl) (fun w' hSw => ?_) (by assumption) ?_
            rotate_left
            · ((try dsimp only at hSw); go_simp; (try with_reducible rfl))
            simp only [Act.put, List.setIfInBounds_toArray, List.set_cons_zero, List.set_cons_succ]
            refine held_take 15 82 _ ?_ rfl rfl (by kernel_rfl) (by kernel_rfl) (by kernel_rfl) (fun _ _ _ h => h) (by kernel_rfl) (fun w' hSw => ?_) (by assumption) ?_
            rotate_left
            · ((try dsimp only at hSw); go_simp; (try with_reducible rfl))
            simp only [Act.put, List.setIfInBounds_toArray, List.set_cons_zero, List.set_cons_succ]
            refine wpAnyH_ready (rs := [16]) (by kernel_rfl) (by simp) ?_
            refine (AllReadyH.cons rfl (fun K' hK' => ?_) AllReadyH.nil)
            rw [if_pos (show Region.wanted _ _ = true from rfl)]
            have hz3 := (Below.refl (wt2).heap.size (wt2)).alloc (Nat.le_refl _) (.cells #[.bool false, .int .i64 0] 24)
            have n1_3 : w1.heap.size < (wt2).heap.size := World.block_lt_of_cell? _ _ hHe2.1
            have n2_3 : bb < (wt2).heap.size := World.block_lt_of_cell? _ _ hHe2.2.2.1
            have n3_3 := XV2.out.lt
            have n0_3 : w.heap.size < (wt2).heap.size := by have := HW1.out; omega
            have K03 := Lib.hid (K02.out.on hz3)
            have K13 := Lib.hid (K12.out.on hz3)
            have RR3 := Lib.hid (RR2.out.on hz3)
            have XV3 := Lib.hid (XV2.out.below hz3)
            have TT3 := Lib.hid (TT2.out.below hz3)
            have NN3 := Lib.hid (Blk.new (wt2) #[.bool false, .int .i64 0] 24)
            go_wp2_with fail
            refine hK'.out _ _ (keep_twelve hHe2 hz3) (fun hHe3 => ?_)
            clear hK' K' hz3
            (try simp only [Act.put, List.setIfInBounds_toArray, List.set_cons_zero, List.set_cons_succ])
            have r0 := NN3.out.cell 0 _ rfl
            have r1 := NN3.out.cell 1 _ rfl
            have q0 := NN3.out.free 0
            have q1 := NN3.out.free 1
            dsimp only [List.getElem_toArray, List.getElem_cons_zero, List.getElem_cons_succ] at r0 r1
            refine wpAnyH_ready (rs := [17]) (by kernel_rfl) (by simp) ?_
            refine AllReadyH.cons rfl (fun K' hK' => ?_) AllReadyH.nil
            rw [if_pos (show Region.wanted _ _ = true from rfl)]
            go_wp2_with fail
            have hzz := (Below.refl (wt2).heap.size (wt2)).alloc (Nat.le_refl _) (.cells #[.bool ev.nul, .int .i64 ev.n] 24)
            have XVz := Lib.hid (XV2.out.below hzz)
            have XNz := Lib.hid (Blk.new (wt2) #[.bool ev.nul, .int .i64 ev.n] 24)
            refine hK'.out _ _ (keep_twelve hHe2 hzz) (fun hHz => ?_)
            clear hK' K' hzz
            (try simp only [Act.put, List.setIfInBounds_toArray, List.set_cons_zero, List.set_cons_succ])
            have HBZ := Lib.hid hHz.2.2.2.2.2.2.2.2.2.2.2.2
            clear r0 r1 q0 q1
            refine held_take 18 10 _ ?_ rfl rfl (by kernel_rfl) (by kernel_rfl) (by kernel_rfl) (fun _ _ _ h => h) (by kernel_rfl) (fun w' hSw => ?_) (by assumption) ?_
            rotate_left
            · ((try dsimp only at hSw); go_simp; (try with_reducible rfl))
            simp only [Act.put, List.setIfInBounds_toArray, List.set_cons_zero, List.set_cons_succ]
            have r0 := XNz.out.cell 0 _ rfl
            have r1 := XNz.out.cell 1 _ rfl
            have b0 := XVz.out.cell 0 _ rfl
            have b1 := XVz.out.cell 1 _ rfl
            dsimp only [List.getElem_toArray, List.getElem_cons_zero, List.getElem_cons_succ] at r0 r1 b0 b1
            clear hHz
            refine wpAnyH_done (by kernel_rfl) ?_ _
            go_wp2_with fail
            go_ret
            exact ⟨ET.ret_of rfl (by simp), HBZ.out⟩
          · rw [if_pos (show Region.wanted _ _ = true from rfl)]
            have hz4 := (Below.refl (wt1).heap.size (wt1)).alloc (Nat.le_refl _) (.cells #[.bool false, .int .i64 0] 24)
            have n1_4 : w1.heap.size < (wt1).heap.size := World.block_lt_of_cell? _ _ hHe1.1
            have n2_4 : bb < (wt1).heap.size := World.block_lt_of_cell? _ _ hHe1.2.2.1
            have n3_4 := XV1.out.lt
            have n0_4 : w.heap.size < (wt1).heap.size := by have := HW1.out; omega
            have K04 := Lib.hid (K01.out.on hz4)
            have K14 := Lib.hid (K11.out.on hz4)
            have RR4 := Lib.hid (RR1.out.on hz4)
            have XV4 := Lib.hid (XV1.out.below hz4)
            have TT4 := Lib.hid (TT1.out.below hz4)
            have NN4 := Lib.hid (Blk.new (wt1) #[.bool false, .int .i64 0] 24)
            go_wp2_with fail
            refine hK'.out _ _ (keep_twelve hHe1 hz4) (fun hHe4 => ?_)
            clear hK' K' hz4
            (try simp only [Act.put, List.setIfInBounds_toArray, List.set_cons_zero, List.set_cons_succ])
            refine wpAnyH_ready (rs := [12]) (by kernel_rfl) (by simp) ?_
            refine (AllReadyH.cons rfl (fun K' hK' => ?_) AllReadyH.nil)
            rw [if_pos (show Region.wanted _ _ = true from rfl)]
            go_wp2_with fail
            refine (hcc.out _ _ TT4.out K14.out K04.out RR4.out).mono ?_
            rintro e wt5 ⟨rfl, hb⟩
            have K05 := Lib.hid (K04.out.on hb)
            have K15 := Lib.hid (K14.out.on hb)
            have RR5 := Lib.hid (RR4.out.on hb)
            have XV5 := Lib.hid (XV4.out.below hb)
            have TT5 := Lib.hid (TT4.out.below hb)
            have NN5 := Lib.hid (NN4.out.below hb)
            go_wp2_with fail
            refine hK'.out _ _ (keep_twelve hHe4 hb) (fun hHe5 => ?_)
            clear hK' K' hb
            (try simp only [Act.put, List.setIfInBounds_toArray, List.set_cons_zero, List.set_cons_succ])
            refine held_take 13 67 _ ?_ rfl rfl (by kernel_rfl) (by kernel_rfl) (by kernel_rfl) (fun _ _ _ h => h) (by kernel_rfl) (fun w' hSw => ?_) (by assumption) ?_
            rotate_left
            · ((try dsimp only at hSw); go_simp; (try with_reducible rfl))
            simp only [Act.put, List.setIfInBounds_toArray, List.set_cons_zero, List.set_cons_succ]
            refine held_take 14 81 _ ?_ rfl rfl (by kernel_rfl) (by kernel_rfl) (by kernel_rfl) (fun _ _ _ h => h) (by kernel_rfl) (fun w' hSw => ?_) (by assumption) ?_
            rotate_left
            · ((try dsimp only at hSw); go_simp; (try with_reducible rfl))
            simp only [Act.put, List.setIfInBounds_toArray, List.set_cons_zero, List.set_cons_succ]
            refine held_take 15 82 _ ?_ rfl rfl (by kernel_rfl) (by kernel_rfl) (by kernel_rfl) (fun _ _ _ h => h) (by kernel_rfl) (fun w' hSw => ?_) (by assumption) ?_
            rotate_left
            · ((try dsimp only at hSw); go_simp; (try with_reducible rfl))
            simp only [Act.put, List.setIfInBounds_toArray, List.set_cons_zero, List.set_cons_succ]
            have r0 := NN5.out.cell 0 _ rfl
            have r1 := NN5.out.cell 1 _ rfl
            have q0 := NN5.out.free 0
            have q1 := NN5.out.free 1
            dsimp only [List.getElem_toArray, List.getElem_cons_zero, List.getElem_cons_succ] at r0 r1
            refine wpAnyH_ready (rs := [17]) (by kernel_rfl) (by simp) ?_
            refine AllReadyH.cons rfl (fun K' hK' => ?_) AllReadyH.nil
            rw [if_pos (show Region.wanted _ _ = true from rfl)]
            go_wp2_with fail
            refine hK'.out _ _ (keep_twelveS hHe5 (Nat.le_of_lt n0_4) (Nat.ne_of_lt n1_4) (Nat.ne_of_lt n1_4) (Nat.ne_of_lt n2_4) (Nat.ne_of_lt n2_4) (Nat.ne_of_lt n2_4) (Nat.ne_of_lt n2_4) (Nat.ne_of_lt n2_4) (Nat.ne_of_lt n2_4) (Nat.ne_of_lt n2_4) (Nat.ne_of_lt n2_4) (Nat.ne_of_lt n2_4) (Nat.ne_of_lt n2_4) _ _) (fun hHz => ?_)
            clear hK' K'
            (try simp only [Act.put, List.setIfInBounds_toArray, List.set_cons_zero, List.set_cons_succ])
            have XVz := Lib.hid ((XV5.out.other ⟨(wt1).heap.size, 0, none⟩ (Nat.ne_of_gt n3_4) (.bool ev.nul)).other ⟨(wt1).heap.size, 1, none⟩ (Nat.ne_of_gt n3_4) (.int .i64 ev.n))
            have XNz := Lib.hid ((NN5.out.put' 0 (.bool ev.nul) (cs' := #[.bool ev.nul, .int .i64 0]) rfl).put' 1 (.int .i64 ev.n) (cs' := #[.bool ev.nul, .int .i64 ev.n]) rfl)
            have HBZ := Lib.hid hHz.2.2.2.2.2.2.2.2.2.2.2.2
            clear r0 r1 q0 q1
            refine held_take 18 10 _ ?_ rfl rfl (by kernel_rfl) (by kernel_rfl) (by kernel_rfl) (fun _ _ _ h => h) (by kernel_rfl) (fun w' hSw => ?_) (by assumption) ?_
            rotate_left
            · ((try dsimp only at hSw); go_simp; (try with_reducible rfl))
            simp only [Act.put, List.setIfInBounds_toArray, List.set_cons_zero, List.set_cons_succ]
            have r0 := XNz.out.cell 0 _ rfl
            have r1 := XNz.out.cell 1 _ rfl
            have b0 := XVz.out.cell 0 _ rfl
            have b1 := XVz.out.cell 1 _ rfl
            dsimp only [List.getElem_toArray, List.getElem_cons_zero, List.getElem_cons_succ] at r0 r1 b0 b1
            clear hHz
            refine wpAnyH_done (by kernel_rfl) ?_ _
            go_wp2_with fail
            go_ret
            exact ⟨ET.ret_of rfl (by simp), HBZ.out⟩
        · rw [if_pos (show Region.wanted _ _ = true from rfl)]
          have hz6 := (Below.refl (wd).heap.size (wd)).alloc (Nat.le_refl _) (.cells #[.bool false, .int .i64 0] 24)
          have n1_6 : w1.heap.size < (wd).heap.size := World.block_lt_of_cell? _ _ hHeld.1
          have n2_6 : bb < (wd).heap.size := World.block_lt_of_cell? _ _ hHeld.2.2.1
          have n3_6 := XVd.out.lt
          have n0_6 : w.heap.size < (wd).heap.size := by have := HW1.out; omega
          have K06 := Lib.hid (K0d.out.on hz6)
          have K16 := Lib.hid (K1d.out.on hz6)
          have RR6 := Lib.hid (RRd.out.on hz6)
          have XV6 := Lib.hid (XVd.out.below hz6)
          have NN6 := Lib.hid (Blk.new (wd) #[.bool false, .int .i64 0] 24)
          go_wp2_with fail
          refine hK'.out _ _ (keep_twelve hHeld hz6) (fun hHe6 => ?_)
          clear hK' K' hz6
          (try simp only [Act.put, List.setIfInBounds_toArray, List.set_cons_zero, List.set_cons_succ])
          refine wpAnyH_ready (rs := [10]) (by kernel_rfl) (by simp) ?_
          refine (AllReadyH.cons rfl (fun K' hK' => ?_) AllReadyH.nil)
          rw [if_pos (show Region.wanted _ _ = true from rfl)]
          go_wp2_with fail
          refine (ET.two_any t.k _ _ _ _ A1 _ _ _ _ _ _ A0 _ _ _).mono ?_
          rintro e wt7 ⟨gt, rfl, hX, hb⟩
          have K07 := Lib.hid (K06.out.on hb)
          have K17 := Lib.hid (K16.out.on hb)
          have RR7 := Lib.hid (RR6.out.on hb)
          have XV7 := Lib.hid (XV6.out.below hb)
          have NN7 := Lib.hid (NN6.out.below hb)
          have TT7 := Lib.hid hX
          go_wp2_with fail
          refine hK'.out _ _ (keep_twelve hHe6 hb) (fun hHe7 => ?_)
          clear hK' K' hb hX
          (try simp only [Act.put, List.setIfInBounds_toArray, List.set_cons_zero, List.set_cons_succ])
          refine wpAnyH_ready (rs := [12]) (by kernel_rfl) (by simp) ?_
          refine (AllReadyH.cons rfl (fun K' hK' => ?_) AllReadyH.nil)
          rw [if_pos (show Region.wanted _ _ = true from rfl)]
          go_wp2_with fail
          refine (hcc.out _ _ TT7.out K17.out K07.out RR7.out).mono ?_
          rintro e wt8 ⟨rfl, hb⟩
          have K08 := Lib.hid (K07.out.on hb)
          have K18 := Lib.hid (K17.out.on hb)
          have RR8 := Lib.hid (RR7.out.on hb)
          have XV8 := Lib.hid (XV7.out.below hb)
          have NN8 := Lib.hid (NN7.out.below hb)
          have TT8 := Lib.hid (TT7.out.below hb)
          go_wp2_with fail
          refine hK'.out _ _ (keep_twelve hHe7 hb) (fun hHe8 => ?_)
          clear hK' K' hb
          (try simp only [Act.put, List.setIfInBounds_toArray, List.set_cons_zero, List.set_cons_succ])
          refine held_take 13 67 _ ?_ rfl rfl (by kernel_rfl) (by kernel_rfl) (by kernel_rfl) (fun _ _ _ h => h) (by kernel_rfl) (fun w' hSw => ?_) (by assumption) ?_
          rotate_left
          · ((try dsimp only at hSw); go_simp; (try with_reducible rfl))
          simp only [Act.put, List.setIfInBounds_toArray, List.set_cons_zero, List.set_cons_succ]
          refine held_take 14 81 _ ?_ rfl rfl (by kernel_rfl) (by kernel_rfl) (by kernel_rfl) (fun _ _ _ h => h) (by kernel_rfl) (fun w' hSw => ?_) (by assumption) ?_
          rotate_left
          · ((try dsimp only at hSw); go_simp; (try with_reducible rfl))
          simp only [Act.put, List.setIfInBounds_toArray, List.set_cons_zero, List.set_cons_succ]
          refine held_take 15 82 _ ?_ rfl rfl (by kernel_rfl) (by kernel_rfl) (by kernel_rfl) (fun _ _ _ h => h) (by kernel_rfl) (fun w' hSw => ?_) (by assumption) ?_
          rotate_left
          · ((try dsimp only at hSw); go_simp; (try with_reducible rfl))
          simp only [Act.put, List.setIfInBounds_toArray, List.set_cons_zero, List.set_cons_succ]
          have r0 := NN8.out.cell 0 _ rfl
          have r1 := NN8.out.cell 1 _ rfl
          have q0 := NN8.out.free 0
          have q1 := NN8.out.free 1
          dsimp only [List.getElem_toArray, List.getElem_cons_zero, List.getElem_cons_succ] at r0 r1
          refine wpAnyH_ready (rs := [17]) (by kernel_rfl) (by simp) ?_
          refine AllReadyH.cons rfl (fun K' hK' => ?_) AllReadyH.nil
          rw [if_pos (show Region.wanted _ _ = true from rfl)]
          go_wp2_with fail
          refine hK'.out _ _ (keep_twelveS hHe8 (Nat.le_of_lt n0_6) (Nat.ne_of_lt n1_6) (Nat.ne_of_lt n1_6) (Nat.ne_of_lt n2_6) (Nat.ne_of_lt n2_6) (Nat.ne_of_lt n2_6) (Nat.ne_of_lt n2_6) (Nat.ne_of_lt n2_6) (Nat.ne_of_lt n2_6) (Nat.ne_of_lt n2_6) (Nat.ne_of_lt n2_6) (Nat.ne_of_lt n2_6) (Nat.ne_of_lt n2_6) _ _) (fun hHz => ?_)
          clear hK' K'
          (try simp only [Act.put, List.setIfInBounds_toArray, List.set_cons_zero, List.set_cons_succ])
          have XVz := Lib.hid ((XV8.out.other ⟨(wd).heap.size, 0, none⟩ (Nat.ne_of_gt n3_6) (.bool ev.nul)).other ⟨(wd).heap.size, 1, none⟩ (Nat.ne_of_gt n3_6) (.int .i64 ev.n))
          have XNz := Lib.hid ((NN8.out.put' 0 (.bool ev.nul) (cs' := #[.bool ev.nul, .int .i64 0]) rfl).put' 1 (.int .i64 ev.n) (cs' := #[.bool ev.nul, .int .i64 ev.n]) rfl)
          have HBZ := Lib.hid hHz.2.2.2.2.2.2.2.2.2.2.2.2
          clear r0 r1 q0 q1
          refine held_take 18 10 _ ?_ rfl rfl (by kernel_rfl) (by kernel_rfl) (by kernel_rfl) (fun _ _ _ h => h) (by kernel_rfl) (fun w' hSw => ?_) (by assumption) ?_
          rotate_left
          · ((try dsimp only at hSw); go_simp; (try with_reducible rfl))
          simp only [Act.put, List.setIfInBounds_toArray, List.set_cons_zero, List.set_cons_succ]
          have r0 := XNz.out.cell 0 _ rfl
          have r1 := XNz.out.cell 1 _ rfl
          have b0 := XVz.out.cell 0 _ rfl
          have b1 := XVz.out.cell 1 _ rfl
          dsimp only [List.getElem_toArray, List.getElem_cons_zero, List.getElem_cons_succ] at r0 r1 b0 b1
          clear hHz
          refine wpAnyH_done (by kernel_rfl) ?_ _
          go_wp2_with fail
          go_ret
          exact ⟨ET.ret_of rfl (by simp), HBZ.out⟩
      · have hbm : (((t.m : Nat) : Int) != 2) = true := by simp; omega
        go_wp2_with fail
        go_ret
        exact ⟨rfl, HB_6.out⟩
end Go.Proofs.Ytfbkbppaignofaa

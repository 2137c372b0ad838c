/-
  The terms of the program: the numbers of two kids, in whatever order.
-/
import Derived.Test.YtfbkbppaignofaaTermC
namespace Go.Proofs.Ytfbkbppaignofaa
open Go.RowKit

set_option maxHeartbeats 4000000 in
set_option maxRecDepth 100000 in
theorem numbers_any (i j : Value) (x y : M.V) (w : World) (R : Option Addr) (rn rc : Nat) (f : Nat → M.V) (hR : RowAt w w.heap.size R rn f) (hi : Ans R rn rc f i x) (hj : Ans R rn rc f j y) :
    Calls Try.prog 90 #[.agg #[i, j], .slice R rn rc] w fun e w' => e = .returned (.tuple #[.int .i64 x.n, .int .i64 y.n, .bool (!x.nul && !y.nul)]) ∧ Below w.heap.size w w' := by
  obtain ⟨T, u, g, rfl, hn, hm, hg, hc⟩ := hi
  obtain ⟨T', u', g', rfl, hn', hm', hg', hc'⟩ := hj
  have HB := Lib.hid (B_alloc (Below.refl w.heap.size w) (.cells #[.iface T u, .iface T' u'] 89))
  have XP := Lib.hid (Blk.new' (w := w) (cs := #[.iface T u, .iface T' u']) (T := 89) (g := w.heap.size) rfl)
  have HC := Lib.hid hc
  have HC' := Lib.hid hc'
  have HR := Lib.hid hR
  clear hc hc' hR
  go_enter Try.func90, Try.ntmps90
  go_wp2_with fail
  obtain ⟨w0, hw0⟩ : ∃ x, x = w.alloc (.cells #[.iface T u, .iface T' u'] 89) := ⟨_, rfl⟩
  rw [← hw0] at HB XP
  rw [← hw0]
  clear hw0
  refine Code.wp_mono (Q := (fun e a W => match e with | .normal => ∃ g7 g8, a = nbT T T' u u' R rn rc w.heap.size (.pointer (some ⟨g7, 0, none⟩)) (.pointer (some ⟨g8, 0, none⟩)) (.agg #[.bool x.nul, .int .i64 x.n]) (.agg #[.bool y.nul, .int .i64 y.n]) ∧ Blk W g7 #[.bool x.nul, .int .i64 x.n] 24 ∧ Blk W g8 #[.bool y.nul, .int .i64 y.n] 24 ∧ Below w.heap.size w W | _ => False)) ?_ ?_
  rotate_left
  · refine wp_region_held_drew (S := (fun w' => w'.cell? ⟨w.heap.size, 0, none⟩ = some (.iface T u) ∧ w'.cell? ⟨w.heap.size, 1, none⟩ = some (.iface T' u') ∧ Below w.heap.size w w')) (by kernel_rfl)    ⟨XP.out.cell 0 _ rfl, XP.out.cell 1 _ rfl, HB.out.drew⟩ (fun hHeld => ?_)
    refine held_take 0 9 _ ?_ rfl rfl (by kernel_rfl) (by kernel_rfl) (by kernel_rfl) (fun _ _ _ h => h) (by kernel_rfl) (fun w' hSw => ?_) (by assumption) ?_
    rotate_left
    · ((try dsimp only at hSw); go_simp; (try with_reducible rfl))
    simp only [Act.put, List.setIfInBounds_toArray, List.set_cons_zero, List.set_cons_succ]
    refine held_take 1 10 _ ?_ rfl rfl (by kernel_rfl) (by kernel_rfl) (by kernel_rfl) (fun _ _ _ h => h) (by kernel_rfl) (fun w' hSw => ?_) (by assumption) ?_
    rotate_left
    · ((try dsimp only at hSw); go_simp; (try with_reducible rfl))
    simp only [Act.put, List.setIfInBounds_toArray, List.set_cons_zero, List.set_cons_succ]
    refine held_take 2 11 _ ?_ rfl rfl (by kernel_rfl) (by kernel_rfl) (by kernel_rfl) (fun _ _ _ h => h) (by kernel_rfl) (fun w' hSw => ?_) (by assumption) ?_
    rotate_left
    · ((try dsimp only at hSw); go_simp; (try with_reducible rfl))
    simp only [Act.put, List.setIfInBounds_toArray, List.set_cons_zero, List.set_cons_succ]
    refine held_take 4 13 _ ?_ rfl rfl (by kernel_rfl) (by kernel_rfl) (by kernel_rfl) (fun _ _ _ h => h) (by kernel_rfl) (fun w' hSw => ?_) (by assumption) ?_
    rotate_left
    · ((try dsimp only at hSw); go_simp; (try with_reducible rfl))
    simp only [Act.put, List.setIfInBounds_toArray, List.set_cons_zero, List.set_cons_succ]
    refine held_take 5 14 _ ?_ rfl rfl (by kernel_rfl) (by kernel_rfl) (by kernel_rfl) (fun _ _ _ h => h) (by kernel_rfl) (fun w' hSw => ?_) (by assumption) ?_
    rotate_left
    · ((try dsimp only at hSw); go_simp; (try with_reducible rfl))
    simp only [Act.put, List.setIfInBounds_toArray, List.set_cons_zero, List.set_cons_succ]
    refine held_take 6 15 _ ?_ rfl rfl (by kernel_rfl) (by kernel_rfl) (by kernel_rfl) (fun _ _ _ h => h) (by kernel_rfl) (fun w' hSw => ?_) (by assumption) ?_
    rotate_left
    · ((try dsimp only at hSw); go_simp; (try with_reducible rfl))
    simp only [Act.put, List.setIfInBounds_toArray, List.set_cons_zero, List.set_cons_succ]
    show wpAnyH _ _ _ _ _ _ _ (nbT T T' u u' R rn rc w.heap.size undef undef undef undef) _
    refine wpAnyH_ready (rs := [3, 8, 9]) (by kernel_rfl) (by simp) ?_
    refine (AllReadyH.cons rfl (fun K hK => ?_) (AllReadyH.cons rfl (fun K hK => ?_) (AllReadyH.cons rfl (fun K hK => ?_) AllReadyH.nil)))
    · rw [if_pos (show Region.wanted _ _ = true from rfl)]
      refine nb_call1 rfl rfl hm hg (HC.out _ (HR.out.on hHeld.2.2)) (fun w1 hb => hK.out _ _ (keep_twoB hHeld hb) (fun hHeld1 => ?_))
      refine wpAnyH_ready (rs := [7, 8, 9]) (by kernel_rfl) (by simp) ?_
      refine (AllReadyH.cons rfl (fun K hK => ?_) (AllReadyH.cons rfl (fun K hK => ?_) (AllReadyH.cons rfl (fun K hK => ?_) AllReadyH.nil)))
      · rw [if_pos (show Region.wanted _ _ = true from rfl)]
        refine nb_call2 rfl rfl hm' hg' (HC'.out _ (HR.out.on hHeld1.2.2)) (fun w2 hb => hK.out _ _ (keep_twoB hHeld1 hb) (fun hHeld2 => ?_))
        refine wpAnyH_ready (rs := [8, 9]) (by kernel_rfl) (by simp) ?_
        refine (AllReadyH.cons rfl (fun K hK => ?_) (AllReadyH.cons rfl (fun K hK => ?_) AllReadyH.nil))
        · rw [if_pos (show Region.wanted _ _ = true from rfl)]
          have L3 : w.heap.size < (w2).heap.size := World.block_lt_of_cell? _ _ hHeld2.1
          refine nb_al7 rfl rfl (hK.out _ _ (keep_twoBA hHeld2 _) (fun hHeld3 => ?_))
          have X3_8 := Lib.hid (Blk.new (w2) #[.bool false, .int .i64 0] 24)
          refine wpAnyH_ready (rs := [9]) (by kernel_rfl) (by simp) ?_
          refine (AllReadyH.cons rfl (fun K hK => ?_) AllReadyH.nil)
          rw [if_pos (show Region.wanted _ _ = true from rfl)]
          have L4 : w.heap.size < ((w2).alloc (.cells #[.bool false, .int .i64 0] 24)).heap.size := World.block_lt_of_cell? _ _ hHeld3.1
          have M4 := X3_8.out.lt
          refine nb_al8 rfl rfl (hK.out _ _ (keep_twoBA hHeld3 _) (fun hHeld4 => ?_))
          have X4_8 := Lib.hid (X3_8.out.alloc (.cells #[.bool false, .int .i64 0] 24))
          have X4_9 := Lib.hid (Blk.new ((w2).alloc (.cells #[.bool false, .int .i64 0] 24)) #[.bool false, .int .i64 0] 24)
          refine wpAnyH_ready (rs := [10]) (by kernel_rfl) (by simp) ?_
          refine (AllReadyH.cons rfl (fun K hK => ?_) AllReadyH.nil)
          rw [if_pos (show Region.wanted _ _ = true from rfl)]
          refine nb_st7 rfl rfl X4_8.out (hK.out _ _ (keep_twoBS hHeld4 (Nat.le_of_lt L3) (Nat.ne_of_lt L3) _ _) (fun hHeld5 => ?_))
          have X5_8 := Lib.hid ((X4_8.out.put' 0 (.bool x.nul) (cs' := #[.bool x.nul, .int .i64 0]) rfl).put' 1 (.int .i64 x.n) (cs' := #[.bool x.nul, .int .i64 x.n]) rfl)
          have X5_9 := Lib.hid ((X4_9.out.other ⟨_, 0, none⟩ (Nat.ne_of_lt M4) (.bool x.nul)).other ⟨_, 1, none⟩ (Nat.ne_of_lt M4) (.int .i64 x.n))
          refine wpAnyH_ready (rs := [11]) (by kernel_rfl) (by simp) ?_
          refine (AllReadyH.cons rfl (fun K hK => ?_) AllReadyH.nil)
          rw [if_pos (show Region.wanted _ _ = true from rfl)]
          refine nb_st8 rfl rfl X5_9.out (hK.out _ _ (keep_twoBS hHeld5 (Nat.le_of_lt L4) (Nat.ne_of_lt L4) _ _) (fun hHeld6 => ?_))
          have X6_9 := Lib.hid ((X5_9.out.put' 0 (.bool y.nul) (cs' := #[.bool y.nul, .int .i64 0]) rfl).put' 1 (.int .i64 y.n) (cs' := #[.bool y.nul, .int .i64 y.n]) rfl)
          have X6_8 := Lib.hid ((X5_8.out.other ⟨_, 0, none⟩ (Nat.ne_of_gt M4) (.bool y.nul)).other ⟨_, 1, none⟩ (Nat.ne_of_gt M4) (.int .i64 y.n))
          refine wpAnyH_done (by kernel_rfl) ?_ _
          exact ⟨_, _, rfl, X6_8.out, X6_9.out, hHeld6.2.2⟩
        · rw [if_pos (show Region.wanted _ _ = true from rfl)]
          have L7 : w.heap.size < (w2).heap.size := World.block_lt_of_cell? _ _ hHeld2.1
          refine nb_al8 rfl rfl (hK.out _ _ (keep_twoBA hHeld2 _) (fun hHeld7 => ?_))
          have X7_9 := Lib.hid (Blk.new (w2) #[.bool false, .int .i64 0] 24)
          refine wpAnyH_ready (rs := [8]) (by kernel_rfl) (by simp) ?_
          refine (AllReadyH.cons rfl (fun K hK => ?_) AllReadyH.nil)
          rw [if_pos (show Region.wanted _ _ = true from rfl)]
          have L8 : w.heap.size < ((w2).alloc (.cells #[.bool false, .int .i64 0] 24)).heap.size := World.block_lt_of_cell? _ _ hHeld7.1
          have M8 := X7_9.out.lt
          refine nb_al7 rfl rfl (hK.out _ _ (keep_twoBA hHeld7 _) (fun hHeld8 => ?_))
          have X8_9 := Lib.hid (X7_9.out.alloc (.cells #[.bool false, .int .i64 0] 24))
          have X8_8 := Lib.hid (Blk.new ((w2).alloc (.cells #[.bool false, .int .i64 0] 24)) #[.bool false, .int .i64 0] 24)
          refine wpAnyH_ready (rs := [10]) (by kernel_rfl) (by simp) ?_
          refine (AllReadyH.cons rfl (fun K hK => ?_) AllReadyH.nil)
          rw [if_pos (show Region.wanted _ _ = true from rfl)]
          refine nb_st7 rfl rfl X8_8.out (hK.out _ _ (keep_twoBS hHeld8 (Nat.le_of_lt L8) (Nat.ne_of_lt L8) _ _) (fun hHeld9 => ?_))
          have X9_8 := Lib.hid ((X8_8.out.put' 0 (.bool x.nul) (cs' := #[.bool x.nul, .int .i64 0]) rfl).put' 1 (.int .i64 x.n) (cs' := #[.bool x.nul, .int .i64 x.n]) rfl)
          have X9_9 := Lib.hid ((X8_9.out.other ⟨_, 0, none⟩ (Nat.ne_of_gt M8) (.bool x.nul)).other ⟨_, 1, none⟩ (Nat.ne_of_gt M8) (.int .i64 x.n))
          refine wpAnyH_ready (rs := [11]) (by kernel_rfl) (by simp) ?_
          refine (AllReadyH.cons rfl (fun K hK => ?_) AllReadyH.nil)
          rw [if_pos (show Region.wanted _ _ = true from rfl)]
          refine nb_st8 rfl rfl X9_9.out (hK.out _ _ (keep_twoBS hHeld9 (Nat.le_of_lt L7) (Nat.ne_of_lt L7) _ _) (fun hHeld10 => ?_))
          have X10_9 := Lib.hid ((X9_9.out.put' 0 (.bool y.nul) (cs' := #[.bool y.nul, .int .i64 0]) rfl).put' 1 (.int .i64 y.n) (cs' := #[.bool y.nul, .int .i64 y.n]) rfl)
          have X10_8 := Lib.hid ((X9_8.out.other ⟨_, 0, none⟩ (Nat.ne_of_lt M8) (.bool y.nul)).other ⟨_, 1, none⟩ (Nat.ne_of_lt M8) (.int .i64 y.n))
          refine wpAnyH_done (by kernel_rfl) ?_ _
          exact ⟨_, _, rfl, X10_8.out, X10_9.out, hHeld10.2.2⟩
      · rw [if_pos (show Region.wanted _ _ = true from rfl)]
        have L11 : w.heap.size < (w1).heap.size := World.block_lt_of_cell? _ _ hHeld1.1
        refine nb_al7 rfl rfl (hK.out _ _ (keep_twoBA hHeld1 _) (fun hHeld11 => ?_))
        have X11_8 := Lib.hid (Blk.new (w1) #[.bool false, .int .i64 0] 24)
        refine wpAnyH_ready (rs := [7, 9]) (by kernel_rfl) (by simp) ?_
        refine (AllReadyH.cons rfl (fun K hK => ?_) (AllReadyH.cons rfl (fun K hK => ?_) AllReadyH.nil))
        · rw [if_pos (show Region.wanted _ _ = true from rfl)]
          refine nb_call2 rfl rfl hm' hg' (HC'.out _ (HR.out.on hHeld11.2.2)) (fun w12 hb => hK.out _ _ (keep_twoB hHeld11 hb) (fun hHeld12 => ?_))
          have X12_8 := Lib.hid (X11_8.out.below hb)
          refine wpAnyH_ready (rs := [9]) (by kernel_rfl) (by simp) ?_
          refine (AllReadyH.cons rfl (fun K hK => ?_) AllReadyH.nil)
          rw [if_pos (show Region.wanted _ _ = true from rfl)]
          have L13 : w.heap.size < (w12).heap.size := World.block_lt_of_cell? _ _ hHeld12.1
          have M13 := X12_8.out.lt
          refine nb_al8 rfl rfl (hK.out _ _ (keep_twoBA hHeld12 _) (fun hHeld13 => ?_))
          have X13_8 := Lib.hid (X12_8.out.alloc (.cells #[.bool false, .int .i64 0] 24))
          have X13_9 := Lib.hid (Blk.new (w12) #[.bool false, .int .i64 0] 24)
          refine wpAnyH_ready (rs := [10]) (by kernel_rfl) (by simp) ?_
          refine (AllReadyH.cons rfl (fun K hK => ?_) AllReadyH.nil)
          rw [if_pos (show Region.wanted _ _ = true from rfl)]
          refine nb_st7 rfl rfl X13_8.out (hK.out _ _ (keep_twoBS hHeld13 (Nat.le_of_lt L11) (Nat.ne_of_lt L11) _ _) (fun hHeld14 => ?_))
          have X14_8 := Lib.hid ((X13_8.out.put' 0 (.bool x.nul) (cs' := #[.bool x.nul, .int .i64 0]) rfl).put' 1 (.int .i64 x.n) (cs' := #[.bool x.nul, .int .i64 x.n]) rfl)
          have X14_9 := Lib.hid ((X13_9.out.other ⟨_, 0, none⟩ (Nat.ne_of_lt M13) (.bool x.nul)).other ⟨_, 1, none⟩ (Nat.ne_of_lt M13) (.int .i64 x.n))
          refine wpAnyH_ready (rs := [11]) (by kernel_rfl) (by simp) ?_
          refine (AllReadyH.cons rfl (fun K hK => ?_) AllReadyH.nil)
          rw [if_pos (show Region.wanted _ _ = true from rfl)]
          refine nb_st8 rfl rfl X14_9.out (hK.out _ _ (keep_twoBS hHeld14 (Nat.le_of_lt L13) (Nat.ne_of_lt L13) _ _) (fun hHeld15 => ?_))
          have X15_9 := Lib.hid ((X14_9.out.put' 0 (.bool y.nul) (cs' := #[.bool y.nul, .int .i64 0]) rfl).put' 1 (.int .i64 y.n) (cs' := #[.bool y.nul, .int .i64 y.n]) rfl)
          have X15_8 := Lib.hid ((X14_8.out.other ⟨_, 0, none⟩ (Nat.ne_of_gt M13) (.bool y.nul)).other ⟨_, 1, none⟩ (Nat.ne_of_gt M13) (.int .i64 y.n))
          refine wpAnyH_done (by kernel_rfl) ?_ _
          exact ⟨_, _, rfl, X15_8.out, X15_9.out, hHeld15.2.2⟩
        · rw [if_pos (show Region.wanted _ _ = true from rfl)]
          have L16 : w.heap.size < ((w1).alloc (.cells #[.bool false, .int .i64 0] 24)).heap.size := World.block_lt_of_cell? _ _ hHeld11.1
          have M16 := X11_8.out.lt
          refine nb_al8 rfl rfl (hK.out _ _ (keep_twoBA hHeld11 _) (fun hHeld16 => ?_))
          have X16_8 := Lib.hid (X11_8.out.alloc (.cells #[.bool false, .int .i64 0] 24))
          have X16_9 := Lib.hid (Blk.new ((w1).alloc (.cells #[.bool false, .int .i64 0] 24)) #[.bool false, .int .i64 0] 24)
          refine wpAnyH_ready (rs := [7]) (by kernel_rfl) (by simp) ?_
          refine (AllReadyH.cons rfl (fun K hK => ?_) AllReadyH.nil)
          rw [if_pos (show Region.wanted _ _ = true from rfl)]
          refine nb_call2 rfl rfl hm' hg' (HC'.out _ (HR.out.on hHeld16.2.2)) (fun w17 hb => hK.out _ _ (keep_twoB hHeld16 hb) (fun hHeld17 => ?_))
          have X17_8 := Lib.hid (X16_8.out.below hb)
          have X17_9 := Lib.hid (X16_9.out.below hb)
          refine wpAnyH_ready (rs := [10]) (by kernel_rfl) (by simp) ?_
          refine (AllReadyH.cons rfl (fun K hK => ?_) AllReadyH.nil)
          rw [if_pos (show Region.wanted _ _ = true from rfl)]
          refine nb_st7 rfl rfl X17_8.out (hK.out _ _ (keep_twoBS hHeld17 (Nat.le_of_lt L11) (Nat.ne_of_lt L11) _ _) (fun hHeld18 => ?_))
          have X18_8 := Lib.hid ((X17_8.out.put' 0 (.bool x.nul) (cs' := #[.bool x.nul, .int .i64 0]) rfl).put' 1 (.int .i64 x.n) (cs' := #[.bool x.nul, .int .i64 x.n]) rfl)
          have X18_9 := Lib.hid ((X17_9.out.other ⟨_, 0, none⟩ (Nat.ne_of_lt M16) (.bool x.nul)).other ⟨_, 1, none⟩ (Nat.ne_of_lt M16) (.int .i64 x.n))
          refine wpAnyH_ready (rs := [11]) (by kernel_rfl) (by simp) ?_
          refine (AllReadyH.cons rfl (fun K hK => ?_) AllReadyH.nil)
          rw [if_pos (show Region.wanted _ _ = true from rfl)]
          refine nb_st8 rfl rfl X18_9.out (hK.out _ _ (keep_twoBS hHeld18 (Nat.le_of_lt L16) (Nat.ne_of_lt L16) _ _) (fun hHeld19 => ?_))
          have X19_9 := Lib.hid ((X18_9.out.put' 0 (.bool y.nul) (cs' := #[.bool y.nul, .int .i64 0]) rfl).put' 1 (.int .i64 y.n) (cs' := #[.bool y.nul, .int .i64 y.n]) rfl)
          have X19_8 := Lib.hid ((X18_8.out.other ⟨_, 0, none⟩ (Nat.ne_of_gt M16) (.bool y.nul)).other ⟨_, 1, none⟩ (Nat.ne_of_gt M16) (.int .i64 y.n))
          refine wpAnyH_done (by kernel_rfl) ?_ _
          exact ⟨_, _, rfl, X19_8.out, X19_9.out, hHeld19.2.2⟩
      · rw [if_pos (show Region.wanted _ _ = true from rfl)]
        have L20 : w.heap.size < (w1).heap.size := World.block_lt_of_cell? _ _ hHeld1.1
        refine nb_al8 rfl rfl (hK.out _ _ (keep_twoBA hHeld1 _) (fun hHeld20 => ?_))
        have X20_9 := Lib.hid (Blk.new (w1) #[.bool false, .int .i64 0] 24)
        refine wpAnyH_ready (rs := [7, 8]) (by kernel_rfl) (by simp) ?_
        refine (AllReadyH.cons rfl (fun K hK => ?_) (AllReadyH.cons rfl (fun K hK => ?_) AllReadyH.nil))
        · rw [if_pos (show Region.wanted _ _ = true from rfl)]
          refine nb_call2 rfl rfl hm' hg' (HC'.out _ (HR.out.on hHeld20.2.2)) (fun w21 hb => hK.out _ _ (keep_twoB hHeld20 hb) (fun hHeld21 => ?_))
          have X21_9 := Lib.hid (X20_9.out.below hb)
          refine wpAnyH_ready (rs := [8]) (by kernel_rfl) (by simp) ?_
          refine (AllReadyH.cons rfl (fun K hK => ?_) AllReadyH.nil)
          rw [if_pos (show Region.wanted _ _ = true from rfl)]
          have L22 : w.heap.size < (w21).heap.size := World.block_lt_of_cell? _ _ hHeld21.1
          have M22 := X21_9.out.lt
          refine nb_al7 rfl rfl (hK.out _ _ (keep_twoBA hHeld21 _) (fun hHeld22 => ?_))
          have X22_9 := Lib.hid (X21_9.out.alloc (.cells #[.bool false, .int .i64 0] 24))
          have X22_8 := Lib.hid (Blk.new (w21) #[.bool false, .int .i64 0] 24)
          refine wpAnyH_ready (rs := [10]) (by kernel_rfl) (by simp) ?_
          refine (AllReadyH.cons rfl (fun K hK => ?_) AllReadyH.nil)
          rw [if_pos (show Region.wanted _ _ = true from rfl)]
          refine nb_st7 rfl rfl X22_8.out (hK.out _ _ (keep_twoBS hHeld22 (Nat.le_of_lt L22) (Nat.ne_of_lt L22) _ _) (fun hHeld23 => ?_))
          have X23_8 := Lib.hid ((X22_8.out.put' 0 (.bool x.nul) (cs' := #[.bool x.nul, .int .i64 0]) rfl).put' 1 (.int .i64 x.n) (cs' := #[.bool x.nul, .int .i64 x.n]) rfl)
          have X23_9 := Lib.hid ((X22_9.out.other ⟨_, 0, none⟩ (Nat.ne_of_gt M22) (.bool x.nul)).other ⟨_, 1, none⟩ (Nat.ne_of_gt M22) (.int .i64 x.n))
          refine wpAnyH_ready (rs := [11]) (by kernel_rfl) (by simp) ?_
          refine (AllReadyH.cons rfl (fun K hK => ?_) AllReadyH.nil)
          rw [if_pos (show Region.wanted _ _ = true from rfl)]
          refine nb_st8 rfl rfl X23_9.out (hK.out _ _ (keep_twoBS hHeld23 (Nat.le_of_lt L20) (Nat.ne_of_lt L20) _ _) (fun hHeld24 => ?_))
          have X24_9 := Lib.hid ((X23_9.out.put' 0 (.bool y.nul) (cs' := #[.bool y.nul, .int .i64 0]) rfl).put' 1 (.int .i64 y.n) (cs' := #[.bool y.nul, .int .i64 y.n]) rfl)
          have X24_8 := Lib.hid ((X23_8.out.other ⟨_, 0, none⟩ (Nat.ne_of_lt M22) (.bool y.nul)).other ⟨_, 1, none⟩ (Nat.ne_of_lt M22) (.int .i64 y.n))
          refine wpAnyH_done (by kernel_rfl) ?_ _
          exact ⟨_, _, rfl, X24_8.out, X24_9.out, hHeld24.2.2⟩
        · rw [if_pos (show Region.wanted _ _ = true from rfl)]
          have L25 : w.heap.size < ((w1).alloc (.cells #[.bool false, .int .i64 0] 24)).heap.size := World.block_lt_of_cell? _ _ hHeld20.1
          have M25 := X20_9.out.lt
          refine nb_al7 rfl rfl (hK.out _ _ (keep_twoBA hHeld20 _) (fun hHeld25 => ?_))
          have X25_9 := Lib.hid (X20_9.out.alloc (.cells #[.bool false, .int .i64 0] 24))
          have X25_8 := Lib.hid (Blk.new ((w1).alloc (.cells #[.bool false, .int .i64 0] 24)) #[.bool false, .int .i64 0] 24)
          refine wpAnyH_ready (rs := [7]) (by kernel_rfl) (by simp) ?_
          refine (AllReadyH.cons rfl (fun K hK => ?_) AllReadyH.nil)
          rw [if_pos (show Region.wanted _ _ = true from rfl)]
          refine nb_call2 rfl rfl hm' hg' (HC'.out _ (HR.out.on hHeld25.2.2)) (fun w26 hb => hK.out _ _ (keep_twoB hHeld25 hb) (fun hHeld26 => ?_))
          have X26_9 := Lib.hid (X25_9.out.below hb)
          have X26_8 := Lib.hid (X25_8.out.below hb)
          refine wpAnyH_ready (rs := [10]) (by kernel_rfl) (by simp) ?_
          refine (AllReadyH.cons rfl (fun K hK => ?_) AllReadyH.nil)
          rw [if_pos (show Region.wanted _ _ = true from rfl)]
          refine nb_st7 rfl rfl X26_8.out (hK.out _ _ (keep_twoBS hHeld26 (Nat.le_of_lt L25) (Nat.ne_of_lt L25) _ _) (fun hHeld27 => ?_))
          have X27_8 := Lib.hid ((X26_8.out.put' 0 (.bool x.nul) (cs' := #[.bool x.nul, .int .i64 0]) rfl).put' 1 (.int .i64 x.n) (cs' := #[.bool x.nul, .int .i64 x.n]) rfl)
          have X27_9 := Lib.hid ((X26_9.out.other ⟨_, 0, none⟩ (Nat.ne_of_gt M25) (.bool x.nul)).other ⟨_, 1, none⟩ (Nat.ne_of_gt M25) (.int .i64 x.n))
          refine wpAnyH_ready (rs := [11]) (by kernel_rfl) (by simp) ?_
          refine (AllReadyH.cons rfl (fun K hK => ?_) AllReadyH.nil)
          rw [if_pos (show Region.wanted _ _ = true from rfl)]
          refine nb_st8 rfl rfl X27_9.out (hK.out _ _ (keep_twoBS hHeld27 (Nat.le_of_lt L20) (Nat.ne_of_lt L20) _ _) (fun hHeld28 => ?_))
          have X28_9 := Lib.hid ((X27_9.out.put' 0 (.bool y.nul) (cs' := #[.bool y.nul, .int .i64 0]) rfl).put' 1 (.int .i64 y.n) (cs' := #[.bool y.nul, .int .i64 y.n]) rfl)
          have X28_8 := Lib.hid ((X27_8.out.other ⟨_, 0, none⟩ (Nat.ne_of_lt M25) (.bool y.nul)).other ⟨_, 1, none⟩ (Nat.ne_of_lt M25) (.int .i64 y.n))
          refine wpAnyH_done (by kernel_rfl) ?_ _
          exact ⟨_, _, rfl, X28_8.out, X28_9.out, hHeld28.2.2⟩
    · rw [if_pos (show Region.wanted _ _ = true from rfl)]
      have L29 : w.heap.size < (w0.drew).heap.size := World.block_lt_of_cell? _ _ hHeld.1
      refine nb_al7 rfl rfl (hK.out _ _ (keep_twoBA hHeld _) (fun hHeld29 => ?_))
      have X29_8 := Lib.hid (Blk.new (w0.drew) #[.bool false, .int .i64 0] 24)
      refine wpAnyH_ready (rs := [3, 9]) (by kernel_rfl) (by simp) ?_
      refine (AllReadyH.cons rfl (fun K hK => ?_) (AllReadyH.cons rfl (fun K hK => ?_) AllReadyH.nil))
      · rw [if_pos (show Region.wanted _ _ = true from rfl)]
        refine nb_call1 rfl rfl hm hg (HC.out _ (HR.out.on hHeld29.2.2)) (fun w30 hb => hK.out _ _ (keep_twoB hHeld29 hb) (fun hHeld30 => ?_))
        have X30_8 := Lib.hid (X29_8.out.below hb)
        refine wpAnyH_ready (rs := [7, 9]) (by kernel_rfl) (by simp) ?_
        refine (AllReadyH.cons rfl (fun K hK => ?_) (AllReadyH.cons rfl (fun K hK => ?_) AllReadyH.nil))
        · rw [if_pos (show Region.wanted _ _ = true from rfl)]
          refine nb_call2 rfl rfl hm' hg' (HC'.out _ (HR.out.on hHeld30.2.2)) (fun w31 hb => hK.out _ _ (keep_twoB hHeld30 hb) (fun hHeld31 => ?_))
          have X31_8 := Lib.hid (X30_8.out.below hb)
          refine wpAnyH_ready (rs := [9]) (by kernel_rfl) (by simp) ?_
          refine (AllReadyH.cons rfl (fun K hK => ?_) AllReadyH.nil)
          rw [if_pos (show Region.wanted _ _ = true from rfl)]
          have L32 : w.heap.size < (w31).heap.size := World.block_lt_of_cell? _ _ hHeld31.1
          have M32 := X31_8.out.lt
          refine nb_al8 rfl rfl (hK.out _ _ (keep_twoBA hHeld31 _) (fun hHeld32 => ?_))
          have X32_8 := Lib.hid (X31_8.out.alloc (.cells #[.bool false, .int .i64 0] 24))
          have X32_9 := Lib.hid (Blk.new (w31) #[.bool false, .int .i64 0] 24)
          refine wpAnyH_ready (rs := [10]) (by kernel_rfl) (by simp) ?_
          refine (AllReadyH.cons rfl (fun K hK => ?_) AllReadyH.nil)
          rw [if_pos (show Region.wanted _ _ = true from rfl)]
          refine nb_st7 rfl rfl X32_8.out (hK.out _ _ (keep_twoBS hHeld32 (Nat.le_of_lt L29) (Nat.ne_of_lt L29) _ _) (fun hHeld33 => ?_))
          have X33_8 := Lib.hid ((X32_8.out.put' 0 (.bool x.nul) (cs' := #[.bool x.nul, .int .i64 0]) rfl).put' 1 (.int .i64 x.n) (cs' := #[.bool x.nul, .int .i64 x.n]) rfl)
          have X33_9 := Lib.hid ((X32_9.out.other ⟨_, 0, none⟩ (Nat.ne_of_lt M32) (.bool x.nul)).other ⟨_, 1, none⟩ (Nat.ne_of_lt M32) (.int .i64 x.n))
          refine wpAnyH_ready (rs := [11]) (by kernel_rfl) (by simp) ?_
          refine (AllReadyH.cons rfl (fun K hK => ?_) AllReadyH.nil)
          rw [if_pos (show Region.wanted _ _ = true from rfl)]
          refine nb_st8 rfl rfl X33_9.out (hK.out _ _ (keep_twoBS hHeld33 (Nat.le_of_lt L32) (Nat.ne_of_lt L32) _ _) (fun hHeld34 => ?_))
          have X34_9 := Lib.hid ((X33_9.out.put' 0 (.bool y.nul) (cs' := #[.bool y.nul, .int .i64 0]) rfl).put' 1 (.int .i64 y.n) (cs' := #[.bool y.nul, .int .i64 y.n]) rfl)
          have X34_8 := Lib.hid ((X33_8.out.other ⟨_, 0, none⟩ (Nat.ne_of_gt M32) (.bool y.nul)).other ⟨_, 1, none⟩ (Nat.ne_of_gt M32) (.int .i64 y.n))
          refine wpAnyH_done (by kernel_rfl) ?_ _
          exact ⟨_, _, rfl, X34_8.out, X34_9.out, hHeld34.2.2⟩
        · rw [if_pos (show Region.wanted _ _ = true from rfl)]
          have L35 : w.heap.size < (w30).heap.size := World.block_lt_of_cell? _ _ hHeld30.1
          have M35 := X30_8.out.lt
          refine nb_al8 rfl rfl (hK.out _ _ (keep_twoBA hHeld30 _) (fun hHeld35 => ?_))
          have X35_8 := Lib.hid (X30_8.out.alloc (.cells #[.bool false, .int .i64 0] 24))
          have X35_9 := Lib.hid (Blk.new (w30) #[.bool false, .int .i64 0] 24)
          refine wpAnyH_ready (rs := [7]) (by kernel_rfl) (by simp) ?_
          refine (AllReadyH.cons rfl (fun K hK => ?_) AllReadyH.nil)
          rw [if_pos (show Region.wanted _ _ = true from rfl)]
          refine nb_call2 rfl rfl hm' hg' (HC'.out _ (HR.out.on hHeld35.2.2)) (fun w36 hb => hK.out _ _ (keep_twoB hHeld35 hb) (fun hHeld36 => ?_))
          have X36_8 := Lib.hid (X35_8.out.below hb)
          have X36_9 := Lib.hid (X35_9.out.below hb)
          refine wpAnyH_ready (rs := [10]) (by kernel_rfl) (by simp) ?_
          refine (AllReadyH.cons rfl (fun K hK => ?_) AllReadyH.nil)
          rw [if_pos (show Region.wanted _ _ = true from rfl)]
          refine nb_st7 rfl rfl X36_8.out (hK.out _ _ (keep_twoBS hHeld36 (Nat.le_of_lt L29) (Nat.ne_of_lt L29) _ _) (fun hHeld37 => ?_))
          have X37_8 := Lib.hid ((X36_8.out.put' 0 (.bool x.nul) (cs' := #[.bool x.nul, .int .i64 0]) rfl).put' 1 (.int .i64 x.n) (cs' := #[.bool x.nul, .int .i64 x.n]) rfl)
          have X37_9 := Lib.hid ((X36_9.out.other ⟨_, 0, none⟩ (Nat.ne_of_lt M35) (.bool x.nul)).other ⟨_, 1, none⟩ (Nat.ne_of_lt M35) (.int .i64 x.n))
          refine wpAnyH_ready (rs := [11]) (by kernel_rfl) (by simp) ?_
          refine (AllReadyH.cons rfl (fun K hK => ?_) AllReadyH.nil)
          rw [if_pos (show Region.wanted _ _ = true from rfl)]
          refine nb_st8 rfl rfl X37_9.out (hK.out _ _ (keep_twoBS hHeld37 (Nat.le_of_lt L35) (Nat.ne_of_lt L35) _ _) (fun hHeld38 => ?_))
          have X38_9 := Lib.hid ((X37_9.out.put' 0 (.bool y.nul) (cs' := #[.bool y.nul, .int .i64 0]) rfl).put' 1 (.int .i64 y.n) (cs' := #[.bool y.nul, .int .i64 y.n]) rfl)
          have X38_8 := Lib.hid ((X37_8.out.other ⟨_, 0, none⟩ (Nat.ne_of_gt M35) (.bool y.nul)).other ⟨_, 1, none⟩ (Nat.ne_of_gt M35) (.int .i64 y.n))
          refine wpAnyH_done (by kernel_rfl) ?_ _
          exact ⟨_, _, rfl, X38_8.out, X38_9.out, hHeld38.2.2⟩
      · rw [if_pos (show Region.wanted _ _ = true from rfl)]
        have L39 : w.heap.size < ((w0.drew).alloc (.cells #[.bool false, .int .i64 0] 24)).heap.size := World.block_lt_of_cell? _ _ hHeld29.1
        have M39 := X29_8.out.lt
        refine nb_al8 rfl rfl (hK.out _ _ (keep_twoBA hHeld29 _) (fun hHeld39 => ?_))
        have X39_8 := Lib.hid (X29_8.out.alloc (.cells #[.bool false, .int .i64 0] 24))
        have X39_9 := Lib.hid (Blk.new ((w0.drew).alloc (.cells #[.bool false, .int .i64 0] 24)) #[.bool false, .int .i64 0] 24)
        refine wpAnyH_ready (rs := [3]) (by kernel_rfl) (by simp) ?_
        refine (AllReadyH.cons rfl (fun K hK => ?_) AllReadyH.nil)
        rw [if_pos (show Region.wanted _ _ = true from rfl)]
        refine nb_call1 rfl rfl hm hg (HC.out _ (HR.out.on hHeld39.2.2)) (fun w40 hb => hK.out _ _ (keep_twoB hHeld39 hb) (fun hHeld40 => ?_))
        have X40_8 := Lib.hid (X39_8.out.below hb)
        have X40_9 := Lib.hid (X39_9.out.below hb)
        refine wpAnyH_ready (rs := [7]) (by kernel_rfl) (by simp) ?_
        refine (AllReadyH.cons rfl (fun K hK => ?_) AllReadyH.nil)
        rw [if_pos (show Region.wanted _ _ = true from rfl)]
        refine nb_call2 rfl rfl hm' hg' (HC'.out _ (HR.out.on hHeld40.2.2)) (fun w41 hb => hK.out _ _ (keep_twoB hHeld40 hb) (fun hHeld41 => ?_))
        have X41_8 := Lib.hid (X40_8.out.below hb)
        have X41_9 := Lib.hid (X40_9.out.below hb)
        refine wpAnyH_ready (rs := [10]) (by kernel_rfl) (by simp) ?_
        refine (AllReadyH.cons rfl (fun K hK => ?_) AllReadyH.nil)
        rw [if_pos (show Region.wanted _ _ = true from rfl)]
        refine nb_st7 rfl rfl X41_8.out (hK.out _ _ (keep_twoBS hHeld41 (Nat.le_of_lt L29) (Nat.ne_of_lt L29) _ _) (fun hHeld42 => ?_))
        have X42_8 := Lib.hid ((X41_8.out.put' 0 (.bool x.nul) (cs' := #[.bool x.nul, .int .i64 0]) rfl).put' 1 (.int .i64 x.n) (cs' := #[.bool x.nul, .int .i64 x.n]) rfl)
        have X42_9 := Lib.hid ((X41_9.out.other ⟨_, 0, none⟩ (Nat.ne_of_lt M39) (.bool x.nul)).other ⟨_, 1, none⟩ (Nat.ne_of_lt M39) (.int .i64 x.n))
        refine wpAnyH_ready (rs := [11]) (by kernel_rfl) (by simp) ?_
        refine (AllReadyH.cons rfl (fun K hK => ?_) AllReadyH.nil)
        rw [if_pos (show Region.wanted _ _ = true from rfl)]
        refine nb_st8 rfl rfl X42_9.out (hK.out _ _ (keep_twoBS hHeld42 (Nat.le_of_lt L39) (Nat.ne_of_lt L39) _ _) (fun hHeld43 => ?_))
        have X43_9 := Lib.hid ((X42_9.out.put' 0 (.bool y.nul) (cs' := #[.bool y.nul, .int .i64 0]) rfl).put' 1 (.int .i64 y.n) (cs' := #[.bool y.nul, .int .i64 y.n]) rfl)
        have X43_8 := Lib.hid ((X42_8.out.other ⟨_, 0, none⟩ (Nat.ne_of_gt M39) (.bool y.nul)).other ⟨_, 1, none⟩ (Nat.ne_of_gt M39) (.int .i64 y.n))
        refine wpAnyH_done (by kernel_rfl) ?_ _
        exact ⟨_, _, rfl, X43_8.out, X43_9.out, hHeld43.2.2⟩
    · rw [if_pos (show Region.wanted _ _ = true from rfl)]
      have L44 : w.heap.size < (w0.drew).heap.size := World.block_lt_of_cell? _ _ hHeld.1
      refine nb_al8 rfl rfl (hK.out _ _ (keep_twoBA hHeld _) (fun hHeld44 => ?_))
      have X44_9 := Lib.hid (Blk.new (w0.drew) #[.bool false, .int .i64 0] 24)
      refine wpAnyH_ready (rs := [3, 8]) (by kernel_rfl) (by simp) ?_
      refine (AllReadyH.cons rfl (fun K hK => ?_) (AllReadyH.cons rfl (fun K hK => ?_) AllReadyH.nil))
      · rw [if_pos (show Region.wanted _ _ = true from rfl)]
        refine nb_call1 rfl rfl hm hg (HC.out _ (HR.out.on hHeld44.2.2)) (fun w45 hb => hK.out _ _ (keep_twoB hHeld44 hb) (fun hHeld45 => ?_))
        have X45_9 := Lib.hid (X44_9.out.below hb)
        refine wpAnyH_ready (rs := [7, 8]) (by kernel_rfl) (by simp) ?_
        refine (AllReadyH.cons rfl (fun K hK => ?_) (AllReadyH.cons rfl (fun K hK => ?_) AllReadyH.nil))
        · rw [if_pos (show Region.wanted _ _ = true from rfl)]
          refine nb_call2 rfl rfl hm' hg' (HC'.out _ (HR.out.on hHeld45.2.2)) (fun w46 hb => hK.out _ _ (keep_twoB hHeld45 hb) (fun hHeld46 => ?_))
          have X46_9 := Lib.hid (X45_9.out.below hb)
          refine wpAnyH_ready (rs := [8]) (by kernel_rfl) (by simp) ?_
          refine (AllReadyH.cons rfl (fun K hK => ?_) AllReadyH.nil)
          rw [if_pos (show Region.wanted _ _ = true from rfl)]
          have L47 : w.heap.size < (w46).heap.size := World.block_lt_of_cell? _ _ hHeld46.1
          have M47 := X46_9.out.lt
          refine nb_al7 rfl rfl (hK.out _ _ (keep_twoBA hHeld46 _) (fun hHeld47 => ?_))
          have X47_9 := Lib.hid (X46_9.out.alloc (.cells #[.bool false, .int .i64 0] 24))
          have X47_8 := Lib.hid (Blk.new (w46) #[.bool false, .int .i64 0] 24)
          refine wpAnyH_ready (rs := [10]) (by kernel_rfl) (by simp) ?_
          refine (AllReadyH.cons rfl (fun K hK => ?_) AllReadyH.nil)
          rw [if_pos (show Region.wanted _ _ = true from rfl)]
          refine nb_st7 rfl rfl X47_8.out (hK.out _ _ (keep_twoBS hHeld47 (Nat.le_of_lt L47) (Nat.ne_of_lt L47) _ _) (fun hHeld48 => ?_))
          have X48_8 := Lib.hid ((X47_8.out.put' 0 (.bool x.nul) (cs' := #[.bool x.nul, .int .i64 0]) rfl).put' 1 (.int .i64 x.n) (cs' := #[.bool x.nul, .int .i64 x.n]) rfl)
          have X48_9 := Lib.hid ((X47_9.out.other ⟨_, 0, none⟩ (Nat.ne_of_gt M47) (.bool x.nul)).other ⟨_, 1, none⟩ (Nat.ne_of_gt M47) (.int .i64 x.n))
          refine wpAnyH_ready (rs := [11]) (by kernel_rfl) (by simp) ?_
          refine (AllReadyH.cons rfl (fun K hK => ?_) AllReadyH.nil)
          rw [if_pos (show Region.wanted _ _ = true from rfl)]
          refine nb_st8 rfl rfl X48_9.out (hK.out _ _ (keep_twoBS hHeld48 (Nat.le_of_lt L44) (Nat.ne_of_lt L44) _ _) (fun hHeld49 => ?_))
          have X49_9 := Lib.hid ((X48_9.out.put' 0 (.bool y.nul) (cs' := #[.bool y.nul, .int .i64 0]) rfl).put' 1 (.int .i64 y.n) (cs' := #[.bool y.nul, .int .i64 y.n]) rfl)
          have X49_8 := Lib.hid ((X48_8.out.other ⟨_, 0, none⟩ (Nat.ne_of_lt M47) (.bool y.nul)).other ⟨_, 1, none⟩ (Nat.ne_of_lt M47) (.int .i64 y.n))
          refine wpAnyH_done (by kernel_rfl) ?_ _
          exact ⟨_, _, rfl, X49_8.out, X49_9.out, hHeld49.2.2⟩
        · rw [if_pos (show Region.wanted _ _ = true from rfl)]
          have L50 : w.heap.size < (w45).heap.size := World.block_lt_of_cell? _ _ hHeld45.1
          have M50 := X45_9.out.lt
          refine nb_al7 rfl rfl (hK.out _ _ (keep_twoBA hHeld45 _) (fun hHeld50 => ?_))
          have X50_9 := Lib.hid (X45_9.out.alloc (.cells #[.bool false, .int .i64 0] 24))
          have X50_8 := Lib.hid (Blk.new (w45) #[.bool false, .int .i64 0] 24)
          refine wpAnyH_ready (rs := [7]) (by kernel_rfl) (by simp) ?_
          refine (AllReadyH.cons rfl (fun K hK => ?_) AllReadyH.nil)
          rw [if_pos (show Region.wanted _ _ = true from rfl)]
          refine nb_call2 rfl rfl hm' hg' (HC'.out _ (HR.out.on hHeld50.2.2)) (fun w51 hb => hK.out _ _ (keep_twoB hHeld50 hb) (fun hHeld51 => ?_))
          have X51_9 := Lib.hid (X50_9.out.below hb)
          have X51_8 := Lib.hid (X50_8.out.below hb)
          refine wpAnyH_ready (rs := [10]) (by kernel_rfl) (by simp) ?_
          refine (AllReadyH.cons rfl (fun K hK => ?_) AllReadyH.nil)
          rw [if_pos (show Region.wanted _ _ = true from rfl)]
          refine nb_st7 rfl rfl X51_8.out (hK.out _ _ (keep_twoBS hHeld51 (Nat.le_of_lt L50) (Nat.ne_of_lt L50) _ _) (fun hHeld52 => ?_))
          have X52_8 := Lib.hid ((X51_8.out.put' 0 (.bool x.nul) (cs' := #[.bool x.nul, .int .i64 0]) rfl).put' 1 (.int .i64 x.n) (cs' := #[.bool x.nul, .int .i64 x.n]) rfl)
          have X52_9 := Lib.hid ((X51_9.out.other ⟨_, 0, none⟩ (Nat.ne_of_gt M50) (.bool x.nul)).other ⟨_, 1, none⟩ (Nat.ne_of_gt M50) (.int .i64 x.n))
          refine wpAnyH_ready (rs := [11]) (by kernel_rfl) (by simp) ?_
          refine (AllReadyH.cons rfl (fun K hK => ?_) AllReadyH.nil)
          rw [if_pos (show Region.wanted _ _ = true from rfl)]
          refine nb_st8 rfl rfl X52_9.out (hK.out _ _ (keep_twoBS hHeld52 (Nat.le_of_lt L44) (Nat.ne_of_lt L44) _ _) (fun hHeld53 => ?_))
          have X53_9 := Lib.hid ((X52_9.out.put' 0 (.bool y.nul) (cs' := #[.bool y.nul, .int .i64 0]) rfl).put' 1 (.int .i64 y.n) (cs' := #[.bool y.nul, .int .i64 y.n]) rfl)
          have X53_8 := Lib.hid ((X52_8.out.other ⟨_, 0, none⟩ (Nat.ne_of_lt M50) (.bool y.nul)).other ⟨_, 1, none⟩ (Nat.ne_of_lt M50) (.int .i64 y.n))
          refine wpAnyH_done (by kernel_rfl) ?_ _
          exact ⟨_, _, rfl, X53_8.out, X53_9.out, hHeld53.2.2⟩
      · rw [if_pos (show Region.wanted _ _ = true from rfl)]
        have L54 : w.heap.size < ((w0.drew).alloc (.cells #[.bool false, .int .i64 0] 24)).heap.size := World.block_lt_of_cell? _ _ hHeld44.1
        have M54 := X44_9.out.lt
        refine nb_al7 rfl rfl (hK.out _ _ (keep_twoBA hHeld44 _) (fun hHeld54 => ?_))
        have X54_9 := Lib.hid (X44_9.out.alloc (.cells #[.bool false, .int .i64 0] 24))
        have X54_8 := Lib.hid (Blk.new ((w0.drew).alloc (.cells #[.bool false, .int .i64 0] 24)) #[.bool false, .int .i64 0] 24)
        refine wpAnyH_ready (rs := [3]) (by kernel_rfl) (by simp) ?_
        refine (AllReadyH.cons rfl (fun K hK => ?_) AllReadyH.nil)
        rw [if_pos (show Region.wanted _ _ = true from rfl)]
        refine nb_call1 rfl rfl hm hg (HC.out _ (HR.out.on hHeld54.2.2)) (fun w55 hb => hK.out _ _ (keep_twoB hHeld54 hb) (fun hHeld55 => ?_))
        have X55_9 := Lib.hid (X54_9.out.below hb)
        have X55_8 := Lib.hid (X54_8.out.below hb)
        refine wpAnyH_ready (rs := [7]) (by kernel_rfl) (by simp) ?_
        refine (AllReadyH.cons rfl (fun K hK => ?_) AllReadyH.nil)
        rw [if_pos (show Region.wanted _ _ = true from rfl)]
        refine nb_call2 rfl rfl hm' hg' (HC'.out _ (HR.out.on hHeld55.2.2)) (fun w56 hb => hK.out _ _ (keep_twoB hHeld55 hb) (fun hHeld56 => ?_))
        have X56_9 := Lib.hid (X55_9.out.below hb)
        have X56_8 := Lib.hid (X55_8.out.below hb)
        refine wpAnyH_ready (rs := [10]) (by kernel_rfl) (by simp) ?_
        refine (AllReadyH.cons rfl (fun K hK => ?_) AllReadyH.nil)
        rw [if_pos (show Region.wanted _ _ = true from rfl)]
        refine nb_st7 rfl rfl X56_8.out (hK.out _ _ (keep_twoBS hHeld56 (Nat.le_of_lt L54) (Nat.ne_of_lt L54) _ _) (fun hHeld57 => ?_))
        have X57_8 := Lib.hid ((X56_8.out.put' 0 (.bool x.nul) (cs' := #[.bool x.nul, .int .i64 0]) rfl).put' 1 (.int .i64 x.n) (cs' := #[.bool x.nul, .int .i64 x.n]) rfl)
        have X57_9 := Lib.hid ((X56_9.out.other ⟨_, 0, none⟩ (Nat.ne_of_gt M54) (.bool x.nul)).other ⟨_, 1, none⟩ (Nat.ne_of_gt M54) (.int .i64 x.n))
        refine wpAnyH_ready (rs := [11]) (by kernel_rfl) (by simp) ?_
        refine (AllReadyH.cons rfl (fun K hK => ?_) AllReadyH.nil)
        rw [if_pos (show Region.wanted _ _ = true from rfl)]
        refine nb_st8 rfl rfl X57_9.out (hK.out _ _ (keep_twoBS hHeld57 (Nat.le_of_lt L44) (Nat.ne_of_lt L44) _ _) (fun hHeld58 => ?_))
        have X58_9 := Lib.hid ((X57_9.out.put' 0 (.bool y.nul) (cs' := #[.bool y.nul, .int .i64 0]) rfl).put' 1 (.int .i64 y.n) (cs' := #[.bool y.nul, .int .i64 y.n]) rfl)
        have X58_8 := Lib.hid ((X57_8.out.other ⟨_, 0, none⟩ (Nat.ne_of_lt M54) (.bool y.nul)).other ⟨_, 1, none⟩ (Nat.ne_of_lt M54) (.int .i64 y.n))
        refine wpAnyH_done (by kernel_rfl) ?_ _
        exact ⟨_, _, rfl, X58_8.out, X58_9.out, hHeld58.2.2⟩
  · intro e a W hQ
    cases e with
    | normal =>
      obtain ⟨g7, g8, rfl, h7, h8, hB⟩ := hQ
      have H7 := Lib.hid h7
      have H8 := Lib.hid h8
      have HBW := Lib.hid hB
      have r0 := h7.cell 0 _ rfl
      have r1 := h7.cell 1 _ rfl
      have s0 := h8.cell 0 _ rfl
      have s1 := h8.cell 1 _ rfl
      dsimp only [List.getElem_toArray, List.getElem_cons_zero, List.getElem_cons_succ] at r0 r1 s0 s1
      clear hB h7 h8
      rcases x with ⟨_ | _, xv⟩
      · dsimp only at r0 r1
        unfold nbT
        go_wp2_with fail
        refine wp_region_held_drew (S := (fun w' => w'.cell? ⟨g7, 0, none⟩ = some (.bool false) ∧ w'.cell? ⟨g7, 1, none⟩ = some (.int .i64 xv) ∧ w'.cell? ⟨g8, 0, none⟩ = some (.bool y.nul) ∧ w'.cell? ⟨g8, 1, none⟩ = some (.int .i64 y.n) ∧ Below w.heap.size w w')) (by kernel_rfl) ⟨r0, r1, s0, s1, HBW.out.drew⟩ (fun hHeld => ?_)
        refine held_take 0 17 _ ?_ rfl rfl (by kernel_rfl) (by kernel_rfl) (by kernel_rfl) (fun _ _ _ h => h) (by kernel_rfl) (fun w' hSw => ?_) (by assumption) ?_
        rotate_left
        · ((try dsimp only at hSw); go_simp; (try with_reducible rfl))
        simp only [Act.put, List.setIfInBounds_toArray, List.set_cons_zero, List.set_cons_succ]
        refine held_take 1 18 _ ?_ rfl rfl (by kernel_rfl) (by kernel_rfl) (by kernel_rfl) (fun _ _ _ h => h) (by kernel_rfl) (fun w' hSw => ?_) (by assumption) ?_
        rotate_left
        · ((try dsimp only at hSw); go_simp; (try with_reducible rfl))
        simp only [Act.put, List.setIfInBounds_toArray, List.set_cons_zero, List.set_cons_succ]
        refine held_take 2 19 _ ?_ rfl rfl (by kernel_rfl) (by kernel_rfl) (by kernel_rfl) (fun _ _ _ h => h) (by kernel_rfl) (fun w' hSw => ?_) (by assumption) ?_
        rotate_left
        · ((try dsimp only at hSw); go_simp; (try with_reducible rfl))
        simp only [Act.put, List.setIfInBounds_toArray, List.set_cons_zero, List.set_cons_succ]
        refine held_take 3 20 _ ?_ rfl rfl (by kernel_rfl) (by kernel_rfl) (by kernel_rfl) (fun _ _ _ h => h) (by kernel_rfl) (fun w' hSw => ?_) (by assumption) ?_
        rotate_left
        · ((try dsimp only at hSw); go_simp; (try with_reducible rfl))
        simp only [Act.put, List.setIfInBounds_toArray, List.set_cons_zero, List.set_cons_succ]
        refine held_take 4 21 _ ?_ rfl rfl (by kernel_rfl) (by kernel_rfl) (by kernel_rfl) (fun _ _ _ h => h) (by kernel_rfl) (fun w' hSw => ?_) (by assumption) ?_
        rotate_left
        · ((try dsimp only at hSw); go_simp; (try with_reducible rfl))
        simp only [Act.put, List.setIfInBounds_toArray, List.set_cons_zero, List.set_cons_succ]
        refine held_take 5 22 _ ?_ rfl rfl (by kernel_rfl) (by kernel_rfl) (by kernel_rfl) (fun _ _ _ h => h) (by kernel_rfl) (fun w' hSw => ?_) (by assumption) ?_
        rotate_left
        · ((try dsimp only at hSw); go_simp; (try with_reducible rfl))
        simp only [Act.put, List.setIfInBounds_toArray, List.set_cons_zero, List.set_cons_succ]
        refine held_take 6 23 _ ?_ rfl rfl (by kernel_rfl) (by kernel_rfl) (by kernel_rfl) (fun _ _ _ h => h) (by kernel_rfl) (fun w' hSw => ?_) (by assumption) ?_
        rotate_left
        · ((try dsimp only at hSw); go_simp; (try with_reducible rfl))
        simp only [Act.put, List.setIfInBounds_toArray, List.set_cons_zero, List.set_cons_succ]
        refine held_take 7 24 _ ?_ rfl rfl (by kernel_rfl) (by kernel_rfl) (by kernel_rfl) (fun _ _ _ h => h) (by kernel_rfl) (fun w' hSw => ?_) (by assumption) ?_
        rotate_left
        · ((try dsimp only at hSw); go_simp; (try with_reducible rfl))
        simp only [Act.put, List.setIfInBounds_toArray, List.set_cons_zero, List.set_cons_succ]
        refine held_take 8 25 _ ?_ rfl rfl (by kernel_rfl) (by kernel_rfl) (by kernel_rfl) (fun _ _ _ h => h) (by kernel_rfl) (fun w' hSw => ?_) (by assumption) ?_
        rotate_left
        · ((try dsimp only at hSw); go_simp; (try with_reducible rfl))
        simp only [Act.put, List.setIfInBounds_toArray, List.set_cons_zero, List.set_cons_succ]
        refine held_take 9 26 _ ?_ rfl rfl (by kernel_rfl) (by kernel_rfl) (by kernel_rfl) (fun _ _ _ h => h) (by kernel_rfl) (fun w' hSw => ?_) (by assumption) ?_
        rotate_left
        · ((try dsimp only at hSw); go_simp; (try with_reducible rfl))
        simp only [Act.put, List.setIfInBounds_toArray, List.set_cons_zero, List.set_cons_succ]
        refine held_take 10 27 _ ?_ rfl rfl (by kernel_rfl) (by kernel_rfl) (by kernel_rfl) (fun _ _ _ h => h) (by kernel_rfl) (fun w' hSw => ?_) (by assumption) ?_
        rotate_left
        · ((try dsimp only at hSw); go_simp; (try with_reducible rfl))
        simp only [Act.put, List.setIfInBounds_toArray, List.set_cons_zero, List.set_cons_succ]
        refine held_take 11 28 _ ?_ rfl rfl (by kernel_rfl) (by kernel_rfl) (by kernel_rfl) (fun _ _ _ h => h) (by kernel_rfl) (fun w' hSw => ?_) (by assumption) ?_
        rotate_left
        · ((try dsimp only at hSw); go_simp; (try with_reducible rfl))
        simp only [Act.put, List.setIfInBounds_toArray, List.set_cons_zero, List.set_cons_succ]
        refine held_take 12 4 _ ?_ rfl rfl (by kernel_rfl) (by kernel_rfl) (by kernel_rfl) (fun _ _ _ h => h) (by kernel_rfl) (fun w' hSw => ?_) (by assumption) ?_
        rotate_left
        · ((try dsimp only at hSw); go_simp; (try with_reducible rfl))
        simp only [Act.put, List.setIfInBounds_toArray, List.set_cons_zero, List.set_cons_succ]
        refine held_take 13 5 _ ?_ rfl rfl (by kernel_rfl) (by kernel_rfl) (by kernel_rfl) (fun _ _ _ h => h) (by kernel_rfl) (fun w' hSw => ?_) (by assumption) ?_
        rotate_left
        · ((try dsimp only at hSw); go_simp; (try with_reducible rfl))
        simp only [Act.put, List.setIfInBounds_toArray, List.set_cons_zero, List.set_cons_succ]
        refine held_take 14 6 _ ?_ rfl rfl (by kernel_rfl) (by kernel_rfl) (by kernel_rfl) (fun _ _ _ h => h) (by kernel_rfl) (fun w' hSw => ?_) (by assumption) ?_
        rotate_left
        · ((try dsimp only at hSw); go_simp; (try with_reducible rfl))
        simp only [Act.put, List.setIfInBounds_toArray, List.set_cons_zero, List.set_cons_succ]
        refine wpAnyH_done (by kernel_rfl) ?_ _
        go_wp2_with fail
        go_ret3
        exact ⟨rfl, HBW.out.drew⟩
      · dsimp only at r0 r1
        unfold nbT
        go_wp2_with fail
        refine wp_region_held_drew (S := (fun w' => w'.cell? ⟨g7, 0, none⟩ = some (.bool true) ∧ w'.cell? ⟨g7, 1, none⟩ = some (.int .i64 xv) ∧ w'.cell? ⟨g8, 0, none⟩ = some (.bool y.nul) ∧ w'.cell? ⟨g8, 1, none⟩ = some (.int .i64 y.n) ∧ Below w.heap.size w w')) (by kernel_rfl) ⟨r0, r1, s0, s1, HBW.out.drew⟩ (fun hHeld => ?_)
        refine held_take 0 17 _ ?_ rfl rfl (by kernel_rfl) (by kernel_rfl) (by kernel_rfl) (fun _ _ _ h => h) (by kernel_rfl) (fun w' hSw => ?_) (by assumption) ?_
        rotate_left
        · ((try dsimp only at hSw); go_simp; (try with_reducible rfl))
        simp only [Act.put, List.setIfInBounds_toArray, List.set_cons_zero, List.set_cons_succ]
        refine held_take 1 18 _ ?_ rfl rfl (by kernel_rfl) (by kernel_rfl) (by kernel_rfl) (fun _ _ _ h => h) (by kernel_rfl) (fun w' hSw => ?_) (by assumption) ?_
        rotate_left
        · ((try dsimp only at hSw); go_simp; (try with_reducible rfl))
        simp only [Act.put, List.setIfInBounds_toArray, List.set_cons_zero, List.set_cons_succ]
        refine held_take 2 19 _ ?_ rfl rfl (by kernel_rfl) (by kernel_rfl) (by kernel_rfl) (fun _ _ _ h => h) (by kernel_rfl) (fun w' hSw => ?_) (by assumption) ?_
        rotate_left
        · ((try dsimp only at hSw); go_simp; (try with_reducible rfl))
        simp only [Act.put, List.setIfInBounds_toArray, List.set_cons_zero, List.set_cons_succ]
        refine held_take 3 20 _ ?_ rfl rfl (by kernel_rfl) (by kernel_rfl) (by kernel_rfl) (fun _ _ _ h => h) (by kernel_rfl) (fun w' hSw => ?_) (by assumption) ?_
        rotate_left
        · ((try dsimp only at hSw); go_simp; (try with_reducible rfl))
        simp only [Act.put, List.setIfInBounds_toArray, List.set_cons_zero, List.set_cons_succ]
        refine held_take 4 21 _ ?_ rfl rfl (by kernel_rfl) (by kernel_rfl) (by kernel_rfl) (fun _ _ _ h => h) (by kernel_rfl) (fun w' hSw => ?_) (by assumption) ?_
        rotate_left
        · ((try dsimp only at hSw); go_simp; (try with_reducible rfl))
        simp only [Act.put, List.setIfInBounds_toArray, List.set_cons_zero, List.set_cons_succ]
        refine held_take 5 22 _ ?_ rfl rfl (by kernel_rfl) (by kernel_rfl) (by kernel_rfl) (fun _ _ _ h => h) (by kernel_rfl) (fun w' hSw => ?_) (by assumption) ?_
        rotate_left
        · ((try dsimp only at hSw); go_simp; (try with_reducible rfl))
        simp only [Act.put, List.setIfInBounds_toArray, List.set_cons_zero, List.set_cons_succ]
        refine held_take 6 23 _ ?_ rfl rfl (by kernel_rfl) (by kernel_rfl) (by kernel_rfl) (fun _ _ _ h => h) (by kernel_rfl) (fun w' hSw => ?_) (by assumption) ?_
        rotate_left
        · ((try dsimp only at hSw); go_simp; (try with_reducible rfl))
        simp only [Act.put, List.setIfInBounds_toArray, List.set_cons_zero, List.set_cons_succ]
        refine held_take 7 24 _ ?_ rfl rfl (by kernel_rfl) (by kernel_rfl) (by kernel_rfl) (fun _ _ _ h => h) (by kernel_rfl) (fun w' hSw => ?_) (by assumption) ?_
        rotate_left
        · ((try dsimp only at hSw); go_simp; (try with_reducible rfl))
        simp only [Act.put, List.setIfInBounds_toArray, List.set_cons_zero, List.set_cons_succ]
        refine held_skip 8 25 (by kernel_rfl) (by kernel_rfl) (by kernel_rfl) (by kernel_rfl) (fun _ _ _ h => h) (by kernel_rfl) (by assumption) ?_
        simp only [Act.put, List.setIfInBounds_toArray, List.set_cons_zero, List.set_cons_succ]
        refine held_skip 9 26 (by kernel_rfl) (by kernel_rfl) (by kernel_rfl) (by kernel_rfl) (fun _ _ _ h => h) (by kernel_rfl) (by assumption) ?_
        simp only [Act.put, List.setIfInBounds_toArray, List.set_cons_zero, List.set_cons_succ]
        refine held_skip 10 27 (by kernel_rfl) (by kernel_rfl) (by kernel_rfl) (by kernel_rfl) (fun _ _ _ h => h) (by kernel_rfl) (by assumption) ?_
        simp only [Act.put, List.setIfInBounds_toArray, List.set_cons_zero, List.set_cons_succ]
        refine held_take 11 28 _ ?_ rfl rfl (by kernel_rfl) (by kernel_rfl) (by kernel_rfl) (fun _ _ _ h => h) (by kernel_rfl) (fun w' hSw => ?_) (by assumption) ?_
        rotate_left
        · ((try dsimp only at hSw); go_simp; (try with_reducible rfl))
        simp only [Act.put, List.setIfInBounds_toArray, List.set_cons_zero, List.set_cons_succ]
        refine held_take 12 4 _ ?_ rfl rfl (by kernel_rfl) (by kernel_rfl) (by kernel_rfl) (fun _ _ _ h => h) (by kernel_rfl) (fun w' hSw => ?_) (by assumption) ?_
        rotate_left
        · ((try dsimp only at hSw); go_simp; (try with_reducible rfl))
        simp only [Act.put, List.setIfInBounds_toArray, List.set_cons_zero, List.set_cons_succ]
        refine held_take 13 5 _ ?_ rfl rfl (by kernel_rfl) (by kernel_rfl) (by kernel_rfl) (fun _ _ _ h => h) (by kernel_rfl) (fun w' hSw => ?_) (by assumption) ?_
        rotate_left
        · ((try dsimp only at hSw); go_simp; (try with_reducible rfl))
        simp only [Act.put, List.setIfInBounds_toArray, List.set_cons_zero, List.set_cons_succ]
        refine held_take 14 6 _ ?_ rfl rfl (by kernel_rfl) (by kernel_rfl) (by kernel_rfl) (fun _ _ _ h => h) (by kernel_rfl) (fun w' hSw => ?_) (by assumption) ?_
        rotate_left
        · ((try dsimp only at hSw); go_simp; (try with_reducible rfl))
        simp only [Act.put, List.setIfInBounds_toArray, List.set_cons_zero, List.set_cons_succ]
        refine wpAnyH_done (by kernel_rfl) ?_ _
        go_wp2_with fail
        go_ret3
        exact ⟨rfl, HBW.out.drew⟩
    | _ => exact hQ.elim
end Go.Proofs.Ytfbkbppaignofaa

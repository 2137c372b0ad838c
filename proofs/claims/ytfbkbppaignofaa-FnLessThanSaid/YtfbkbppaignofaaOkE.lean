/-
  Which expressions are valid, and the walks of the functions that ask.
-/
import Derived.Test.YtfbkbppaignofaaTree
import Derived.Test.YtfbkbppaignofaaBlk
import Derived.Test.YtfbkbppaignofaaHeld
import Derived.Test.YtfbkbppaignofaaLineA
import Derived.Deep.RegionHeld3
namespace Go.Proofs.Ytfbkbppaignofaa
open Go.RowKit

namespace ET
/-- How many kids a kind has. -/
def ar (k : Int) : Int := if k = 1 ∨ k = 2 then 0 else if k = 10 ∨ k = 11 then 1 else if 3 ≤ k ∧ k ≤ 9 then 2 else -1
def headOk (k c : Int) (b : Bool) (n : Int) (W : Int) : Bool :=
  if k = 1 then decide ((0 ≤ c ∧ c < W) ∧ b = false ∧ n = 0) else if k = 2 then decide (c = 0 ∧ okB b n = true) else decide (c = 0 ∧ b = false ∧ n = 0)
def okE : ET → Int → Nat → Bool
  | .mk k c b n m kid, W, lv => decide ((m : Int) = ar k) && headOk k c b n W && decide (∀ i, i < m → 0 < lv ∧ (kid i).okE W (lv - 1) = true)
  | .no, _, _ => false

theorem okE_no (W : Int) (lv : Nat) : (ET.mk 0 0 false 0 0 (fun _ => .no)).okE W lv = ET.no.okE W lv := by
  rw [okE]
  simp [ar, okE]
theorem okE_kids (t : ET) (W : Int) (lv : Nat) : t.okE W lv = (decide ((t.m : Int) = ar t.k) && headOk t.k t.c t.b t.n W && decide (∀ i, i < t.m → 0 < lv ∧ (t.kid i).okE W (lv - 1) = true)) := by
  cases t
  · rfl
  · simp [okE, ar, ET.m, ET.k]

theorem okE_leaf {t : ET} {W : Int} {lv : Nat} (h : (t.m : Int) = ar t.k) (h0 : t.m = 0) : t.okE W lv = headOk t.k t.c t.b t.n W := by
  rw [okE_kids, decide_eq_true h, h0]
  simp
theorem okE_node {t : ET} {W : Int} {lv : Nat} (h : (t.m : Int) = ar t.k) (h1 : headOk t.k t.c t.b t.n W = true) : t.okE W lv = decide (∀ i, i < t.m → 0 < lv ∧ (t.kid i).okE W (lv - 1) = true) := by
  rw [okE_kids, decide_eq_true h, h1]
  simp
theorem okE_head {t : ET} {W : Int} {lv : Nat} (h1 : headOk t.k t.c t.b t.n W = false) : t.okE W lv = false := by
  rw [okE_kids, h1]
  simp
theorem okE_ar {t : ET} {W : Int} {lv : Nat} (h1 : ¬ (t.m : Int) = ar t.k) : t.okE W lv = false := by
  rw [okE_kids, decide_eq_false h1]
  simp
theorem ret_of {v : Value} {x y : Bool} (h : v = .bool x) (e : x = y) : Ending.returned v = .returned (.bool y) := by rw [h, e]

theorem kidCount_any (k : Int) (w : World) :
    Calls Try.prog 61 #[.int .i64 k] w fun e w' => e = .returned (.int .i64 (ar k)) ∧ w = w' := by
  go_enter Try.func61, Try.ntmps61
  go_wp2
  all_goals go_ret
  all_goals refine ⟨ret_int ?_, rfl⟩
  all_goals unfold ar
  all_goals try simp only [beq_iff_eq, beq_eq_false_iff_ne, ne_eq] at *
  all_goals repeat' split
  all_goals omega
theorem kidsOf_any (k : Int) (w : World) :
    Calls Try.prog 62 #[.int .i64 k] w fun e w' => e = .returned (.int .i64 (ar k)) ∧ w = w' := by
  go_enter Try.func62, Try.ntmps62
  go_wp2
  all_goals go_ret
  all_goals refine ⟨ret_int ?_, rfl⟩
  all_goals unfold ar
  all_goals try simp only [beq_iff_eq, beq_eq_false_iff_ne, ne_eq] at *
  all_goals repeat' split
  all_goals omega

/-- What the program's validWithin does at a tree. -/
def VwOK (t : ET) : Prop := ∀ (w : World) (A : Option Addr) (cp : Nat) (W : Int) (lv : Nat), On w t A → t.Most 2000000 → 1 ≤ W → W ≤ 6 → lv ≤ 8 →
  Calls Try.prog 41 #[t.val A cp, .int .i64 W, .int .i64 lv] w fun e w' => e = .returned (.bool (t.okE W lv)) ∧ Below w.heap.size w w'

theorem vw_deep (t : ET) (w : World) (A : Option Addr) (cp : Nat) (W : Int) (hm : t.m ≤ 2000000) :
    Calls Try.prog 41 #[t.val A cp, .int .i64 W, .int .i64 (-1)] w fun e w' => e = .returned (.bool false) ∧ Below w.heap.size w w' := by
  unfold ET.val
  generalize t.k = k at *
  generalize t.c = c at *
  generalize t.b = b at *
  generalize t.n = n at *
  generalize t.m = m at *
  have hm' : m ≤ 2000000 := hm
  clear hm
  have HB := Lib.hid (B_alloc (Below.refl w.heap.size w) (.cells #[.int .i64 k, .int .i64 c, .bool b, .int .i64 n, .slice A m cp] 27))
  have HZ := Lib.hid (Blk.new' (w := w) (cs := #[.int .i64 k, .int .i64 c, .bool b, .int .i64 n, .slice A m cp]) (T := 27) (g := w.heap.size) rfl)
  go_enter Try.func41, Try.ntmps41
  go_wp2_with fail
  obtain ⟨w0, hw0⟩ : ∃ x, x = w.alloc (.cells #[.int .i64 k, .int .i64 c, .bool b, .int .i64 n, .slice A m cp] 27) := ⟨_, rfl⟩
  rw [← hw0] at HB HZ
  rw [← hw0]
  clear hw0
  have x0 := HZ.out.cell 0 _ rfl
  have x4 := HZ.out.cell 4 _ rfl
  dsimp only [List.getElem_toArray, List.getElem_cons_zero, List.getElem_cons_succ] at x0 x4
  refine wp_region_held_drew (S := (fun w' => w'.cell? ⟨w.heap.size, 0, none⟩ = some (.int .i64 k) ∧ w'.cell? ⟨w.heap.size, 4, none⟩ = some (.slice A m cp) ∧ Below w0.heap.size w0 w')) (by kernel_rfl) (init_two x0 x4) (fun hHeld => ?_)
  refine held_take 0 9 _ ?_ rfl rfl (by kernel_rfl) (by kernel_rfl) (by kernel_rfl) (fun _ _ _ h => h) (by kernel_rfl) (fun w' hSw => ?_) (by assumption) ?_
  rotate_left
  · ((try dsimp only at hSw); go_simp; (try with_reducible rfl))
  simp only [Act.put, List.setIfInBounds_toArray, List.set_cons_zero, List.set_cons_succ]
  refine held_take 1 10 _ ?_ rfl rfl (by kernel_rfl) (by kernel_rfl) (by kernel_rfl) (fun _ _ _ h => h) (by kernel_rfl) (fun w' hSw => ?_) (by assumption) ?_
  rotate_left
  · ((try dsimp only at hSw); go_simp; (try with_reducible rfl))
  simp only [Act.put, List.setIfInBounds_toArray, List.set_cons_zero, List.set_cons_succ]
  refine held_take 2 11 _ ?_ rfl rfl (by kernel_rfl) (by kernel_rfl) (by kernel_rfl) (fun _ _ _ h => h) (by kernel_rfl) (fun w' hSw => ?_) (by assumption) ?_
  rotate_left
  · ((try dsimp only at hSw); go_simp; (try with_reducible rfl))
  simp only [Act.put, List.setIfInBounds_toArray, List.set_cons_zero, List.set_cons_succ]
  refine held_skip 3 12 (by kernel_rfl) (by kernel_rfl) (by kernel_rfl) (by kernel_rfl) (fun _ _ _ h => h) (by kernel_rfl) (by assumption) ?_
  simp only [Act.put, List.setIfInBounds_toArray, List.set_cons_zero, List.set_cons_succ]
  refine held_skip 4 13 (by kernel_rfl) (by kernel_rfl) (by kernel_rfl) (by kernel_rfl) (fun _ _ _ h => h) (by kernel_rfl) (by assumption) ?_
  simp only [Act.put, List.setIfInBounds_toArray, List.set_cons_zero, List.set_cons_succ]
  refine held_skip 5 14 (by kernel_rfl) (by kernel_rfl) (by kernel_rfl) (by kernel_rfl) (fun _ _ _ h => h) (by kernel_rfl) (by assumption) ?_
  simp only [Act.put, List.setIfInBounds_toArray, List.set_cons_zero, List.set_cons_succ]
  refine held_skip 6 15 (by kernel_rfl) (by kernel_rfl) (by kernel_rfl) (by kernel_rfl) (fun _ _ _ h => h) (by kernel_rfl) (by assumption) ?_
  simp only [Act.put, List.setIfInBounds_toArray, List.set_cons_zero, List.set_cons_succ]
  refine held_skip 7 16 (by kernel_rfl) (by kernel_rfl) (by kernel_rfl) (by kernel_rfl) (fun _ _ _ h => h) (by kernel_rfl) (by assumption) ?_
  simp only [Act.put, List.setIfInBounds_toArray, List.set_cons_zero, List.set_cons_succ]
  refine held_skip 8 17 (by kernel_rfl) (by kernel_rfl) (by kernel_rfl) (by kernel_rfl) (fun _ _ _ h => h) (by kernel_rfl) (by assumption) ?_
  simp only [Act.put, List.setIfInBounds_toArray, List.set_cons_zero, List.set_cons_succ]
  refine held_skip 9 18 (by kernel_rfl) (by kernel_rfl) (by kernel_rfl) (by kernel_rfl) (fun _ _ _ h => h) (by kernel_rfl) (by assumption) ?_
  simp only [Act.put, List.setIfInBounds_toArray, List.set_cons_zero, List.set_cons_succ]
  refine held_take 10 19 _ ?_ rfl rfl (by kernel_rfl) (by kernel_rfl) (by kernel_rfl) (fun _ _ _ h => h) (by kernel_rfl) (fun w' hSw => ?_) (by assumption) ?_
  rotate_left
  · ((try dsimp only at hSw); go_simp; (try with_reducible rfl))
  simp only [Act.put, List.setIfInBounds_toArray, List.set_cons_zero, List.set_cons_succ]
  refine wpAnyH_done (by kernel_rfl) ?_ _
  go_wp2_with fail
  go_ret
  exact ⟨rfl, HB.out.drew⟩

theorem vw_step {t : ET} (IH : t.VwOK) (w : World) (A : Option Addr) (cp : Nat) (W : Int) (lv : Nat) (hA : On w t A) (hM : t.Most 2000000) (hW1 : 1 ≤ W) (hW2 : W ≤ 6) (hlv : lv ≤ 8) {x : Bool} (hx : (decide (0 < lv) && t.okE W (lv - 1)) = x) :
    Calls Try.prog 41 #[.agg #[.int .i64 t.k, .int .i64 t.c, .bool t.b, .int .i64 t.n, .slice A t.m cp], .int .i64 W, .int .i64 ((lv : Int) - 1)] w fun e w' => e = .returned (.bool x) ∧ Below w.heap.size w w' := by
  subst hx
  cases lv with
  | zero => exact vw_deep t w A cp W (most_kids.1 hM).1
  | succ l =>
    have h := IH w A cp W l hA hM hW1 hW2 (by omega)
    rw [show ((l + 1 : Nat) : Int) - 1 = (l : Int) by omega]
    refine h.mono fun e w' hh => ⟨?_, hh.2⟩
    rw [hh.1]
    simp

set_option maxRecDepth 100000 in
theorem validWithin_step (k c : Int) (b : Bool) (n : Int) (m : Nat) (kid : Nat → ET) (IH : ∀ i, i < m → (kid i).VwOK) : (ET.mk k c b n m kid).VwOK := by
  intro w A cp W lv hA hM hW1 hW2 hlv
  have HI := Lib.hid IH
  have HM := Lib.hid (most_kids.1 hM)
  have HO := Lib.hid (okE_kids (ET.mk k c b n m kid) W lv)
  have HB := Lib.hid (B_alloc (Below.refl w.heap.size w) (.cells #[.int .i64 k, .int .i64 c, .bool b, .int .i64 n, .slice A m cp] 27))
  have H1 := Lib.hid (show KOn _ m kid A from On.kids (hA.on HB.out))
  have hm : m ≤ 2000000 := HM.out.1
  have hlv0 : (0 : Int) ≤ (lv : Int) := by omega
  clear hA hM IH
  show Calls _ _ #[.agg #[.int .i64 k, .int .i64 c, .bool b, .int .i64 n, .slice A m cp], .int .i64 W, .int .i64 lv] _ _
  have HZ := Lib.hid (Blk.new' (w := w) (cs := #[.int .i64 k, .int .i64 c, .bool b, .int .i64 n, .slice A m cp]) (T := 27) (g := w.heap.size) rfl)
  by_cases har : (m : Int) = ar k
  · have hd : ((m : Int) != ar k) = false := by simpa using har
    have hl : decide ((lv : Int) < 0) = false := by simp
    have HR := Lib.hid har
    clear har
    go_enter Try.func41, Try.ntmps41
    go_wp2_with fail
    obtain ⟨w0, hw0⟩ : ∃ x, x = w.alloc (.cells #[.int .i64 k, .int .i64 c, .bool b, .int .i64 n, .slice A m cp] 27) := ⟨_, rfl⟩
    rw [← hw0] at HB H1 HZ
    rw [← hw0]
    clear hw0
    have x0 := HZ.out.cell 0 _ rfl
    have x4 := HZ.out.cell 4 _ rfl
    dsimp only [List.getElem_toArray, List.getElem_cons_zero, List.getElem_cons_succ] at x0 x4
    go_region_held3 (fun w' => w'.cell? ⟨w.heap.size, 0, none⟩ = some (.int .i64 k) ∧ w'.cell? ⟨w.heap.size, 4, none⟩ = some (.slice A m cp) ∧ Below w0.heap.size w0 w')
      (first | exact init_two x0 x4 | assumption)
      (first | (go_at_call 61; refine (kidCount_any _ _).mono ?_; rintro e w1 ⟨rfl, rfl⟩))
    have HB1 := Lib.hid HB.out.drew
    have H2 := Lib.hid (H1.out.on (Below.refl _ _).drew)
    have HZ1 := Lib.hid HZ.out.drew
    clear x0 x4 HB H1 HZ
    obtain ⟨w2, hw2⟩ : ∃ x, x = w0.drew := ⟨_, rfl⟩
    rw [← hw2] at HB1 H2 HZ1
    rw [← hw2]
    clear hw2
    have x0 := HZ1.out.cell 0 _ rfl
    have x1 := HZ1.out.cell 1 _ rfl
    have x2 := HZ1.out.cell 2 _ rfl
    have x3 := HZ1.out.cell 3 _ rfl
    have x4 := HZ1.out.cell 4 _ rfl
    dsimp only [List.getElem_toArray, List.getElem_cons_zero, List.getElem_cons_succ] at x0 x1 x2 x3 x4
    by_cases hk1 : k = 1
    · subst hk1
      have hm0 : m = 0 := by have := HR.out; simp only [ar] at this; omega
      subst hm0
      have HL := Lib.hid (okE_leaf (t := ET.mk 1 c b n 0 kid) (W := W) (lv := lv) HR.out rfl)
      go_wp2_with fail
      all_goals go_ret
      all_goals refine ⟨ret_of rfl ?_, HB1.out⟩
      all_goals rw [HL.out]
      all_goals symm
      all_goals show decide ((0 ≤ c ∧ c < W) ∧ b = false ∧ n = 0) = _
      all_goals first
        | exact decide_eq_false (fun h => by omega)
        | exact decide_eq_false (fun h => absurd h.2.1 (by simp; assumption))
        | exact decide_eq_true ⟨⟨by omega, by omega⟩, Bool.eq_false_iff.2 (by assumption), by omega⟩
    · by_cases hk2 : k = 2
      · subst hk2
        have hm0 : m = 0 := by have := HR.out; simp only [ar] at this; omega
        subst hm0
        have HL := Lib.hid (okE_leaf (t := ET.mk 2 c b n 0 kid) (W := W) (lv := lv) HR.out rfl)
        by_cases hc0 : c = 0
        · subst hc0
          go_wp2_with fail
          refine (valid_any _ _ _).mono ?_; rintro e w3 ⟨rfl, hb⟩
          have HB3 := Lib.hid (B_more HB1.out hb)
          clear hb
          go_wp2_with fail
          go_ret
          refine ⟨ret_of rfl ?_, HB3.out⟩
          rw [HL.out]
          show okB b n = decide (0 = 0 ∧ okB b n = true)
          simp
        · go_wp2_with fail
          go_ret
          refine ⟨ret_of rfl ?_, HB1.out⟩
          rw [HL.out]
          exact (decide_eq_false (fun h => hc0 h.1)).symm
      · have HN := Lib.hid (show headOk k c b n W = decide (c = 0 ∧ b = false ∧ n = 0) by unfold headOk; rw [if_neg hk1, if_neg hk2])
        by_cases hc0 : c = 0
        · subst hc0
          cases b
          · by_cases hn0 : n = 0
            · subst hn0
              have HV := Lib.hid (okE_node (t := ET.mk k 0 false 0 m kid) (W := W) (lv := lv) HR.out (HN.out.trans (decide_eq_true ⟨rfl, rfl, rfl⟩)))
              clear HN HR hd
              have hb1 : (k == 1) = false := by simpa using hk1
              have hb2 : (k == 2) = false := by simpa using hk2
              go_wp2_with fail
              go_loopw [61] (fun i wr => ∃ j : Nat, j ≤ m ∧ i = .int .i64 j ∧ (∀ r, r < j → 0 < lv ∧ (kid r).okE W (lv - 1) = true) ∧ Below w.heap.size w wr ∧ Below w2.heap.size w2 wr) (fun i _ => m - (intOf i).toNat)
              case atStart => exact ⟨0, by omega, rfl, fun r hr => absurd hr (by omega), HB1.out, Below.refl _ _⟩
              case round =>
                obtain ⟨j, hj, rfl, heq, hB, hB2⟩ := hrel
                by_cases hlt : j < m
                · obtain ⟨bb, o, rfl, hbb, hc⟩ := (H2.out.on hB2) (by omega)
                  obtain ⟨A', c', g0, g1, g2, g3, g4, g5⟩ := hc j hlt
                  have HK := Lib.hid (show On wr (kid j) A' from g5)
                  have hj0 : (0 : Int) ≤ (j : Int) := by omega
                  have hj1 : (j : Int) < (m : Int) := by omega
                  have HQ := Lib.hid heq
                  have HBr := Lib.hid hB
                  have HBr2 := Lib.hid hB2
                  have HW := Lib.hid (B_alloc (Below.refl wr.heap.size wr) (.cells #[.int .i64 (kid j).k, .int .i64 (kid j).c, .bool (kid j).b, .int .i64 (kid j).n, .slice A' (kid j).m c'] 27))
                  clear hc g5 heq hB hB2 x0 x1 x2 x3 x4
                  by_cases hx : (decide (0 < lv) && (kid j).okE W (lv - 1)) = true
                  · have cc := Lib.hid (vw_step (HI.out j hlt) _ A' c' W lv (HK.out.on HW.out) (HM.out.2 j hlt) hW1 hW2 hlv hx)
                    have hx' : 0 < lv ∧ (kid j).okE W (lv - 1) = true := by simpa using hx
                    have HX := Lib.hid hx'
                    clear hx hx'
                    go_wp2_with fail
                    refine cc.out.mono ?_; rintro e w3 ⟨rfl, hb⟩
                    have HS := Lib.hid (B_more HBr.out (B_more HW.out hb))
                    have HS2 := Lib.hid (B_more HBr2.out (B_more HW.out hb))
                    have HN : Hid (∀ r, r < j + 1 → 0 < lv ∧ (kid r).okE W (lv - 1) = true) := fun r hr => by
                      by_cases hrj : r = j
                      · subst hrj; exact HX.out
                      · exact HQ.out r (by omega)
                    clear hb
                    go_wp2_with fail
                    refine ⟨?_, by simp [intOf]; omega⟩
                    first
                      | exact ⟨j + 1, by omega, by go_num, HN.out, HS.out, HS2.out⟩
                      | ((repeat apply Exists.intro); exact ⟨⟨j + 1, by omega, by go_num, HN.out, HS.out, HS2.out⟩, rfl⟩)
                  · have hx' := Bool.eq_false_iff.2 hx
                    have cc := Lib.hid (vw_step (HI.out j hlt) _ A' c' W lv (HK.out.on HW.out) (HM.out.2 j hlt) hW1 hW2 hlv hx')
                    have HX := Lib.hid hx
                    clear hx hx'
                    go_wp2_with fail
                    refine cc.out.mono ?_; rintro e w3 ⟨rfl, hb⟩
                    have HS := Lib.hid (B_more HBr.out (B_more HW.out hb))
                    clear hb
                    go_wp2_with fail
                    go_ret
                    refine ⟨ret_of rfl ?_, HS.out⟩
                    rw [HV.out]
                    symm
                    exact decide_eq_false (fun h => HX.out (by have h' : 0 < lv ∧ (kid j).okE W (lv - 1) = true := h j hlt; simpa using h'))
                · have HQ := Lib.hid heq
                  have HBr := Lib.hid hB
                  clear heq hB hB2
                  go_wp2_with fail
                  go_ret
                  refine ⟨ret_of rfl ?_, HBr.out⟩
                  rw [HV.out]
                  symm
                  exact decide_eq_true (fun r hr => HQ.out r (by show r < j; have : r < m := hr; omega))
            · have HF := Lib.hid (okE_head (t := ET.mk k 0 false n m kid) (W := W) (lv := lv) (HN.out.trans (decide_eq_false (fun h => hn0 h.2.2))))
              go_wp2_with fail
              go_ret
              exact ⟨ret_of rfl HF.out.symm, HB1.out⟩
          · have HF := Lib.hid (okE_head (t := ET.mk k 0 true n m kid) (W := W) (lv := lv) (HN.out.trans (decide_eq_false (fun h => by cases h.2.1))))
            go_wp2_with fail
            go_ret
            exact ⟨ret_of rfl HF.out.symm, HB1.out⟩
        · have HF := Lib.hid (okE_head (t := ET.mk k c b n m kid) (W := W) (lv := lv) (HN.out.trans (decide_eq_false (fun h => hc0 h.1))))
          go_wp2_with fail
          go_ret
          exact ⟨ret_of rfl HF.out.symm, HB1.out⟩
  · have hd : ((m : Int) != ar k) = true := by simpa using har
    have hl : decide ((lv : Int) < 0) = false := by simp
    have HF := Lib.hid (okE_ar (t := ET.mk k c b n m kid) (W := W) (lv := lv) har)
    clear har
    go_enter Try.func41, Try.ntmps41
    go_wp2_with fail
    obtain ⟨w0, hw0⟩ : ∃ x, x = w.alloc (.cells #[.int .i64 k, .int .i64 c, .bool b, .int .i64 n, .slice A m cp] 27) := ⟨_, rfl⟩
    rw [← hw0] at HB H1 HZ
    rw [← hw0]
    clear hw0
    have x0 := HZ.out.cell 0 _ rfl
    have x4 := HZ.out.cell 4 _ rfl
    dsimp only [List.getElem_toArray, List.getElem_cons_zero, List.getElem_cons_succ] at x0 x4
    go_region_held3 (fun w' => w'.cell? ⟨w.heap.size, 0, none⟩ = some (.int .i64 k) ∧ w'.cell? ⟨w.heap.size, 4, none⟩ = some (.slice A m cp) ∧ Below w0.heap.size w0 w')
      (first | exact init_two x0 x4 | assumption)
      (first | (go_at_call 61; refine (kidCount_any _ _).mono ?_; rintro e w1 ⟨rfl, rfl⟩))
    go_wp2_with fail
    go_ret
    exact ⟨ret_of rfl HF.out.symm, HB.out.drew⟩
theorem validWithin_any (t : ET) : t.VwOK := ET.all validWithin_step (fun h w A cp W lv _ _ => okE_no W lv ▸ h w A cp W lv (on_no w A) (most_no _)) t
end ET
end Go.Proofs.Ytfbkbppaignofaa

/-
  The sizes of expressions, and the walks of the functions that count.
-/
import Derived.Test.YtfbkbppaignofaaOkX
namespace Go.Proofs.Ytfbkbppaignofaa
open Go.RowKit

namespace ET
def sumTo (f : Nat → Nat) : Nat → Nat
  | 0 => 0
  | r + 1 => sumTo f r + f r
theorem sumTo_le (f : Nat → Nat) (b : Nat) : ∀ r, (∀ i, i < r → f i ≤ b) → sumTo f r ≤ r * b
  | 0, _ => Nat.zero_le _
  | r + 1, h => by
    have h1 := sumTo_le f b r (fun i hi => h i (by omega))
    have h2 := h r (by omega)
    simp only [sumTo]
    rw [Nat.succ_mul]
    omega
theorem sumTo_mono (f : Nat → Nat) {r s : Nat} (h : r ≤ s) : sumTo f r ≤ sumTo f s := by
  induction s with
  | zero => simp [show r = 0 by omega]
  | succ s ih =>
    by_cases hrs : r = s + 1
    · subst hrs; exact Nat.le_refl _
    · have := ih (by omega)
      simp only [sumTo]
      omega
def size : ET → Nat
  | .mk _ _ _ _ m kid => 1 + sumTo (fun i => (kid i).size) m
  | .no => 1
theorem size_kids (t : ET) : t.size = 1 + sumTo (fun i => (t.kid i).size) t.m := by
  cases t
  · rfl
  · rfl
def most : Nat → Nat
  | 0 => 1
  | l + 1 => 1 + 2 * most l
theorem ar_le (k : Int) : ar k ≤ 2 := by
  unfold ar
  repeat' split
  all_goals omega
theorem okE_parts {t : ET} {W : Int} {lv : Nat} (h : t.okE W lv = true) : (t.m : Int) = ar t.k ∧ headOk t.k t.c t.b t.n W = true ∧ ∀ i, i < t.m → 0 < lv ∧ (t.kid i).okE W (lv - 1) = true := by
  rw [okE_kids] at h
  simp only [Bool.and_eq_true, decide_eq_true_eq] at h
  exact ⟨h.1.1, h.1.2, h.2⟩
theorem size_le (W : Int) : ∀ (lv : Nat) (t : ET), t.okE W lv = true → t.size ≤ most lv
  | 0, t, h => by
    obtain ⟨_, _, hk⟩ := okE_parts h
    have hm : t.m = 0 := by
      refine Decidable.byContradiction fun hne => ?_
      have := (hk 0 (by omega)).1
      omega
    rw [size_kids, hm]
    simp [sumTo, most]
  | lv + 1, t, h => by
    obtain ⟨ha, _, hk⟩ := okE_parts h
    have hm := ar_le t.k
    have hs := sumTo_le (fun i => (t.kid i).size) (most lv) t.m (fun i hi => size_le W lv (t.kid i) (hk i hi).2)
    have hmul : t.m * most lv ≤ 2 * most lv := Nat.mul_le_mul_right _ (by omega)
    rw [size_kids]
    simp only [most]
    omega
theorem size_small {W : Int} {lv : Nat} (hlv : lv ≤ 8) {t : ET} (h : t.okE W lv = true) : t.size ≤ 511 := by
  have h1 := size_le W lv t h
  have h2 : ∀ l, l ≤ 8 → most l ≤ 511 := by decide
  exact Nat.le_trans h1 (h2 lv hlv)

/-- What the program's exprSize does at a valid tree. -/
def IzOK (t : ET) : Prop := ∀ (w : World) (A : Option Addr) (cp : Nat) (W : Int) (lv : Nat), On w t A → t.okE W lv = true → lv ≤ 8 →
  Calls Try.prog 49 #[t.val A cp] w fun e w' => e = .returned (.int .i64 t.size) ∧ Below w.heap.size w w'

theorem exprSize_step (k c : Int) (b : Bool) (n : Int) (m : Nat) (kid : Nat → ET) (IH : ∀ i, i < m → (kid i).IzOK) : (ET.mk k c b n m kid).IzOK := by
  intro w A cp W lv hA hok hlv
  have hk := (okE_parts hok).2.2
  have HM2 := Lib.hid (show (m : Int) ≤ 2 from (okE_parts hok).1 ▸ ar_le k)
  have hsm := size_small hlv hok
  have HI := Lib.hid IH
  have HK := Lib.hid hk
  have HZ := Lib.hid (size_kids (ET.mk k c b n m kid))
  rw [size_kids] at hsm
  have HS := Lib.hid (show 1 + sumTo (fun i => (kid i).size) m ≤ 511 from hsm)
  have HB := Lib.hid (B_alloc (Below.refl w.heap.size w) (.cells #[.int .i64 k, .int .i64 c, .bool b, .int .i64 n, .slice A m cp] 27))
  have H1 := Lib.hid (show KOn _ m kid A from On.kids (hA.on HB.out))
  clear hA hok hk hsm IH
  show Calls _ _ #[.agg #[.int .i64 k, .int .i64 c, .bool b, .int .i64 n, .slice A m cp]] _ _
  go_enter Try.func49, Try.ntmps49
  go_wp2_with fail
  go_loopw [3, 9] (fun z i wr => ∃ j : Nat, j ≤ m ∧ i = .int .i64 j ∧ z = .int .i64 (1 + sumTo (fun i => (kid i).size) j : Nat) ∧ Below (w.alloc (.cells #[.int .i64 k, .int .i64 c, .bool b, .int .i64 n, .slice A m cp] 27)).heap.size (w.alloc (.cells #[.int .i64 k, .int .i64 c, .bool b, .int .i64 n, .slice A m cp] 27)) wr) (fun _ i _ => m - (intOf i).toNat)
  case atStart => exact ⟨0, by omega, rfl, rfl, Below.refl _ _⟩
  case round =>
    obtain ⟨j, hj, rfl, rfl, hB2⟩ := hrel
    by_cases hlt : j < m
    · obtain ⟨bb, o, rfl, hbb, hc⟩ := (H1.out.on hB2) (by omega)
      obtain ⟨A', c', g0, g1, g2, g3, g4, g5⟩ := hc j hlt
      have HW := Lib.hid (B_alloc (Below.refl wr.heap.size wr) (.cells #[.int .i64 (kid j).k, .int .i64 (kid j).c, .bool (kid j).b, .int .i64 (kid j).n, .slice A' (kid j).m c'] 27))
      have cc := Lib.hid (HI.out j hlt (wr.alloc (.cells #[.int .i64 (kid j).k, .int .i64 (kid j).c, .bool (kid j).b, .int .i64 (kid j).n, .slice A' (kid j).m c'] 27)) A' c' W (lv - 1) (On.on (show On wr (kid j) A' from g5) HW.out) (HK.out j hlt).2 (by omega))
      have HB2 := Lib.hid hB2
      have h1 := sumTo_mono (fun i => (kid i).size) (r := j + 1) (s := m) (by omega)
      have h2 := HS.out
      obtain ⟨x, hx⟩ : ∃ x, x = sumTo (fun i => (kid i).size) j := ⟨_, rfl⟩
      obtain ⟨y, hy⟩ : ∃ y, y = (kid j).size := ⟨_, rfl⟩
      have h3 : sumTo (fun i => (kid i).size) (j + 1) = x + y := by rw [hx, hy]; rfl
      rw [h3] at h1
      rw [← hx]
      rw [← hy] at cc
      have hxy : x + y ≤ 510 := by omega
      have H3 := Lib.hid h3
      have hj0 : (0 : Int) ≤ (j : Int) := by omega
      have hj1 : (j : Int) < (m : Int) := by omega
      have hm2 : (m : Int) ≤ 2 := HM2.out
      clear h1 h2 h3 hx hy hc g5 hB2
      unfold ET.val at cc
      go_wp2_with fail
      refine cc.out.mono ?_; rintro e w3 ⟨rfl, hb⟩
      have HS2 := Lib.hid (HB2.out.trans ((B_more HW.out hb).mono HB2.out.size))
      clear hb
      go_wp2_with fail
      refine ⟨?_, by simp [intOf]; omega⟩
      first
        | exact ⟨j + 1, by omega, by go_num, by rw [H3.out]; go_num, HS2.out⟩
        | ((repeat apply Exists.intro); exact ⟨⟨j + 1, by omega, by go_num, by rw [H3.out]; go_num, HS2.out⟩, rfl⟩)
    · obtain rfl : j = m := by omega
      have HB2 := Lib.hid (HB.out.trans (hB2.mono HB.out.size))
      clear hB2
      have hm2 : (j : Int) ≤ 2 := HM2.out
      go_wp2_with fail
      go_ret
      exact ⟨ret_int (by rw [HZ.out]; rfl), HB2.out⟩
theorem exprSize_any (t : ET) : t.IzOK := ET.all exprSize_step (fun h w A cp W lv _ hok hlv => h w A cp W lv (on_no w A) ((okE_no W lv).trans hok) hlv) t

/-- What the model's exprSize does at a valid tree. -/
def SzzOK (t : ET) : Prop := ∀ (w : World) (A : Option Addr) (cp : Nat) (W : Int) (lv : Nat), On w t A → t.okE W lv = true → lv ≤ 8 →
  Calls Try.prog 48 #[t.val A cp] w fun e w' => e = .returned (.int .i64 t.size) ∧ Below w.heap.size w w'

theorem sexprSize_step (k c : Int) (b : Bool) (n : Int) (m : Nat) (kid : Nat → ET) (IH : ∀ i, i < m → (kid i).SzzOK) : (ET.mk k c b n m kid).SzzOK := by
  intro w A cp W lv hA hok hlv
  have hk := (okE_parts hok).2.2
  have HM2 := Lib.hid (show (m : Int) ≤ 2 from (okE_parts hok).1 ▸ ar_le k)
  have hsm := size_small hlv hok
  have HI := Lib.hid IH
  have HK := Lib.hid hk
  have HZ := Lib.hid (size_kids (ET.mk k c b n m kid))
  rw [size_kids] at hsm
  have HS := Lib.hid (show 1 + sumTo (fun i => (kid i).size) m ≤ 511 from hsm)
  have HB := Lib.hid (B_alloc (Below.refl w.heap.size w) (.cells #[.int .i64 k, .int .i64 c, .bool b, .int .i64 n, .slice A m cp] 27))
  have HX := Lib.hid (Blk.new' (w := w) (cs := #[.int .i64 k, .int .i64 c, .bool b, .int .i64 n, .slice A m cp]) (T := 27) (g := w.heap.size) rfl)
  have H1 := Lib.hid (show KOn _ m kid A from On.kids (hA.on HB.out))
  clear hA hok hk hsm IH
  show Calls _ _ #[.agg #[.int .i64 k, .int .i64 c, .bool b, .int .i64 n, .slice A m cp]] _ _
  go_enter Try.func48, Try.ntmps48
  go_wp2_with fail
  go_loopw [3, 4] (fun z i wr => ∃ j : Nat, j ≤ m ∧ i = .int .i64 j ∧ z = .int .i64 (1 + sumTo (fun i => (kid i).size) j : Nat) ∧ Below (w.alloc (.cells #[.int .i64 k, .int .i64 c, .bool b, .int .i64 n, .slice A m cp] 27)).heap.size (w.alloc (.cells #[.int .i64 k, .int .i64 c, .bool b, .int .i64 n, .slice A m cp] 27)) wr) (fun _ i _ => m - (intOf i).toNat)
  case atStart => exact ⟨0, by omega, rfl, rfl, Below.refl _ _⟩
  case round =>
    obtain ⟨j, hj, rfl, rfl, hB2⟩ := hrel
    have HXr := Lib.hid (HX.out.below hB2)
    have x4 := HXr.out.cell 4 _ rfl
    dsimp only [List.getElem_toArray, List.getElem_cons_zero, List.getElem_cons_succ] at x4
    by_cases hlt : j < m
    · obtain ⟨bb, o, rfl, hbb, hc⟩ := (H1.out.on hB2) (by omega)
      obtain ⟨A', c', g0, g1, g2, g3, g4, g5⟩ := hc j hlt
      have cc := Lib.hid (HI.out j hlt wr A' c' W (lv - 1) g5 (HK.out j hlt).2 (by omega))
      have HB2 := Lib.hid hB2
      have h1 := sumTo_mono (fun i => (kid i).size) (r := j + 1) (s := m) (by omega)
      have h2 := HS.out
      obtain ⟨x, hx⟩ : ∃ x, x = sumTo (fun i => (kid i).size) j := ⟨_, rfl⟩
      obtain ⟨y, hy⟩ : ∃ y, y = (kid j).size := ⟨_, rfl⟩
      have h3 : sumTo (fun i => (kid i).size) (j + 1) = x + y := by rw [hx, hy]; rfl
      rw [h3] at h1
      rw [← hx]
      rw [← hy] at cc
      have hxy : x + y ≤ 510 := by omega
      have H3 := Lib.hid h3
      have hj0 : (0 : Int) ≤ (j : Int) := by omega
      have hj1 : (j : Int) < (m : Int) := by omega
      have hm2 : (m : Int) ≤ 2 := HM2.out
      clear h1 h2 h3 hx hy hc g5 hB2
      unfold ET.val at cc
      go_wp2_with fail
      refine cc.out.mono ?_; rintro e w3 ⟨rfl, hb⟩
      have HS2 := Lib.hid (HB2.out.trans (hb.mono HB2.out.size))
      clear hb
      go_wp2_with fail
      refine ⟨?_, by simp [intOf]; omega⟩
      first
        | exact ⟨j + 1, by omega, by go_num, by rw [H3.out]; go_num, HS2.out⟩
        | ((repeat apply Exists.intro); exact ⟨⟨j + 1, by omega, by go_num, by rw [H3.out]; go_num, HS2.out⟩, rfl⟩)
    · obtain rfl : j = m := by omega
      have HB2 := Lib.hid (HB.out.trans (hB2.mono HB.out.size))
      clear hB2
      have hm2 : (j : Int) ≤ 2 := HM2.out
      go_wp2_with fail
      go_ret
      exact ⟨ret_int (by rw [HZ.out]; rfl), HB2.out⟩
theorem sexprSize_any (t : ET) : t.SzzOK := ET.all sexprSize_step (fun h w A cp W lv _ hok hlv => h w A cp W lv (on_no w A) ((okE_no W lv).trans hok) hlv) t

/-- The size, or 0. -/
def sizeX (t : ET) : Int := if t.okX 6 = true then (t.size : Int) else 0

theorem ExprSize_any (t : ET) (w : World) (A : Option Addr) (cp : Nat) (hA : On w t A) (hM : t.Most 2000000) :
    Calls Try.prog 30 #[t.val A cp] w fun e w' => e = .returned (.int .i64 t.sizeX) ∧ Below w.heap.size w w' := by
  have HB := Lib.hid (B_alloc (Below.refl w.heap.size w) (.cells #[.int .i64 t.k, .int .i64 t.c, .bool t.b, .int .i64 t.n, .slice A t.m cp] 27))
  have HX := Lib.hid (Blk.new' (w := w) (cs := #[.int .i64 t.k, .int .i64 t.c, .bool t.b, .int .i64 t.n, .slice A t.m cp]) (T := 27) (g := w.heap.size) rfl)
  have HA := Lib.hid (hA.on HB.out)
  have cw := Lib.hid (ValidExpr_any t (w.alloc (.cells #[.int .i64 t.k, .int .i64 t.c, .bool t.b, .int .i64 t.n, .slice A t.m cp] 27)) A cp 6 HA.out hM)
  unfold ET.val at cw ⊢
  clear hA hM
  by_cases h : t.okX 6 = true
  · have HV := Lib.hid (show t.sizeX = (t.size : Int) from if_pos h)
    have HO := Lib.hid ((okX_pos (t := t) (W := 6) (by omega)).symm.trans h)
    rw [h] at cw
    clear h
    go_enter Try.func30, Try.ntmps30
    go_wp2_with fail
    refine cw.out.mono ?_; rintro e w1 ⟨rfl, hb⟩
    have HB1 := Lib.hid (B_more HB.out hb)
    have HX1 := Lib.hid (HX.out.below hb)
    have HA1 := Lib.hid (HA.out.on hb)
    clear hb HB HX HA cw
    have a0 := HX1.out.cell 0 _ rfl
    have a1 := HX1.out.cell 1 _ rfl
    have a2 := HX1.out.cell 2 _ rfl
    have a3 := HX1.out.cell 3 _ rfl
    have a4 := HX1.out.cell 4 _ rfl
    dsimp only [List.getElem_toArray, List.getElem_cons_zero, List.getElem_cons_succ] at a0 a1 a2 a3 a4
    go_wp2_with fail
    refine (exprSize_any t _ A cp 6 8 HA1.out HO.out (by omega)).mono ?_; rintro e w2 ⟨rfl, hb⟩
    have HB2 := Lib.hid (B_more HB1.out hb)
    clear hb
    go_wp2_with fail
    go_ret
    exact ⟨ret_int HV.out.symm, HB2.out⟩
  · have HV := Lib.hid (show t.sizeX = 0 from if_neg h)
    rw [Bool.eq_false_iff.2 h] at cw
    clear h
    go_enter Try.func30, Try.ntmps30
    go_wp2_with fail
    refine cw.out.mono ?_; rintro e w1 ⟨rfl, hb⟩
    have HB1 := Lib.hid (B_more HB.out hb)
    clear hb
    go_wp2_with fail
    go_ret
    exact ⟨ret_int HV.out.symm, HB1.out⟩

theorem sExprSize_any (t : ET) (w : World) (A : Option Addr) (cp : Nat) (hA : On w t A) (hM : t.Most 2000000) :
    Calls Try.prog 29 #[t.val A cp] w fun e w' => e = .returned (.int .i64 t.sizeX) ∧ Below w.heap.size w w' := by
  have HB := Lib.hid (B_alloc (Below.refl w.heap.size w) (.cells #[.int .i64 t.k, .int .i64 t.c, .bool t.b, .int .i64 t.n, .slice A t.m cp] 27))
  have HX := Lib.hid (Blk.new' (w := w) (cs := #[.int .i64 t.k, .int .i64 t.c, .bool t.b, .int .i64 t.n, .slice A t.m cp]) (T := 27) (g := w.heap.size) rfl)
  have HA := Lib.hid (hA.on HB.out)
  have cw := Lib.hid (sValidExpr_any t (w.alloc (.cells #[.int .i64 t.k, .int .i64 t.c, .bool t.b, .int .i64 t.n, .slice A t.m cp] 27)) A cp 6 HA.out hM)
  unfold ET.val at cw ⊢
  clear hA hM
  by_cases h : t.okX 6 = true
  · have HV := Lib.hid (show t.sizeX = (t.size : Int) from if_pos h)
    have HO := Lib.hid ((okX_pos (t := t) (W := 6) (by omega)).symm.trans h)
    rw [h] at cw
    clear h
    go_enter Try.func29, Try.ntmps29
    go_wp2_with fail
    refine cw.out.mono ?_; rintro e w1 ⟨rfl, hb⟩
    have HB1 := Lib.hid (B_more HB.out hb)
    have HX1 := Lib.hid (HX.out.below hb)
    have HA1 := Lib.hid (HA.out.on hb)
    clear hb HB HX HA cw
    have a0 := HX1.out.cell 0 _ rfl
    have a1 := HX1.out.cell 1 _ rfl
    have a2 := HX1.out.cell 2 _ rfl
    have a3 := HX1.out.cell 3 _ rfl
    have a4 := HX1.out.cell 4 _ rfl
    dsimp only [List.getElem_toArray, List.getElem_cons_zero, List.getElem_cons_succ] at a0 a1 a2 a3 a4
    go_wp2_with fail
    refine (sexprSize_any t _ A cp 6 8 HA1.out HO.out (by omega)).mono ?_; rintro e w2 ⟨rfl, hb⟩
    have HB2 := Lib.hid (B_more HB1.out hb)
    clear hb
    go_wp2_with fail
    go_ret
    exact ⟨ret_int HV.out.symm, HB2.out⟩
  · have HV := Lib.hid (show t.sizeX = 0 from if_neg h)
    rw [Bool.eq_false_iff.2 h] at cw
    clear h
    go_enter Try.func29, Try.ntmps29
    go_wp2_with fail
    refine cw.out.mono ?_; rintro e w1 ⟨rfl, hb⟩
    have HB1 := Lib.hid (B_more HB.out hb)
    clear hb
    go_wp2_with fail
    go_ret
    exact ⟨ret_int HV.out.symm, HB1.out⟩

end ET
end Go.Proofs.Ytfbkbppaignofaa

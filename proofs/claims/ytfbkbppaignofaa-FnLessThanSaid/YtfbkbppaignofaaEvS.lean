/-
  The walk of the model's evalExpr.
-/
import Derived.Test.YtfbkbppaignofaaEvD
namespace Go.Proofs.Ytfbkbppaignofaa
open Go.RowKit

theorem keep_twelve {w X w1 : World} {a0 : Addr} {a1 : Addr} {a2 : Addr} {a3 : Addr} {a4 : Addr} {a5 : Addr} {a6 : Addr} {a7 : Addr} {a8 : Addr} {a9 : Addr} {a10 : Addr} {a11 : Addr} {v0 : Value} {v1 : Value} {v2 : Value} {v3 : Value} {v4 : Value} {v5 : Value} {v6 : Value} {v7 : Value} {v8 : Value} {v9 : Value} {v10 : Value} {v11 : Value} (h : X.cell? a0 = some v0 ∧ X.cell? a1 = some v1 ∧ X.cell? a2 = some v2 ∧ X.cell? a3 = some v3 ∧ X.cell? a4 = some v4 ∧ X.cell? a5 = some v5 ∧ X.cell? a6 = some v6 ∧ X.cell? a7 = some v7 ∧ X.cell? a8 = some v8 ∧ X.cell? a9 = some v9 ∧ X.cell? a10 = some v10 ∧ X.cell? a11 = some v11 ∧ Below w.heap.size w X) (hb : Below X.heap.size X w1) :
    w1.cell? a0 = some v0 ∧ w1.cell? a1 = some v1 ∧ w1.cell? a2 = some v2 ∧ w1.cell? a3 = some v3 ∧ w1.cell? a4 = some v4 ∧ w1.cell? a5 = some v5 ∧ w1.cell? a6 = some v6 ∧ w1.cell? a7 = some v7 ∧ w1.cell? a8 = some v8 ∧ w1.cell? a9 = some v9 ∧ w1.cell? a10 = some v10 ∧ w1.cell? a11 = some v11 ∧ Below w.heap.size w w1 := by
  obtain ⟨h0, h1, h2, h3, h4, h5, h6, h7, h8, h9, h10, h11, hB⟩ := h
  exact ⟨keep_cell h0 hb, keep_cell h1 hb, keep_cell h2 hb, keep_cell h3 hb, keep_cell h4 hb, keep_cell h5 hb, keep_cell h6 hb, keep_cell h7 hb, keep_cell h8 hb, keep_cell h9 hb, keep_cell h10 hb, keep_cell h11 hb, B_more hB hb⟩
theorem keep_twelveS {w X : World} {a0 : Addr} {a1 : Addr} {a2 : Addr} {a3 : Addr} {a4 : Addr} {a5 : Addr} {a6 : Addr} {a7 : Addr} {a8 : Addr} {a9 : Addr} {a10 : Addr} {a11 : Addr} {v0 : Value} {v1 : Value} {v2 : Value} {v3 : Value} {v4 : Value} {v5 : Value} {v6 : Value} {v7 : Value} {v8 : Value} {v9 : Value} {v10 : Value} {v11 : Value} (h : X.cell? a0 = some v0 ∧ X.cell? a1 = some v1 ∧ X.cell? a2 = some v2 ∧ X.cell? a3 = some v3 ∧ X.cell? a4 = some v4 ∧ X.cell? a5 = some v5 ∧ X.cell? a6 = some v6 ∧ X.cell? a7 = some v7 ∧ X.cell? a8 = some v8 ∧ X.cell? a9 = some v9 ∧ X.cell? a10 = some v10 ∧ X.cell? a11 = some v11 ∧ Below w.heap.size w X) {r : Nat} (hr : w.heap.size ≤ r) (n0 : a0.block ≠ r) (n1 : a1.block ≠ r) (n2 : a2.block ≠ r) (n3 : a3.block ≠ r) (n4 : a4.block ≠ r) (n5 : a5.block ≠ r) (n6 : a6.block ≠ r) (n7 : a7.block ≠ r) (n8 : a8.block ≠ r) (n9 : a9.block ≠ r) (n10 : a10.block ≠ r) (n11 : a11.block ≠ r) (u0 u1 : Value) :
    ((X.setCell ⟨r, 0, none⟩ u0).setCell ⟨r, 1, none⟩ u1).cell? a0 = some v0 ∧ ((X.setCell ⟨r, 0, none⟩ u0).setCell ⟨r, 1, none⟩ u1).cell? a1 = some v1 ∧ ((X.setCell ⟨r, 0, none⟩ u0).setCell ⟨r, 1, none⟩ u1).cell? a2 = some v2 ∧ ((X.setCell ⟨r, 0, none⟩ u0).setCell ⟨r, 1, none⟩ u1).cell? a3 = some v3 ∧ ((X.setCell ⟨r, 0, none⟩ u0).setCell ⟨r, 1, none⟩ u1).cell? a4 = some v4 ∧ ((X.setCell ⟨r, 0, none⟩ u0).setCell ⟨r, 1, none⟩ u1).cell? a5 = some v5 ∧ ((X.setCell ⟨r, 0, none⟩ u0).setCell ⟨r, 1, none⟩ u1).cell? a6 = some v6 ∧ ((X.setCell ⟨r, 0, none⟩ u0).setCell ⟨r, 1, none⟩ u1).cell? a7 = some v7 ∧ ((X.setCell ⟨r, 0, none⟩ u0).setCell ⟨r, 1, none⟩ u1).cell? a8 = some v8 ∧ ((X.setCell ⟨r, 0, none⟩ u0).setCell ⟨r, 1, none⟩ u1).cell? a9 = some v9 ∧ ((X.setCell ⟨r, 0, none⟩ u0).setCell ⟨r, 1, none⟩ u1).cell? a10 = some v10 ∧ ((X.setCell ⟨r, 0, none⟩ u0).setCell ⟨r, 1, none⟩ u1).cell? a11 = some v11 ∧ Below w.heap.size w ((X.setCell ⟨r, 0, none⟩ u0).setCell ⟨r, 1, none⟩ u1) := by
  obtain ⟨h0, h1, h2, h3, h4, h5, h6, h7, h8, h9, h10, h11, hB⟩ := h
  have e : ∀ a : Addr, a.block ≠ r → ((X.setCell ⟨r, 0, none⟩ u0).setCell ⟨r, 1, none⟩ u1).cell? a = X.cell? a := fun a ha => by
    rw [World.cell?_setCell_other _ _ _ _ (by intro h; exact ha (by rw [← h])), World.cell?_setCell_other _ _ _ _ (by intro h; exact ha (by rw [← h]))]
  exact ⟨(e _ n0).trans h0, (e _ n1).trans h1, (e _ n2).trans h2, (e _ n3).trans h3, (e _ n4).trans h4, (e _ n5).trans h5, (e _ n6).trans h6, (e _ n7).trans h7, (e _ n8).trans h8, (e _ n9).trans h9, (e _ n10).trans h10, (e _ n11).trans h11, B_set (B_set hB hr _) hr _⟩

namespace ET
/-- What the model's evalExpr does at a valid tree. -/
def EsOK (t : ET) : Prop := ∀ (w : World) (A : Option Addr) (cp : Nat) (R : Option Addr) (rn rc : Nat) (f : Nat → M.V) (lv : Nat), On w t A → RowAt w w.heap.size R rn f → rn ≤ 6 → (∀ i, i < rn → (f i).ok = true) → t.okE rn lv = true →
  Calls Try.prog 38 #[t.val A cp, .slice R rn rc] w fun e w' => e = .returned (vv (t.ev f)) ∧ Below w.heap.size w w'

theorem ev_one {c : Int} {b : Bool} {n : Int} {m : Nat} {kid : Nat → ET} {f : Nat → M.V} : (ET.mk 1 c b n m kid).ev f = f c.toNat := by rw [ev]; rfl
theorem ev_two {c : Int} {b : Bool} {n : Int} {m : Nat} {kid : Nat → ET} {f : Nat → M.V} : (ET.mk 2 c b n m kid).ev f = ⟨b, n⟩ := by rw [ev]; rfl
theorem ev_not {c : Int} {b : Bool} {n : Int} {m : Nat} {kid : Nat → ET} {f : Nat → M.V} : (ET.mk 10 c b n m kid).ev f = M.ofT (M.notT (M.tru ((kid 0).ev f))) := by rw [ev]; rfl
theorem ev_null {c : Int} {b : Bool} {n : Int} {m : Nat} {kid : Nat → ET} {f : Nat → M.V} : (ET.mk 11 c b n m kid).ev f = ⟨false, M.oneIf ((kid 0).ev f).nul⟩ := by rw [ev]; rfl
theorem ev_pair {k c : Int} {b : Bool} {n : Int} {m : Nat} {kid : Nat → ET} {f : Nat → M.V} (h : 3 ≤ k ∧ k ≤ 9) : (ET.mk k c b n m kid).ev f = M.comb k ((kid 0).ev f) ((kid 1).ev f) := by
  rw [ev, if_neg (by omega), if_neg (by omega), if_neg (by omega), if_neg (by omega)]

set_option maxHeartbeats 4000000 in
set_option maxRecDepth 100000 in
theorem es_col (c : Int) (b : Bool) (n : Int) (w : World) (A : Option Addr) (cp : Nat) (R : Option Addr) (rn rc : Nat) (f : Nat → M.V) (hR : RowAt w w.heap.size R rn f) (hrn : rn ≤ 6) (hc0 : 0 ≤ c) (hc1 : c < rn) :
    Calls Try.prog 38 #[.agg #[.int .i64 1, .int .i64 c, .bool b, .int .i64 n, .slice A 0 cp], .slice R rn rc] w fun e w' => e = .returned (vv (f c.toNat)) ∧ Below w.heap.size w w' := by
  have HB := Lib.hid (B_alloc (B_alloc (Below.refl w.heap.size w) (.cells #[.int .i64 1, .int .i64 c, .bool b, .int .i64 n, .slice A 0 cp] 27)) (.cells #[.bool false, .int .i64 0] 24))
  have HR := Lib.hid (hR.on HB.out)
  clear hR
  obtain ⟨j, rfl⟩ : ∃ j : Nat, c = (j : Int) := ⟨c.toNat, by omega⟩
  obtain ⟨bb, o, rfl, hbb, hcell⟩ := HR.out (by omega)
  obtain ⟨y0, y1⟩ := hcell j (by omega)
  clear hcell
  rw [show (j : Int).toNat = j by omega]
  go_enter Try.func38, Try.ntmps38
  go_wp2_with fail
  exact bodyPost_ret (v := vv (f j)) (by simp [results, Try.results38, go_sem, vv]) rfl ⟨rfl, B_alloc (B_alloc (Below.refl _ _) _) _⟩
set_option maxHeartbeats 4000000 in
set_option maxRecDepth 100000 in
theorem es_con (c : Int) (b : Bool) (n : Int) (w : World) (A : Option Addr) (cp : Nat) (R : Option Addr) (rn rc : Nat) (f : Nat → M.V) (hR : RowAt w w.heap.size R rn f) :
    Calls Try.prog 38 #[.agg #[.int .i64 2, .int .i64 c, .bool b, .int .i64 n, .slice A 0 cp], .slice R rn rc] w fun e w' => e = .returned (vv ⟨b, n⟩) ∧ Below w.heap.size w w' := by
  have HB := Lib.hid (B_alloc (B_alloc (Below.refl w.heap.size w) (.cells #[.int .i64 2, .int .i64 c, .bool b, .int .i64 n, .slice A 0 cp] 27)) (.cells #[.bool false, .int .i64 0] 24))
  have HR := Lib.hid (hR.on HB.out)
  clear hR
  go_enter Try.func38, Try.ntmps38
  go_wp2_with fail
  exact bodyPost_ret (v := vv ⟨b, n⟩) (by simp [results, Try.results38, go_sem, vv]) rfl ⟨rfl, B_alloc (B_alloc (Below.refl _ _) _) _⟩
set_option maxHeartbeats 4000000 in
set_option maxRecDepth 100000 in
theorem es_not (c : Int) (b : Bool) (n : Int) (w : World) (A : Option Addr) (cp : Nat) (R : Option Addr) (rn rc : Nat) (f : Nat → M.V) (hR : RowAt w w.heap.size R rn f) (hrn : rn ≤ 6) (kid : Nat → ET) (IH : ∀ i, i < 1 → (kid i).EsOK) (hA : KOn w 1 kid A) (hf : ∀ i, i < rn → (f i).ok = true) (lv : Nat) (hk : ∀ i, i < 1 → (kid i).okE rn lv = true) :
    Calls Try.prog 38 #[.agg #[.int .i64 10, .int .i64 c, .bool b, .int .i64 n, .slice A 1 cp], .slice R rn rc] w fun e w' => e = .returned (vv (M.ofT (M.notT (M.tru ((kid 0).ev f))))) ∧ Below w.heap.size w w' := by
  have HB := Lib.hid (B_alloc (B_alloc (Below.refl w.heap.size w) (.cells #[.int .i64 10, .int .i64 c, .bool b, .int .i64 n, .slice A 1 cp] 27)) (.cells #[.bool false, .int .i64 0] 24))
  have HR := Lib.hid (hR.on HB.out)
  clear hR
  have H1 := Lib.hid (hA.on HB.out)
  have HI := Lib.hid IH
  have HK := Lib.hid hk
  have HF := Lib.hid hf
  clear hA IH hk hf
  obtain ⟨bb, o, rfl, hbb, hc⟩ := H1.out (by omega)
  obtain ⟨A0, c0, g00, g01, g02, g03, g04, g05⟩ := hc 0 (by omega)
  clear hc
  simp only [Nat.zero_mul, Nat.add_zero] at g00 g01 g02 g03 g04
  have XR := Lib.hid (Blk.new' (w := w.alloc (.cells #[.int .i64 10, .int .i64 c, .bool b, .int .i64 n, .slice (some ⟨bb, o, none⟩) 1 cp] 27)) (cs := #[.bool false, .int .i64 0]) (T := 24) (g := w.heap.size + 1) (by simp))
  have cc := Lib.hid (HI.out 0 (by omega) _ A0 c0 R rn rc f lv (show On _ (kid 0) A0 from g05) HR.out hrn HF.out (HK.out 0 (by omega)))
  unfold ET.val vv at cc
  go_enter Try.func38, Try.ntmps38
  go_wp2_with fail
  refine cc.out.mono ?_; rintro e w1 ⟨rfl, hb⟩
  have XR1 := Lib.hid (XR.out.below hb)
  have HB1 := Lib.hid (B_more HB.out hb)
  clear hb
  go_wp2_with fail
  refine (struth_any _ _ _).mono ?_; rintro e w2 ⟨rfl, hb⟩
  have XR2 := Lib.hid (XR1.out.below hb)
  have HB2 := Lib.hid (B_more HB1.out hb)
  clear hb
  go_wp2_with fail
  refine (snotTruth_any _ (M.tru_three _) _).mono ?_; rintro e w2 ⟨rfl, rfl⟩
  go_wp2_with fail
  refine (sofTruth_any _ _).mono ?_; rintro e w3 ⟨rfl, hb⟩
  have XR3 := Lib.hid (XR2.out.below hb)
  have HB3 := Lib.hid (B_more HB2.out hb)
  clear hb
  unfold vv
  have r0 := XR3.out.cell 0 _ rfl
  have r1 := XR3.out.cell 1 _ rfl
  have q0 := XR3.out.free 0
  have q1 := XR3.out.free 1
  dsimp only [List.getElem_toArray, List.getElem_cons_zero, List.getElem_cons_succ] at r0 r1
  go_wp2_with fail
  exact bodyPost_ret (v := vv (M.ofT (M.notT (M.tru ((kid 0).ev f))))) (by simp [results, Try.results38, go_sem, r0, r1, vv]) rfl ⟨rfl, B_set (B_set HB3.out (by simp) _) (by simp) _⟩
set_option maxHeartbeats 4000000 in
set_option maxRecDepth 100000 in
theorem es_null (c : Int) (b : Bool) (n : Int) (w : World) (A : Option Addr) (cp : Nat) (R : Option Addr) (rn rc : Nat) (f : Nat → M.V) (hR : RowAt w w.heap.size R rn f) (hrn : rn ≤ 6) (kid : Nat → ET) (IH : ∀ i, i < 1 → (kid i).EsOK) (hA : KOn w 1 kid A) (hf : ∀ i, i < rn → (f i).ok = true) (lv : Nat) (hk : ∀ i, i < 1 → (kid i).okE rn lv = true) :
    Calls Try.prog 38 #[.agg #[.int .i64 11, .int .i64 c, .bool b, .int .i64 n, .slice A 1 cp], .slice R rn rc] w fun e w' => e = .returned (vv ⟨false, M.oneIf ((kid 0).ev f).nul⟩) ∧ Below w.heap.size w w' := by
  have HB := Lib.hid (B_alloc (B_alloc (Below.refl w.heap.size w) (.cells #[.int .i64 11, .int .i64 c, .bool b, .int .i64 n, .slice A 1 cp] 27)) (.cells #[.bool false, .int .i64 0] 24))
  have HR := Lib.hid (hR.on HB.out)
  clear hR
  have H1 := Lib.hid (hA.on HB.out)
  have HI := Lib.hid IH
  have HK := Lib.hid hk
  have HF := Lib.hid hf
  clear hA IH hk hf
  obtain ⟨bb, o, rfl, hbb, hc⟩ := H1.out (by omega)
  obtain ⟨A0, c0, g00, g01, g02, g03, g04, g05⟩ := hc 0 (by omega)
  clear hc
  simp only [Nat.zero_mul, Nat.add_zero] at g00 g01 g02 g03 g04
  have XR := Lib.hid (Blk.new' (w := w.alloc (.cells #[.int .i64 11, .int .i64 c, .bool b, .int .i64 n, .slice (some ⟨bb, o, none⟩) 1 cp] 27)) (cs := #[.bool false, .int .i64 0]) (T := 24) (g := w.heap.size + 1) (by simp))
  have cc := Lib.hid (HI.out 0 (by omega) _ A0 c0 R rn rc f lv (show On _ (kid 0) A0 from g05) HR.out hrn HF.out (HK.out 0 (by omega)))
  unfold ET.val vv at cc
  have hfl : ∀ (b : Bool) (n : Int) (w : World), (Instr.field 24 (.agg #[.bool b, .int .i64 n]) 0).run Try.prog w = .ok (.bool b) w := fun b n w => by kernel_rfl
  go_enter Try.func38, Try.ntmps38
  go_wp2_with fail
  refine cc.out.mono ?_; rintro e w1 ⟨rfl, hb⟩
  have XR1 := Lib.hid (XR.out.below hb)
  have HB1 := Lib.hid (B_more HB.out hb)
  clear hb
  go_wp2_with fail
  refine (stoInt_any _ _).mono ?_; rintro e w2 ⟨rfl, rfl⟩
  have r0 := XR1.out.cell 0 _ rfl
  have r1 := XR1.out.cell 1 _ rfl
  have q0 := XR1.out.free 0
  have q1 := XR1.out.free 1
  dsimp only [List.getElem_toArray, List.getElem_cons_zero, List.getElem_cons_succ] at r0 r1
  go_wp2_with fail
  exact bodyPost_ret (v := vv ⟨false, M.oneIf ((kid 0).ev f).nul⟩) (by simp [results, Try.results38, go_sem, r0, r1, vv]) rfl ⟨rfl, B_set (B_set HB1.out (by simp) _) (by simp) _⟩
set_option maxHeartbeats 4000000 in
set_option maxRecDepth 100000 in
theorem es_pair (c : Int) (b : Bool) (n : Int) (w : World) (A : Option Addr) (cp : Nat) (R : Option Addr) (rn rc : Nat) (f : Nat → M.V) (hR : RowAt w w.heap.size R rn f) (hrn : rn ≤ 6) (kid : Nat → ET) (IH : ∀ i, i < 2 → (kid i).EsOK) (hA : KOn w 2 kid A) (hf : ∀ i, i < rn → (f i).ok = true) (lv : Nat) (hk : ∀ i, i < 2 → (kid i).okE rn lv = true) (k : Int) (hk9 : 3 ≤ k ∧ k ≤ 9) :
    Calls Try.prog 38 #[.agg #[.int .i64 k, .int .i64 c, .bool b, .int .i64 n, .slice A 2 cp], .slice R rn rc] w fun e w' => e = .returned (vv (M.comb k ((kid 0).ev f) ((kid 1).ev f))) ∧ Below w.heap.size w w' := by
  have HB := Lib.hid (B_alloc (B_alloc (Below.refl w.heap.size w) (.cells #[.int .i64 k, .int .i64 c, .bool b, .int .i64 n, .slice A 2 cp] 27)) (.cells #[.bool false, .int .i64 0] 24))
  have HR := Lib.hid (hR.on HB.out)
  clear hR
  have hbb0 : ∀ b' o', A = some ⟨b', o', none⟩ → b' < w.heap.size := fun b' o' h => by
    obtain ⟨b'', o'', h2, h3, _⟩ := hA (by omega)
    rw [h] at h2
    injection h2 with h2
    injection h2 with h2 _
    rw [h2]
    exact h3
  have H1 := Lib.hid (hA.on HB.out)
  have HI := Lib.hid IH
  have HK := Lib.hid hk
  have HF := Lib.hid hf
  clear hA IH hk hf
  obtain ⟨bb, o, rfl, hbb, hc⟩ := H1.out (by omega)
  obtain ⟨A0, c0, g00, g01, g02, g03, g04, g05⟩ := hc 0 (by omega)
  obtain ⟨A1, c1, g10, g11, g12, g13, g14, g15⟩ := hc 1 (by omega)
  clear hc
  simp only [Nat.zero_mul, Nat.one_mul, Nat.add_zero] at g00 g01 g02 g03 g04 g10 g11 g12 g13 g14
  have hbw := hbb0 bb o rfl
  clear hbb0
  have hb1 : (k == 1) = false := by simp; omega
  have hb2 : (k == 2) = false := by simp; omega
  have hb3 : (k == 10) = false := by simp; omega
  have hb4 : (k == 11) = false := by simp; omega
  have HK9 := Lib.hid hk9
  clear hk9
  have XE := Lib.hid ((Blk.new' (w := w) (cs := #[.int .i64 k, .int .i64 c, .bool b, .int .i64 n, .slice (some ⟨bb, o, none⟩) 2 cp]) (T := 27) (g := w.heap.size) rfl).alloc (.cells #[.bool false, .int .i64 0] 24))
  have XR := Lib.hid (Blk.new' (w := w.alloc (.cells #[.int .i64 k, .int .i64 c, .bool b, .int .i64 n, .slice (some ⟨bb, o, none⟩) 2 cp] 27)) (cs := #[.bool false, .int .i64 0]) (T := 24) (g := w.heap.size + 1) (by simp))
  go_enter Try.func38, Try.ntmps38
  go_wp2_with fail
  obtain ⟨w0, hw0⟩ : ∃ x, x = (w.alloc (.cells #[.int .i64 k, .int .i64 c, .bool b, .int .i64 n, .slice (some ⟨bb, o, none⟩) 2 cp] 27)).alloc (.cells #[.bool false, .int .i64 0] 24) := ⟨_, rfl⟩
  rw [← hw0] at HB HR XE XR g00 g01 g02 g03 g04 g05 g10 g11 g12 g13 g14 g15
  rw [← hw0]
  clear hw0 H1 hbb
  have cc := Lib.hid (HI.out 0 (by omega) w0.drew A0 c0 R rn rc f lv (On.on (show On w0 (kid 0) A0 from g05) (Below.refl _ _).drew) (HR.out.on (Below.refl _ _).drew) hrn HF.out (HK.out 0 (by omega)))
  have T1 := Lib.hid (On.on (show On w0 (kid 1) A1 from g15) (Below.refl _ _).drew)
  have HR1 := Lib.hid (HR.out.on (Below.refl _ _).drew)
  have XR0 := Lib.hid XR.out.drew
  clear g05 g15 HR XR
  unfold ET.val at cc
  refine wp_region_held_drew (S := (fun w' => w'.cell? ⟨w.heap.size, 0, none⟩ = some (.int .i64 k) ∧ w'.cell? ⟨w.heap.size, 4, none⟩ = some (.slice (some ⟨bb, o, none⟩) 2 cp) ∧ w'.cell? ⟨bb, o, none⟩ = some (.int .i64 (kid 0).k) ∧ w'.cell? ⟨bb, o + 1, none⟩ = some (.int .i64 (kid 0).c) ∧ w'.cell? ⟨bb, o + 2, none⟩ = some (.bool (kid 0).b) ∧ w'.cell? ⟨bb, o + 3, none⟩ = some (.int .i64 (kid 0).n) ∧ w'.cell? ⟨bb, o + 4, none⟩ = some (.slice A0 (kid 0).m c0) ∧ w'.cell? ⟨bb, o + 5, none⟩ = some (.int .i64 (kid 1).k) ∧ w'.cell? ⟨bb, o + 5 + 1, none⟩ = some (.int .i64 (kid 1).c) ∧ w'.cell? ⟨bb, o + 5 + 2, none⟩ = some (.bool (kid 1).b) ∧ w'.cell? ⟨bb, o + 5 + 3, none⟩ = some (.int .i64 (kid 1).n) ∧ w'.cell? ⟨bb, o + 5 + 4, none⟩ = some (.slice A1 (kid 1).m c1) ∧ Below w.heap.size w w')) (by kernel_rfl)
    ⟨XE.out.cell 0 _ rfl, XE.out.cell 4 _ rfl, g00, g01, g02, g03, g04, g10, g11, g12, g13, g14, HB.out.drew⟩ (fun hHeld => ?_)
  clear g00 g01 g02 g03 g04 g10 g11 g12 g13 g14 XE HB
  refine held_take 0 40 _ ?_ rfl rfl (by kernel_rfl) (by kernel_rfl) (by kernel_rfl) (fun _ _ _ h => h) (by kernel_rfl) (fun w' hSw => ?_) (by assumption) ?_
  rotate_left
  · ((try dsimp only at hSw); go_simp; (try with_reducible rfl))
  simp only [Act.put, List.setIfInBounds_toArray, List.set_cons_zero, List.set_cons_succ]
  refine held_take 1 41 _ ?_ rfl rfl (by kernel_rfl) (by kernel_rfl) (by kernel_rfl) (fun _ _ _ h => h) (by kernel_rfl) (fun w' hSw => ?_) (by assumption) ?_
  rotate_left
  · ((try dsimp only at hSw); go_simp; (try with_reducible rfl))
  simp only [Act.put, List.setIfInBounds_toArray, List.set_cons_zero, List.set_cons_succ]
  refine held_take 2 42 _ ?_ rfl rfl (by kernel_rfl) (by kernel_rfl) (by kernel_rfl) (fun _ _ _ h => h) (by kernel_rfl) (fun w' hSw => ?_) (by assumption) ?_
  rotate_left
  · ((try dsimp only at hSw); go_simp; (try with_reducible rfl))
  simp only [Act.put, List.setIfInBounds_toArray, List.set_cons_zero, List.set_cons_succ]
  refine held_take 3 43 _ ?_ rfl rfl (by kernel_rfl) (by kernel_rfl) (by kernel_rfl) (fun _ _ _ h => h) (by kernel_rfl) (fun w' hSw => ?_) (by assumption) ?_
  rotate_left
  · ((try dsimp only at hSw); go_simp; (try with_reducible rfl))
  simp only [Act.put, List.setIfInBounds_toArray, List.set_cons_zero, List.set_cons_succ]
  refine held_take 4 44 _ ?_ rfl rfl (by kernel_rfl) (by kernel_rfl) (by kernel_rfl) (fun _ _ _ h => h) (by kernel_rfl) (fun w' hSw => ?_) (by assumption) ?_
  rotate_left
  · ((try dsimp only at hSw); go_simp; (try with_reducible rfl))
  simp only [Act.put, List.setIfInBounds_toArray, List.set_cons_zero, List.set_cons_succ]
  refine held_take 5 45 _ ?_ rfl rfl (by kernel_rfl) (by kernel_rfl) (by kernel_rfl) (fun _ _ _ h => h) (by kernel_rfl) (fun w' hSw => ?_) (by assumption) ?_
  rotate_left
  · ((try dsimp only at hSw); go_simp; (try with_reducible rfl))
  simp only [Act.put, List.setIfInBounds_toArray, List.set_cons_zero, List.set_cons_succ]
  refine held_take 6 46 _ ?_ rfl rfl (by kernel_rfl) (by kernel_rfl) (by kernel_rfl) (fun _ _ _ h => h) (by kernel_rfl) (fun w' hSw => ?_) (by assumption) ?_
  rotate_left
  · ((try dsimp only at hSw); go_simp; (try with_reducible rfl))
  simp only [Act.put, List.setIfInBounds_toArray, List.set_cons_zero, List.set_cons_succ]
  refine held_take 8 48 _ ?_ rfl rfl (by kernel_rfl) (by kernel_rfl) (by kernel_rfl) (fun _ _ _ h => h) (by kernel_rfl) (fun w' hSw => ?_) (by assumption) ?_
  rotate_left
  · ((try dsimp only at hSw); go_simp; (try with_reducible rfl))
  simp only [Act.put, List.setIfInBounds_toArray, List.set_cons_zero, List.set_cons_succ]
  refine held_take 9 49 _ ?_ rfl rfl (by kernel_rfl) (by kernel_rfl) (by kernel_rfl) (fun _ _ _ h => h) (by kernel_rfl) (fun w' hSw => ?_) (by assumption) ?_
  rotate_left
  · ((try dsimp only at hSw); go_simp; (try with_reducible rfl))
  simp only [Act.put, List.setIfInBounds_toArray, List.set_cons_zero, List.set_cons_succ]
  refine held_take 10 50 _ ?_ rfl rfl (by kernel_rfl) (by kernel_rfl) (by kernel_rfl) (fun _ _ _ h => h) (by kernel_rfl) (fun w' hSw => ?_) (by assumption) ?_
  rotate_left
  · ((try dsimp only at hSw); go_simp; (try with_reducible rfl))
  simp only [Act.put, List.setIfInBounds_toArray, List.set_cons_zero, List.set_cons_succ]
  refine held_take 11 51 _ ?_ rfl rfl (by kernel_rfl) (by kernel_rfl) (by kernel_rfl) (fun _ _ _ h => h) (by kernel_rfl) (fun w' hSw => ?_) (by assumption) ?_
  rotate_left
  · ((try dsimp only at hSw); go_simp; (try with_reducible rfl))
  simp only [Act.put, List.setIfInBounds_toArray, List.set_cons_zero, List.set_cons_succ]
  refine held_take 12 52 _ ?_ rfl rfl (by kernel_rfl) (by kernel_rfl) (by kernel_rfl) (fun _ _ _ h => h) (by kernel_rfl) (fun w' hSw => ?_) (by assumption) ?_
  rotate_left
  · ((try dsimp only at hSw); go_simp; (try with_reducible rfl))
  simp only [Act.put, List.setIfInBounds_toArray, List.set_cons_zero, List.set_cons_succ]
  refine wpAnyH_ready (rs := [7]) (by kernel_rfl) (by simp) ?_
  refine AllReadyH.cons rfl (fun K hK => ?_) AllReadyH.nil
  go_simp
  refine cc.out.mono ?_; rintro e w1 ⟨rfl, hb⟩
  go_wp2_with fail
  refine hK.out _ _ (keep_twelve hHeld hb) (fun hHeld2 => ?_)
  clear hK K
  (try clear hHeld)
  (try simp only [Act.put, List.setIfInBounds_toArray, List.set_cons_zero, List.set_cons_succ])
  have XR1 := Lib.hid (XR0.out.below hb)
  have T1' := Lib.hid (T1.out.on hb)
  have HR2 := Lib.hid (HR1.out.on hb)
  clear hb cc T1 HR1 XR0
  have cc := Lib.hid (HI.out 1 (by omega) w1 A1 c1 R rn rc f lv T1'.out HR2.out hrn HF.out (HK.out 1 (by omega)))
  unfold ET.val at cc
  refine wpAnyH_ready (rs := [13]) (by kernel_rfl) (by simp) ?_
  refine AllReadyH.cons rfl (fun K hK => ?_) AllReadyH.nil
  go_simp
  refine cc.out.mono ?_; rintro e w2 ⟨rfl, hb⟩
  go_wp2_with fail
  refine hK.out _ _ (keep_twelve hHeld2 hb) (fun hHeld2 => ?_)
  clear hK K
  (try clear hHeld)
  (try simp only [Act.put, List.setIfInBounds_toArray, List.set_cons_zero, List.set_cons_succ])
  have XR2 := Lib.hid (XR1.out.below hb)
  clear hb cc T1' HR2 XR1
  refine wpAnyH_ready (rs := [14]) (by kernel_rfl) (by simp) ?_
  refine AllReadyH.cons rfl (fun K hK => ?_) AllReadyH.nil
  go_simp
  refine (scombine_any k _ _ _ HK9.out (ev_ok f rn HF.out (kid 0) lv (HK.out 0 (by omega))) (ev_ok f rn HF.out (kid 1) lv (HK.out 1 (by omega)))).mono ?_; rintro e w3 ⟨rfl, hb⟩
  go_wp2_with fail
  refine hK.out _ _ (keep_twelve hHeld2 hb) (fun hHeld2 => ?_)
  clear hK K
  (try clear hHeld)
  (try simp only [Act.put, List.setIfInBounds_toArray, List.set_cons_zero, List.set_cons_succ])
  have XR3 := Lib.hid (XR2.out.below hb)
  clear hb XR2
  have r0 := XR3.out.cell 0 _ rfl
  have r1 := XR3.out.cell 1 _ rfl
  have q0 := XR3.out.free 0
  have q1 := XR3.out.free 1
  dsimp only [List.getElem_toArray, List.getElem_cons_zero, List.getElem_cons_succ] at r0 r1
  unfold vv
  refine wpAnyH_ready (rs := [15]) (by kernel_rfl) (by simp) ?_
  refine AllReadyH.cons rfl (fun K hK => ?_) AllReadyH.nil
  go_wp2_with fail
  refine hK.out _ _ (keep_twelveS hHeld2 (by omega) (by simp) (by simp) (by simp; omega) (by simp; omega) (by simp; omega) (by simp; omega) (by simp; omega) (by simp; omega) (by simp; omega) (by simp; omega) (by simp; omega) (by simp; omega) _ _) (fun hHeld3 => ?_)
  clear hK K
  have HBZ := Lib.hid hHeld3.2.2.2.2.2.2.2.2.2.2.2.2
  clear hHeld3 hHeld2
  refine wpAnyH_done (by kernel_rfl) ?_ _
  go_wp2_with fail
  exact bodyPost_ret (v := vv (M.comb k ((kid 0).ev f) ((kid 1).ev f))) (by simp [results, Try.results38, go_sem, r0, r1, vv]) rfl ⟨rfl, HBZ.out⟩

theorem evalExpr_step (k c : Int) (b : Bool) (n : Int) (m : Nat) (kid : Nat → ET) (IH : ∀ i, i < m → (kid i).EsOK) : (ET.mk k c b n m kid).EsOK := by
  intro w A cp R rn rc f lv hA hR hrn hf hok
  obtain ⟨ha, hh, hk⟩ := okE_parts hok
  have ha' : (m : Int) = ar k := ha
  have hh' : headOk k c b n rn = true := hh
  have hk' : ∀ i, i < m → (kid i).okE rn (lv - 1) = true := fun i hi => (hk i hi).2
  have hA' : KOn w m kid A := On.kids hA
  clear hA ha hh hk hok
  show Calls _ _ #[.agg #[.int .i64 k, .int .i64 c, .bool b, .int .i64 n, .slice A m cp], .slice R rn rc] _ _
  by_cases h1 : k = 1
  · subst h1
    obtain rfl : m = 0 := by simp only [ar] at ha'; omega
    have := of_decide_eq_true (show decide ((0 ≤ c ∧ c < rn) ∧ b = false ∧ n = 0) = true from hh')
    rw [ev_one]
    exact es_col c b n w A cp R rn rc f hR hrn this.1.1 this.1.2
  · by_cases h2 : k = 2
    · subst h2
      obtain rfl : m = 0 := by simp only [ar] at ha'; omega
      rw [ev_two]
      exact es_con c b n w A cp R rn rc f hR
    · by_cases h3 : k = 10
      · subst h3
        obtain rfl : m = 1 := by simp only [ar] at ha'; omega
        rw [ev_not]
        exact es_not c b n w A cp R rn rc f hR hrn kid IH hA' hf (lv - 1) hk'
      · by_cases h4 : k = 11
        · subst h4
          obtain rfl : m = 1 := by simp only [ar] at ha'; omega
          rw [ev_null]
          exact es_null c b n w A cp R rn rc f hR hrn kid IH hA' hf (lv - 1) hk'
        · have h9 : 3 ≤ k ∧ k ≤ 9 := by unfold ar at ha'; repeat' split at ha'; all_goals omega
          obtain rfl : m = 2 := by unfold ar at ha'; repeat' split at ha'; all_goals omega
          rw [ev_pair h9]
          exact es_pair c b n w A cp R rn rc f hR hrn kid IH hA' hf (lv - 1) hk' k h9
theorem evalExpr_any (t : ET) : t.EsOK := ET.all evalExpr_step (fun h w A cp R rn rc f lv _ _ _ _ hok => absurd hok (by show ¬ false = true; simp)) t
end ET
end Go.Proofs.Ytfbkbppaignofaa

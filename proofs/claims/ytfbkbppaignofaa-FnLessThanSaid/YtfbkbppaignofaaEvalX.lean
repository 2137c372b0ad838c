/-
  The walks of EvalExpr of both packages.
-/
import Derived.Test.YtfbkbppaignofaaTermF
import Derived.Laws.MakeOwn
namespace Go.Proofs.Ytfbkbppaignofaa
open Go.RowKit

namespace ET
/-- Whether an expression has a value over a row; and the value. -/
def evB (t : ET) (rn : Nat) (f : Nat → M.V) : Bool := okRow rn f && t.okX rn
def evV (t : ET) (rn : Nat) (f : Nat → M.V) : M.V := if t.evB rn f = true then t.ev f else ⟨false, 0⟩
theorem evB_row {t : ET} {rn : Nat} {f : Nat → M.V} (h : okRow rn f = false) : t.evB rn f = false := by unfold evB; rw [h]; rfl
theorem evB_okX {t : ET} {rn : Nat} {f : Nat → M.V} (h : t.okX rn = false) : t.evB rn f = false := by unfold evB; rw [h]; simp
theorem evB_both {t : ET} {rn : Nat} {f : Nat → M.V} (h : okRow rn f = true) (k : t.okX rn = true) : t.evB rn f = true := by unfold evB; rw [h, k]; rfl
theorem evV_no {t : ET} {rn : Nat} {f : Nat → M.V} (h : t.evB rn f = false) : t.evV rn f = ⟨false, 0⟩ := by unfold evV; rw [h]; rfl
theorem evV_yes {t : ET} {rn : Nat} {f : Nat → M.V} (h : t.evB rn f = true) : t.evV rn f = t.ev f := if_pos h
theorem okRow_n {rn : Nat} {f : Nat → M.V} (h : okRow rn f = true) : 1 ≤ rn ∧ rn ≤ 6 := ⟨(of_decide_eq_true h).1, (of_decide_eq_true h).2.1⟩

theorem EvalExpr_any (t : ET) (w : World) (A : Option Addr) (cp : Nat) (R : Option Addr) (rn rc : Nat) (f : Nat → M.V) (hA : On w t A) (hM : t.Most 2000000) (hR : RowAt w w.heap.size R rn f) (hrn : rn ≤ 2000000) :
    Calls Try.prog 14 #[t.val A cp, .slice R rn rc] w fun e w' => e = .returned (.tuple #[vv (t.evV rn f), .bool (t.evB rn f)]) ∧ Below w.heap.size w w' := by
  have HB := Lib.hid (B_alloc (B_alloc (Below.refl w.heap.size w) (.cells #[.int .i64 t.k, .int .i64 t.c, .bool t.b, .int .i64 t.n, .slice A t.m cp] 27)) (.cells #[.bool false, .int .i64 0] 24))
  have XE := Lib.hid ((Blk.new' (w := w) (cs := #[.int .i64 t.k, .int .i64 t.c, .bool t.b, .int .i64 t.n, .slice A t.m cp]) (T := 27) (g := w.heap.size) rfl).alloc (.cells #[.bool false, .int .i64 0] 24))
  have XR := Lib.hid (Blk.new' (w := w.alloc (.cells #[.int .i64 t.k, .int .i64 t.c, .bool t.b, .int .i64 t.n, .slice A t.m cp] 27)) (cs := #[.bool false, .int .i64 0]) (T := 24) (g := w.heap.size + 1) (by simp))
  have HA := Lib.hid (hA.on HB.out)
  have HM := Lib.hid hM
  have HR := Lib.hid (hR.on HB.out)
  clear hA hM hR
  unfold ET.val
  by_cases h1 : okRow rn f = true
  · have HW := Lib.hid h1
    clear h1
    by_cases h2 : t.okX rn = true
    · have HE := Lib.hid (evB_both HW.out h2)
      have HV := Lib.hid (evV_yes HE.out)
      have HO := Lib.hid ((okX_pos (t := t) (W := rn) (by have := okRow_n HW.out; omega)).symm.trans h2)
      have cv := Lib.hid (fun w' (hA : On w' t A) => h2 ▸ ValidExpr_any t w' A cp rn hA HM.out)
      clear h2
      unfold ET.val at cv
      rw [HE.out, HV.out]
      go_enter Try.func14, Try.ntmps14
      go_wp2_with fail
      refine (validRow_lit HR.out hrn HW.out).mono ?_; rintro e w1 ⟨rfl, hb⟩
      have HB1 := Lib.hid (B_more HB.out hb)
      have XE1 := Lib.hid (XE.out.below hb)
      have XR1 := Lib.hid (XR.out.below hb)
      have HA1 := Lib.hid (HA.out.on hb)
      have HR1 := Lib.hid (HR.out.on hb)
      clear hb HB XE XR HA HR
      have a0 := XE1.out.cell 0 _ rfl
      have a1 := XE1.out.cell 1 _ rfl
      have a2 := XE1.out.cell 2 _ rfl
      have a3 := XE1.out.cell 3 _ rfl
      have a4 := XE1.out.cell 4 _ rfl
      dsimp only [List.getElem_toArray, List.getElem_cons_zero, List.getElem_cons_succ] at a0 a1 a2 a3 a4
      go_wp2_with fail
      refine (cv.out _ HA1.out).mono ?_; rintro e w2 ⟨rfl, hb⟩
      have HB2 := Lib.hid (B_more HB1.out hb)
      have XE2 := Lib.hid (XE1.out.below hb)
      have XR2 := Lib.hid (XR1.out.below hb)
      have HA2 := Lib.hid (HA1.out.on hb)
      have HR2 := Lib.hid (HR1.out.on hb)
      clear hb HB1 XE1 XR1 HA1 HR1 cv a0 a1 a2 a3 a4
      have a0 := XE2.out.cell 0 _ rfl
      have a1 := XE2.out.cell 1 _ rfl
      have a2 := XE2.out.cell 2 _ rfl
      have a3 := XE2.out.cell 3 _ rfl
      have a4 := XE2.out.cell 4 _ rfl
      dsimp only [List.getElem_toArray, List.getElem_cons_zero, List.getElem_cons_succ] at a0 a1 a2 a3 a4
      go_wp2_with fail
      have ct := Lib.hid (termOf_any t _ A cp rn 8 HA2.out HO.out)
      obtain ⟨T, u, g, hT, hn, hm, hg, hc⟩ := ans_term R rn rc f (okRow_n HW.out).2 (okRow_all HW.out) t 8 HO.out
      rw [hT] at ct
      have HC := Lib.hid hc
      clear hc
      unfold ET.val at ct
      refine ct.out.mono ?_; rintro e w3 ⟨rfl, hb⟩
      have HB3 := Lib.hid (B_more HB2.out hb)
      have XE3 := Lib.hid (XE2.out.below hb)
      have XR3 := Lib.hid (XR2.out.below hb)
      have HA3 := Lib.hid (HA2.out.on hb)
      have HR3 := Lib.hid (HR2.out.on hb)
      clear hb HB2 XE2 XR2 HA2 HR2 ct a0 a1 a2 a3 a4
      go_wp2_with fail
      refine (HC.out _ HR3.out).mono ?_; rintro e w4 ⟨rfl, hb⟩
      have HB4 := Lib.hid (B_more HB3.out hb)
      have XE4 := Lib.hid (XE3.out.below hb)
      have XR4 := Lib.hid (XR3.out.below hb)
      have HA4 := Lib.hid (HA3.out.on hb)
      have HR4 := Lib.hid (HR3.out.on hb)
      clear hb HB3 XE3 XR3 HA3 HR3 HC
      have r0 := XR4.out.cell 0 _ rfl
      have r1 := XR4.out.cell 1 _ rfl
      have q0 := XR4.out.free 0
      have q1 := XR4.out.free 1
      dsimp only [List.getElem_toArray, List.getElem_cons_zero, List.getElem_cons_succ] at r0 r1
      go_wp2_with fail
      exact bodyPost_ret (v := .tuple #[vv (t.ev f), .bool true]) (by simp [results, Try.results14, go_sem, r0, r1, vv]) rfl ⟨rfl, B_set (B_set HB4.out (by simp) _) (by simp) _⟩
    · have HE := Lib.hid (evB_okX (t := t) (rn := rn) (f := f) (Bool.eq_false_iff.2 h2))
      have HV := Lib.hid (evV_no HE.out)
      have cv := Lib.hid (fun w' (hA : On w' t A) => (Bool.eq_false_iff.2 h2) ▸ ValidExpr_any t w' A cp rn hA HM.out)
      clear h2
      unfold ET.val at cv
      rw [HE.out, HV.out]
      go_enter Try.func14, Try.ntmps14
      go_wp2_with fail
      refine (validRow_lit HR.out hrn HW.out).mono ?_; rintro e w1 ⟨rfl, hb⟩
      have HB1 := Lib.hid (B_more HB.out hb)
      have XE1 := Lib.hid (XE.out.below hb)
      have XR1 := Lib.hid (XR.out.below hb)
      have HA1 := Lib.hid (HA.out.on hb)
      have HR1 := Lib.hid (HR.out.on hb)
      clear hb HB XE XR HA HR
      have a0 := XE1.out.cell 0 _ rfl
      have a1 := XE1.out.cell 1 _ rfl
      have a2 := XE1.out.cell 2 _ rfl
      have a3 := XE1.out.cell 3 _ rfl
      have a4 := XE1.out.cell 4 _ rfl
      dsimp only [List.getElem_toArray, List.getElem_cons_zero, List.getElem_cons_succ] at a0 a1 a2 a3 a4
      go_wp2_with fail
      refine (cv.out _ HA1.out).mono ?_; rintro e w2 ⟨rfl, hb⟩
      have HB2 := Lib.hid (B_more HB1.out hb)
      have XE2 := Lib.hid (XE1.out.below hb)
      have XR2 := Lib.hid (XR1.out.below hb)
      have HA2 := Lib.hid (HA1.out.on hb)
      have HR2 := Lib.hid (HR1.out.on hb)
      clear hb HB1 XE1 XR1 HA1 HR1 cv a0 a1 a2 a3 a4
      have r0 := XR2.out.cell 0 _ rfl
      have r1 := XR2.out.cell 1 _ rfl
      have q0 := XR2.out.free 0
      have q1 := XR2.out.free 1
      dsimp only [List.getElem_toArray, List.getElem_cons_zero, List.getElem_cons_succ] at r0 r1
      go_wp2_with fail
      exact bodyPost_ret (v := .tuple #[vv (⟨false, 0⟩), .bool false]) (by simp [results, Try.results14, go_sem, r0, r1, vv]) rfl ⟨rfl, B_set (B_set HB2.out (by simp) _) (by simp) _⟩
  · have HW := Lib.hid (Bool.eq_false_iff.2 h1)
    have HE := Lib.hid (evB_row (t := t) HW.out)
    have HV := Lib.hid (evV_no HE.out)
    clear h1
    rw [HE.out, HV.out]
    go_enter Try.func14, Try.ntmps14
    go_wp2_with fail
    refine (validRow_lit HR.out hrn HW.out).mono ?_; rintro e w1 ⟨rfl, hb⟩
    have HB1 := Lib.hid (B_more HB.out hb)
    have XE1 := Lib.hid (XE.out.below hb)
    have XR1 := Lib.hid (XR.out.below hb)
    have HA1 := Lib.hid (HA.out.on hb)
    have HR1 := Lib.hid (HR.out.on hb)
    clear hb HB XE XR HA HR
    have r0 := XR1.out.cell 0 _ rfl
    have r1 := XR1.out.cell 1 _ rfl
    have q0 := XR1.out.free 0
    have q1 := XR1.out.free 1
    dsimp only [List.getElem_toArray, List.getElem_cons_zero, List.getElem_cons_succ] at r0 r1
    go_wp2_with fail
    exact bodyPost_ret (v := .tuple #[vv (⟨false, 0⟩), .bool false]) (by simp [results, Try.results14, go_sem, r0, r1, vv]) rfl ⟨rfl, B_set (B_set HB1.out (by simp) _) (by simp) _⟩
theorem sEvalExpr_any (t : ET) (w : World) (A : Option Addr) (cp : Nat) (R : Option Addr) (rn rc : Nat) (f : Nat → M.V) (hA : On w t A) (hM : t.Most 2000000) (hR : RowAt w w.heap.size R rn f) (hrn : rn ≤ 2000000) :
    Calls Try.prog 15 #[t.val A cp, .slice R rn rc] w fun e w' => e = .returned (.tuple #[vv (t.evV rn f), .bool (t.evB rn f)]) ∧ Below w.heap.size w w' := by
  have HB := Lib.hid (B_alloc (B_alloc (Below.refl w.heap.size w) (.cells #[.int .i64 t.k, .int .i64 t.c, .bool t.b, .int .i64 t.n, .slice A t.m cp] 27)) (.cells #[.bool false, .int .i64 0] 24))
  have XE := Lib.hid ((Blk.new' (w := w) (cs := #[.int .i64 t.k, .int .i64 t.c, .bool t.b, .int .i64 t.n, .slice A t.m cp]) (T := 27) (g := w.heap.size) rfl).alloc (.cells #[.bool false, .int .i64 0] 24))
  have XR := Lib.hid (Blk.new' (w := w.alloc (.cells #[.int .i64 t.k, .int .i64 t.c, .bool t.b, .int .i64 t.n, .slice A t.m cp] 27)) (cs := #[.bool false, .int .i64 0]) (T := 24) (g := w.heap.size + 1) (by simp))
  have HA := Lib.hid (hA.on HB.out)
  have HM := Lib.hid hM
  have HR := Lib.hid (hR.on HB.out)
  clear hA hM hR
  unfold ET.val
  by_cases h1 : okRow rn f = true
  · have HW := Lib.hid h1
    clear h1
    by_cases h2 : t.okX rn = true
    · have HE := Lib.hid (evB_both HW.out h2)
      have HV := Lib.hid (evV_yes HE.out)
      have HO := Lib.hid ((okX_pos (t := t) (W := rn) (by have := okRow_n HW.out; omega)).symm.trans h2)
      have cv := Lib.hid (fun w' (hA : On w' t A) => h2 ▸ sValidExpr_any t w' A cp rn hA HM.out)
      clear h2
      unfold ET.val at cv
      rw [HE.out, HV.out]
      go_enter Try.func15, Try.ntmps15
      go_wp2_with fail
      refine (svalidRow_lit HR.out hrn HW.out).mono ?_; rintro e w1 ⟨rfl, hb⟩
      have HB1 := Lib.hid (B_more HB.out hb)
      have XE1 := Lib.hid (XE.out.below hb)
      have XR1 := Lib.hid (XR.out.below hb)
      have HA1 := Lib.hid (HA.out.on hb)
      have HR1 := Lib.hid (HR.out.on hb)
      clear hb HB XE XR HA HR
      have a0 := XE1.out.cell 0 _ rfl
      have a1 := XE1.out.cell 1 _ rfl
      have a2 := XE1.out.cell 2 _ rfl
      have a3 := XE1.out.cell 3 _ rfl
      have a4 := XE1.out.cell 4 _ rfl
      dsimp only [List.getElem_toArray, List.getElem_cons_zero, List.getElem_cons_succ] at a0 a1 a2 a3 a4
      go_wp2_with fail
      refine (cv.out _ HA1.out).mono ?_; rintro e w2 ⟨rfl, hb⟩
      have HB2 := Lib.hid (B_more HB1.out hb)
      have XE2 := Lib.hid (XE1.out.below hb)
      have XR2 := Lib.hid (XR1.out.below hb)
      have HA2 := Lib.hid (HA1.out.on hb)
      have HR2 := Lib.hid (HR1.out.on hb)
      clear hb HB1 XE1 XR1 HA1 HR1 cv a0 a1 a2 a3 a4
      have a0 := XE2.out.cell 0 _ rfl
      have a1 := XE2.out.cell 1 _ rfl
      have a2 := XE2.out.cell 2 _ rfl
      have a3 := XE2.out.cell 3 _ rfl
      have a4 := XE2.out.cell 4 _ rfl
      dsimp only [List.getElem_toArray, List.getElem_cons_zero, List.getElem_cons_succ] at a0 a1 a2 a3 a4
      go_wp2_with fail
      refine ((evalExpr_any t) _ A cp R rn rc f 8 HA2.out HR2.out (okRow_n HW.out).2 (okRow_all HW.out) HO.out).mono ?_; rintro e w4 ⟨rfl, hb⟩
      have HB4 := Lib.hid (B_more HB2.out hb)
      have XE4 := Lib.hid (XE2.out.below hb)
      have XR4 := Lib.hid (XR2.out.below hb)
      have HA4 := Lib.hid (HA2.out.on hb)
      have HR4 := Lib.hid (HR2.out.on hb)
      clear hb HB2 XE2 XR2 HA2 HR2 a0 a1 a2 a3 a4
      have r0 := XR4.out.cell 0 _ rfl
      have r1 := XR4.out.cell 1 _ rfl
      have q0 := XR4.out.free 0
      have q1 := XR4.out.free 1
      dsimp only [List.getElem_toArray, List.getElem_cons_zero, List.getElem_cons_succ] at r0 r1
      unfold vv
      go_wp2_with fail
      exact bodyPost_ret (v := .tuple #[vv (t.ev f), .bool true]) (by simp [results, Try.results15, go_sem, r0, r1, vv]) rfl ⟨rfl, B_set (B_set HB4.out (by simp) _) (by simp) _⟩
    · have HE := Lib.hid (evB_okX (t := t) (rn := rn) (f := f) (Bool.eq_false_iff.2 h2))
      have HV := Lib.hid (evV_no HE.out)
      have cv := Lib.hid (fun w' (hA : On w' t A) => (Bool.eq_false_iff.2 h2) ▸ sValidExpr_any t w' A cp rn hA HM.out)
      clear h2
      unfold ET.val at cv
      rw [HE.out, HV.out]
      go_enter Try.func15, Try.ntmps15
      go_wp2_with fail
      refine (svalidRow_lit HR.out hrn HW.out).mono ?_; rintro e w1 ⟨rfl, hb⟩
      have HB1 := Lib.hid (B_more HB.out hb)
      have XE1 := Lib.hid (XE.out.below hb)
      have XR1 := Lib.hid (XR.out.below hb)
      have HA1 := Lib.hid (HA.out.on hb)
      have HR1 := Lib.hid (HR.out.on hb)
      clear hb HB XE XR HA HR
      have a0 := XE1.out.cell 0 _ rfl
      have a1 := XE1.out.cell 1 _ rfl
      have a2 := XE1.out.cell 2 _ rfl
      have a3 := XE1.out.cell 3 _ rfl
      have a4 := XE1.out.cell 4 _ rfl
      dsimp only [List.getElem_toArray, List.getElem_cons_zero, List.getElem_cons_succ] at a0 a1 a2 a3 a4
      go_wp2_with fail
      refine (cv.out _ HA1.out).mono ?_; rintro e w2 ⟨rfl, hb⟩
      have HB2 := Lib.hid (B_more HB1.out hb)
      have XE2 := Lib.hid (XE1.out.below hb)
      have XR2 := Lib.hid (XR1.out.below hb)
      have HA2 := Lib.hid (HA1.out.on hb)
      have HR2 := Lib.hid (HR1.out.on hb)
      clear hb HB1 XE1 XR1 HA1 HR1 cv a0 a1 a2 a3 a4
      have r0 := XR2.out.cell 0 _ rfl
      have r1 := XR2.out.cell 1 _ rfl
      have q0 := XR2.out.free 0
      have q1 := XR2.out.free 1
      dsimp only [List.getElem_toArray, List.getElem_cons_zero, List.getElem_cons_succ] at r0 r1
      go_wp2_with fail
      exact bodyPost_ret (v := .tuple #[vv (⟨false, 0⟩), .bool false]) (by simp [results, Try.results15, go_sem, r0, r1, vv]) rfl ⟨rfl, B_set (B_set HB2.out (by simp) _) (by simp) _⟩
  · have HW := Lib.hid (Bool.eq_false_iff.2 h1)
    have HE := Lib.hid (evB_row (t := t) HW.out)
    have HV := Lib.hid (evV_no HE.out)
    clear h1
    rw [HE.out, HV.out]
    go_enter Try.func15, Try.ntmps15
    go_wp2_with fail
    refine (svalidRow_lit HR.out hrn HW.out).mono ?_; rintro e w1 ⟨rfl, hb⟩
    have HB1 := Lib.hid (B_more HB.out hb)
    have XE1 := Lib.hid (XE.out.below hb)
    have XR1 := Lib.hid (XR.out.below hb)
    have HA1 := Lib.hid (HA.out.on hb)
    have HR1 := Lib.hid (HR.out.on hb)
    clear hb HB XE XR HA HR
    have r0 := XR1.out.cell 0 _ rfl
    have r1 := XR1.out.cell 1 _ rfl
    have q0 := XR1.out.free 0
    have q1 := XR1.out.free 1
    dsimp only [List.getElem_toArray, List.getElem_cons_zero, List.getElem_cons_succ] at r0 r1
    go_wp2_with fail
    exact bodyPost_ret (v := .tuple #[vv (⟨false, 0⟩), .bool false]) (by simp [results, Try.results15, go_sem, r0, r1, vv]) rfl ⟨rfl, B_set (B_set HB1.out (by simp) _) (by simp) _⟩
end ET
end Go.Proofs.Ytfbkbppaignofaa

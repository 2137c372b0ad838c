/-
  The terms of the program: what each pair answers.
-/
import Derived.Test.YtfbkbppaignofaaTermD
namespace Go.Proofs.Ytfbkbppaignofaa
open Go.RowKit

/-- A function value of two numbers that answers z. -/
def Fun2 (F : Nat) (a b : Int) (z : Value) : Prop := (∀ args w, (callFunc F args).run Try.prog w = .ok (.enter F args) w) ∧ ∀ w, Calls Try.prog F #[.int .i64 a, .int .i64 b] w fun e w' => e = .returned z ∧ w = w'

set_option maxHeartbeats 1000000 in
set_option maxRecDepth 100000 in
theorem arith_any (i j : Value) (b1 b2 : Bool) (n1 n2 : Int) (F : Nat) (z : Int) (w : World) (R : Option Addr) (rn rc : Nat) (f : Nat → M.V) (hR : RowAt w w.heap.size R rn f) (hi : Ans R rn rc f i ⟨b1, n1⟩) (hj : Ans R rn rc f j ⟨b2, n2⟩) (hF : b1 = false → b2 = false → Fun2 F n1 n2 (.int .i64 z)) :
    Calls Try.prog 92 #[.agg #[i, j], .slice R rn rc, .func (.func F) #[] #[]] w fun e w' => e = .returned (vv (if b1 = true ∨ b2 = true then ⟨true, 0⟩ else M.num z)) ∧ Below w.heap.size w w' := by
  have HB := Lib.hid (B_alloc (B_alloc (Below.refl w.heap.size w) (.cells #[i, j] 89)) (.cells #[.bool false, .int .i64 0] 24))
  have XR := Lib.hid (Blk.new' (w := w.alloc (.cells #[i, j] 89)) (cs := #[.bool false, .int .i64 0]) (T := 24) (g := w.heap.size + 1) (by simp))
  have cn := Lib.hid (numbers_any i j _ _ _ R rn rc f (hR.on HB.out) hi hj)
  clear hR hi hj
  dsimp only at cn
  obtain ⟨r, hr⟩ : ∃ r, r = (if b1 = true ∨ b2 = true then (⟨true, 0⟩ : M.V) else M.num z) := ⟨_, rfl⟩
  rw [← hr]
  cases b1
  · cases b2
    · have HQ := Lib.hid (show r = M.num z from hr.trans (if_neg (by simp)))
      clear hr
      obtain ⟨hg, hc⟩ := hF rfl rfl
      have HF := Lib.hid hc
      clear hc hF
      go_enter Try.func92, Try.ntmps92
      go_wp2_with fail
      refine cn.out.mono ?_; rintro e w1 ⟨rfl, hb⟩
      have XR1 := Lib.hid (XR.out.below hb)
      have HB1 := Lib.hid (B_more HB.out hb)
      clear hb cn
      go_wp2_with fail
      refine (HF.out _).mono ?_; rintro e w2 ⟨rfl, rfl⟩
      go_wp2_with fail
      refine (numberOrNull_any _ _).mono ?_; rintro e w3 ⟨rfl, hb⟩
      have XR3 := Lib.hid (XR1.out.below hb)
      have HB3 := Lib.hid (B_more HB1.out hb)
      clear hb
      have r0 := XR3.out.cell 0 _ rfl
      have r1 := XR3.out.cell 1 _ rfl
      have q0 := XR3.out.free 0
      have q1 := XR3.out.free 1
      dsimp only [List.getElem_toArray, List.getElem_cons_zero, List.getElem_cons_succ] at r0 r1
      unfold vv
      go_wp2_with fail
      exact bodyPost_ret (v := vv (M.num z)) (by simp [results, Try.results92, go_sem, r0, r1, vv]) rfl ⟨ret_V HQ.out.symm, B_set (B_set HB3.out (by simp) _) (by simp) _⟩
    · have HQ := Lib.hid (show r = ⟨true, 0⟩ from hr.trans (if_pos (by simp)))
      clear hF hr
      go_enter Try.func92, Try.ntmps92
      go_wp2_with fail
      refine cn.out.mono ?_; rintro e w1 ⟨rfl, hb⟩
      have XR1 := Lib.hid (XR.out.below hb)
      have HB1 := Lib.hid (B_more HB.out hb)
      clear hb cn
      have r0 := XR1.out.cell 0 _ rfl
      have r1 := XR1.out.cell 1 _ rfl
      have q0 := XR1.out.free 0
      have q1 := XR1.out.free 1
      dsimp only [List.getElem_toArray, List.getElem_cons_zero, List.getElem_cons_succ] at r0 r1
      go_wp2_with fail
      all_goals exact bodyPost_ret (v := vv ⟨true, 0⟩) (by simp [results, Try.results92, go_sem, r0, r1, vv]) rfl ⟨ret_V HQ.out.symm, B_set (B_set HB1.out (by simp) _) (by simp) _⟩
  · have HQ := Lib.hid (show r = ⟨true, 0⟩ from hr.trans (if_pos (by simp)))
    clear hF hr
    go_enter Try.func92, Try.ntmps92
    go_wp2_with fail
    refine cn.out.mono ?_; rintro e w1 ⟨rfl, hb⟩
    have XR1 := Lib.hid (XR.out.below hb)
    have HB1 := Lib.hid (B_more HB.out hb)
    clear hb cn
    have r0 := XR1.out.cell 0 _ rfl
    have r1 := XR1.out.cell 1 _ rfl
    have q0 := XR1.out.free 0
    have q1 := XR1.out.free 1
    dsimp only [List.getElem_toArray, List.getElem_cons_zero, List.getElem_cons_succ] at r0 r1
    go_wp2_with fail
    all_goals exact bodyPost_ret (v := vv ⟨true, 0⟩) (by simp [results, Try.results92, go_sem, r0, r1, vv]) rfl ⟨ret_V HQ.out.symm, B_set (B_set HB1.out (by simp) _) (by simp) _⟩

set_option maxHeartbeats 1000000 in
set_option maxRecDepth 100000 in
theorem compare2_any (i j : Value) (b1 b2 : Bool) (n1 n2 : Int) (F : Nat) (z : Bool) (w : World) (R : Option Addr) (rn rc : Nat) (f : Nat → M.V) (hR : RowAt w w.heap.size R rn f) (hi : Ans R rn rc f i ⟨b1, n1⟩) (hj : Ans R rn rc f j ⟨b2, n2⟩) (hF : b1 = false → b2 = false → Fun2 F n1 n2 (.bool z)) :
    Calls Try.prog 100 #[.agg #[i, j], .slice R rn rc, .func (.func F) #[] #[]] w fun e w' => e = .returned (vv (if b1 = true ∨ b2 = true then ⟨true, 0⟩ else ⟨false, M.oneIf z⟩)) ∧ Below w.heap.size w w' := by
  have HB := Lib.hid (B_alloc (B_alloc (Below.refl w.heap.size w) (.cells #[i, j] 89)) (.cells #[.bool false, .int .i64 0] 24))
  have XR := Lib.hid (Blk.new' (w := w.alloc (.cells #[i, j] 89)) (cs := #[.bool false, .int .i64 0]) (T := 24) (g := w.heap.size + 1) (by simp))
  have cn := Lib.hid (numbers_any i j _ _ _ R rn rc f (hR.on HB.out) hi hj)
  clear hR hi hj
  dsimp only at cn
  obtain ⟨r, hr⟩ : ∃ r, r = (if b1 = true ∨ b2 = true then (⟨true, 0⟩ : M.V) else ⟨false, M.oneIf z⟩) := ⟨_, rfl⟩
  rw [← hr]
  cases b1
  · cases b2
    · have HQ := Lib.hid (show r = ⟨false, M.oneIf z⟩ from hr.trans (if_neg (by simp)))
      clear hr
      obtain ⟨hg, hc⟩ := hF rfl rfl
      have HF := Lib.hid hc
      clear hc hF
      go_enter Try.func100, Try.ntmps100
      go_wp2_with fail
      refine cn.out.mono ?_; rintro e w1 ⟨rfl, hb⟩
      have XR1 := Lib.hid (XR.out.below hb)
      have HB1 := Lib.hid (B_more HB.out hb)
      clear hb cn
      go_wp2_with fail
      refine (HF.out _).mono ?_; rintro e w2 ⟨rfl, rfl⟩
      go_wp2_with fail
      refine (truthOf_any _ _).mono ?_; rintro e w2 ⟨rfl, rfl⟩
      go_wp2_with fail
      refine (ivalue_any _ (ofB_three _) _).mono ?_; rintro e w3 ⟨rfl, hb⟩
      have XR3 := Lib.hid (XR1.out.below hb)
      have HB3 := Lib.hid (B_more HB1.out hb)
      clear hb
      have r0 := XR3.out.cell 0 _ rfl
      have r1 := XR3.out.cell 1 _ rfl
      have q0 := XR3.out.free 0
      have q1 := XR3.out.free 1
      dsimp only [List.getElem_toArray, List.getElem_cons_zero, List.getElem_cons_succ] at r0 r1
      unfold vv
      go_wp2_with fail
      exact bodyPost_ret (v := vv (M.ival (M.ofB z))) (by simp [results, Try.results100, go_sem, r0, r1, vv]) rfl ⟨ret_V ((M.ival_ofB z).trans HQ.out.symm), B_set (B_set HB3.out (by simp) _) (by simp) _⟩
    · have HQ := Lib.hid (show r = ⟨true, 0⟩ from hr.trans (if_pos (by simp)))
      clear hF hr
      go_enter Try.func100, Try.ntmps100
      go_wp2_with fail
      refine cn.out.mono ?_; rintro e w1 ⟨rfl, hb⟩
      have XR1 := Lib.hid (XR.out.below hb)
      have HB1 := Lib.hid (B_more HB.out hb)
      clear hb cn
      have r0 := XR1.out.cell 0 _ rfl
      have r1 := XR1.out.cell 1 _ rfl
      have q0 := XR1.out.free 0
      have q1 := XR1.out.free 1
      dsimp only [List.getElem_toArray, List.getElem_cons_zero, List.getElem_cons_succ] at r0 r1
      go_wp2_with fail
      all_goals exact bodyPost_ret (v := vv ⟨true, 0⟩) (by simp [results, Try.results100, go_sem, r0, r1, vv]) rfl ⟨ret_V HQ.out.symm, B_set (B_set HB1.out (by simp) _) (by simp) _⟩
  · have HQ := Lib.hid (show r = ⟨true, 0⟩ from hr.trans (if_pos (by simp)))
    clear hF hr
    go_enter Try.func100, Try.ntmps100
    go_wp2_with fail
    refine cn.out.mono ?_; rintro e w1 ⟨rfl, hb⟩
    have XR1 := Lib.hid (XR.out.below hb)
    have HB1 := Lib.hid (B_more HB.out hb)
    clear hb cn
    have r0 := XR1.out.cell 0 _ rfl
    have r1 := XR1.out.cell 1 _ rfl
    have q0 := XR1.out.free 0
    have q1 := XR1.out.free 1
    dsimp only [List.getElem_toArray, List.getElem_cons_zero, List.getElem_cons_succ] at r0 r1
    go_wp2_with fail
    all_goals exact bodyPost_ret (v := vv ⟨true, 0⟩) (by simp [results, Try.results100, go_sem, r0, r1, vv]) rfl ⟨ret_V HQ.out.symm, B_set (B_set HB1.out (by simp) _) (by simp) _⟩

set_option maxHeartbeats 1000000 in
set_option maxRecDepth 100000 in
theorem va_and (i j : Value) (x y : M.V) (w : World) (R : Option Addr) (rn rc : Nat) (f : Nat → M.V) (hR : RowAt w w.heap.size R rn f) (hi : Ans R rn rc f i x) (hj : Ans R rn rc f j y) (a b : Int) (hx : M.itru x = a) (hy : M.itru y = b) :
    Calls Try.prog 104 #[.agg #[i, j], .slice R rn rc] w fun e w' => e = .returned (vv (M.ival (min a b))) ∧ Below w.heap.size w w' := by
  have HB := Lib.hid (B_alloc (B_alloc (Below.refl w.heap.size w) (.cells #[i, j] 101)) (.cells #[.bool false, .int .i64 0] 24))
  have XR := Lib.hid (Blk.new' (w := w.alloc (.cells #[i, j] 101)) (cs := #[.bool false, .int .i64 0]) (T := 24) (g := w.heap.size + 1) (by simp))
  have cn := Lib.hid (truths_any i j _ _ _ R rn rc f (hR.on HB.out) hi hj)
  have h3 := Lib.hid (M.itru_three x)
  have h4 := Lib.hid (M.itru_three y)
  clear hR hi hj
  rw [hx] at cn h3
  rw [hy] at cn h4
  clear hx hy
  rcases h3.out with rfl | rfl | rfl <;> rcases h4.out with rfl | rfl | rfl
  all_goals go_enter Try.func104, Try.ntmps104
  all_goals go_wp2_with fail
  all_goals refine cn.out.mono ?_
  all_goals rintro e w1 ⟨rfl, hb⟩
  all_goals have XR1 := Lib.hid (XR.out.below hb)
  all_goals have HB1 := Lib.hid (B_more HB.out hb)
  all_goals clear hb cn
  all_goals go_wp2_with fail
  all_goals refine (ivalue_any _ (by decide) _).mono ?_
  all_goals rintro e w3 ⟨rfl, hb⟩
  all_goals have XR3 := Lib.hid (XR1.out.below hb)
  all_goals have HB3 := Lib.hid (B_more HB1.out hb)
  all_goals clear hb
  all_goals have r0 := XR3.out.cell 0 _ rfl
  all_goals have r1 := XR3.out.cell 1 _ rfl
  all_goals have q0 := XR3.out.free 0
  all_goals have q1 := XR3.out.free 1
  all_goals dsimp only [List.getElem_toArray, List.getElem_cons_zero, List.getElem_cons_succ] at r0 r1
  all_goals unfold vv
  all_goals go_wp2_with fail
  all_goals first
    | exact bodyPost_ret (v := vv (M.ival 0)) (by simp [results, Try.results104, go_sem, r0, r1, vv]) rfl ⟨rfl, B_set (B_set HB3.out (by simp) _) (by simp) _⟩
    | exact bodyPost_ret (v := vv (M.ival 1)) (by simp [results, Try.results104, go_sem, r0, r1, vv]) rfl ⟨rfl, B_set (B_set HB3.out (by simp) _) (by simp) _⟩
    | exact bodyPost_ret (v := vv (M.ival 2)) (by simp [results, Try.results104, go_sem, r0, r1, vv]) rfl ⟨rfl, B_set (B_set HB3.out (by simp) _) (by simp) _⟩

set_option maxHeartbeats 1000000 in
set_option maxRecDepth 100000 in
theorem va_or (i j : Value) (x y : M.V) (w : World) (R : Option Addr) (rn rc : Nat) (f : Nat → M.V) (hR : RowAt w w.heap.size R rn f) (hi : Ans R rn rc f i x) (hj : Ans R rn rc f j y) (a b : Int) (hx : M.itru x = a) (hy : M.itru y = b) :
    Calls Try.prog 106 #[.agg #[i, j], .slice R rn rc] w fun e w' => e = .returned (vv (M.ival (max a b))) ∧ Below w.heap.size w w' := by
  have HB := Lib.hid (B_alloc (B_alloc (Below.refl w.heap.size w) (.cells #[i, j] 102)) (.cells #[.bool false, .int .i64 0] 24))
  have XR := Lib.hid (Blk.new' (w := w.alloc (.cells #[i, j] 102)) (cs := #[.bool false, .int .i64 0]) (T := 24) (g := w.heap.size + 1) (by simp))
  have cn := Lib.hid (truths_any i j _ _ _ R rn rc f (hR.on HB.out) hi hj)
  have h3 := Lib.hid (M.itru_three x)
  have h4 := Lib.hid (M.itru_three y)
  clear hR hi hj
  rw [hx] at cn h3
  rw [hy] at cn h4
  clear hx hy
  rcases h3.out with rfl | rfl | rfl <;> rcases h4.out with rfl | rfl | rfl
  all_goals go_enter Try.func106, Try.ntmps106
  all_goals go_wp2_with fail
  all_goals refine cn.out.mono ?_
  all_goals rintro e w1 ⟨rfl, hb⟩
  all_goals have XR1 := Lib.hid (XR.out.below hb)
  all_goals have HB1 := Lib.hid (B_more HB.out hb)
  all_goals clear hb cn
  all_goals go_wp2_with fail
  all_goals refine (ivalue_any _ (by decide) _).mono ?_
  all_goals rintro e w3 ⟨rfl, hb⟩
  all_goals have XR3 := Lib.hid (XR1.out.below hb)
  all_goals have HB3 := Lib.hid (B_more HB1.out hb)
  all_goals clear hb
  all_goals have r0 := XR3.out.cell 0 _ rfl
  all_goals have r1 := XR3.out.cell 1 _ rfl
  all_goals have q0 := XR3.out.free 0
  all_goals have q1 := XR3.out.free 1
  all_goals dsimp only [List.getElem_toArray, List.getElem_cons_zero, List.getElem_cons_succ] at r0 r1
  all_goals unfold vv
  all_goals go_wp2_with fail
  all_goals first
    | exact bodyPost_ret (v := vv (M.ival 0)) (by simp [results, Try.results106, go_sem, r0, r1, vv]) rfl ⟨rfl, B_set (B_set HB3.out (by simp) _) (by simp) _⟩
    | exact bodyPost_ret (v := vv (M.ival 1)) (by simp [results, Try.results106, go_sem, r0, r1, vv]) rfl ⟨rfl, B_set (B_set HB3.out (by simp) _) (by simp) _⟩
    | exact bodyPost_ret (v := vv (M.ival 2)) (by simp [results, Try.results106, go_sem, r0, r1, vv]) rfl ⟨rfl, B_set (B_set HB3.out (by simp) _) (by simp) _⟩

theorem fn_plus (n1 n2 : Int) (h1 : -9999 ≤ n1 ∧ n1 ≤ 9999) (h2 : -9999 ≤ n2 ∧ n2 ≤ 9999) : Fun2 93 n1 n2 (.int .i64 (n1 + n2)) := by
  obtain ⟨h1a, h1b⟩ := h1
  obtain ⟨h2a, h2b⟩ := h2
  refine ⟨fun args w => by kernel_rfl, fun w => ?_⟩
  go_enter Try.func93, Try.ntmps93
  go_wp2
  go_ret
  exact ⟨rfl, rfl⟩
set_option maxHeartbeats 1000000 in
set_option maxRecDepth 100000 in
theorem va_plus (i j : Value) (b1 b2 : Bool) (n1 n2 : Int) (w : World) (R : Option Addr) (rn rc : Nat) (f : Nat → M.V) (hR : RowAt w w.heap.size R rn f) (hi : Ans R rn rc f i ⟨b1, n1⟩) (hj : Ans R rn rc f j ⟨b2, n2⟩) (h1 : (M.V.mk b1 n1).ok = true) (h2 : (M.V.mk b2 n2).ok = true) :
    Calls Try.prog 91 #[.agg #[i, j], .slice R rn rc] w fun e w' => e = .returned (vv (if b1 = true ∨ b2 = true then ⟨true, 0⟩ else M.num (n1 + n2))) ∧ Below w.heap.size w w' := by
  have HB := Lib.hid (B_alloc (B_alloc (Below.refl w.heap.size w) (.cells #[i, j] 96)) (.cells #[.bool false, .int .i64 0] 24))
  have XR := Lib.hid (Blk.new' (w := w.alloc (.cells #[i, j] 96)) (cs := #[.bool false, .int .i64 0]) (T := 24) (g := w.heap.size + 1) (by simp))
  have cn := Lib.hid (arith_any i j b1 b2 n1 n2 93 (n1 + n2) _ R rn rc f (hR.on HB.out) hi hj (fun _ _ => fn_plus n1 n2 (M.V.ok_bounds h1) (M.V.ok_bounds h2)))
  clear hR hi hj h1 h2
  obtain ⟨r, hr⟩ : ∃ r, r = (if b1 = true ∨ b2 = true then (⟨true, 0⟩ : M.V) else M.num (n1 + n2)) := ⟨_, rfl⟩
  rw [← hr] at cn
  rw [← hr]
  clear hr
  unfold vv at cn
  go_enter Try.func91, Try.ntmps91
  go_wp2_with fail
  refine cn.out.mono ?_; rintro e w1 ⟨rfl, hb⟩
  have XR1 := Lib.hid (XR.out.below hb)
  have HB1 := Lib.hid (B_more HB.out hb)
  clear hb cn
  have r0 := XR1.out.cell 0 _ rfl
  have r1 := XR1.out.cell 1 _ rfl
  have q0 := XR1.out.free 0
  have q1 := XR1.out.free 1
  dsimp only [List.getElem_toArray, List.getElem_cons_zero, List.getElem_cons_succ] at r0 r1
  go_wp2_with fail
  exact bodyPost_ret (v := vv r) (by simp [results, Try.results91, go_sem, r0, r1, vv]) rfl ⟨rfl, B_set (B_set HB1.out (by simp) _) (by simp) _⟩
theorem fn_minus (n1 n2 : Int) (h1 : -9999 ≤ n1 ∧ n1 ≤ 9999) (h2 : -9999 ≤ n2 ∧ n2 ≤ 9999) : Fun2 96 n1 n2 (.int .i64 (n1 - n2)) := by
  obtain ⟨h1a, h1b⟩ := h1
  obtain ⟨h2a, h2b⟩ := h2
  refine ⟨fun args w => by kernel_rfl, fun w => ?_⟩
  go_enter Try.func96, Try.ntmps96
  go_wp2
  go_ret
  exact ⟨rfl, rfl⟩
set_option maxHeartbeats 1000000 in
set_option maxRecDepth 100000 in
theorem va_minus (i j : Value) (b1 b2 : Bool) (n1 n2 : Int) (w : World) (R : Option Addr) (rn rc : Nat) (f : Nat → M.V) (hR : RowAt w w.heap.size R rn f) (hi : Ans R rn rc f i ⟨b1, n1⟩) (hj : Ans R rn rc f j ⟨b2, n2⟩) (h1 : (M.V.mk b1 n1).ok = true) (h2 : (M.V.mk b2 n2).ok = true) :
    Calls Try.prog 95 #[.agg #[i, j], .slice R rn rc] w fun e w' => e = .returned (vv (if b1 = true ∨ b2 = true then ⟨true, 0⟩ else M.num (n1 - n2))) ∧ Below w.heap.size w w' := by
  have HB := Lib.hid (B_alloc (B_alloc (Below.refl w.heap.size w) (.cells #[i, j] 97)) (.cells #[.bool false, .int .i64 0] 24))
  have XR := Lib.hid (Blk.new' (w := w.alloc (.cells #[i, j] 97)) (cs := #[.bool false, .int .i64 0]) (T := 24) (g := w.heap.size + 1) (by simp))
  have cn := Lib.hid (arith_any i j b1 b2 n1 n2 96 (n1 - n2) _ R rn rc f (hR.on HB.out) hi hj (fun _ _ => fn_minus n1 n2 (M.V.ok_bounds h1) (M.V.ok_bounds h2)))
  clear hR hi hj h1 h2
  obtain ⟨r, hr⟩ : ∃ r, r = (if b1 = true ∨ b2 = true then (⟨true, 0⟩ : M.V) else M.num (n1 - n2)) := ⟨_, rfl⟩
  rw [← hr] at cn
  rw [← hr]
  clear hr
  unfold vv at cn
  go_enter Try.func95, Try.ntmps95
  go_wp2_with fail
  refine cn.out.mono ?_; rintro e w1 ⟨rfl, hb⟩
  have XR1 := Lib.hid (XR.out.below hb)
  have HB1 := Lib.hid (B_more HB.out hb)
  clear hb cn
  have r0 := XR1.out.cell 0 _ rfl
  have r1 := XR1.out.cell 1 _ rfl
  have q0 := XR1.out.free 0
  have q1 := XR1.out.free 1
  dsimp only [List.getElem_toArray, List.getElem_cons_zero, List.getElem_cons_succ] at r0 r1
  go_wp2_with fail
  exact bodyPost_ret (v := vv r) (by simp [results, Try.results95, go_sem, r0, r1, vv]) rfl ⟨rfl, B_set (B_set HB1.out (by simp) _) (by simp) _⟩
theorem fn_times (n1 n2 : Int) (h1 : -9999 ≤ n1 ∧ n1 ≤ 9999) (h2 : -9999 ≤ n2 ∧ n2 ≤ 9999) : Fun2 98 n1 n2 (.int .i64 (n1 * n2)) := by
  obtain ⟨h1a, h1b⟩ := h1
  obtain ⟨h2a, h2b⟩ := h2
  have hm1 : n1 * n2 ≤ 99980001 := by
    have := Int.mul_le_mul_of_nonneg_right h1b (show 0 ≤ n2 + 9999 by omega)
    have := Int.mul_le_mul_of_nonneg_right h1a (show 0 ≤ 9999 - n2 by omega)
    simp only [Int.mul_add, Int.mul_sub] at *
    omega
  have hm2 : -99980001 ≤ n1 * n2 := by
    have := Int.mul_le_mul_of_nonneg_right h1b (show 0 ≤ 9999 - n2 by omega)
    have := Int.mul_le_mul_of_nonneg_right h1a (show 0 ≤ n2 + 9999 by omega)
    simp only [Int.mul_add, Int.mul_sub] at *
    omega
  refine ⟨fun args w => by kernel_rfl, fun w => ?_⟩
  go_enter Try.func98, Try.ntmps98
  go_wp2
  go_ret
  exact ⟨rfl, rfl⟩
set_option maxHeartbeats 1000000 in
set_option maxRecDepth 100000 in
theorem va_times (i j : Value) (b1 b2 : Bool) (n1 n2 : Int) (w : World) (R : Option Addr) (rn rc : Nat) (f : Nat → M.V) (hR : RowAt w w.heap.size R rn f) (hi : Ans R rn rc f i ⟨b1, n1⟩) (hj : Ans R rn rc f j ⟨b2, n2⟩) (h1 : (M.V.mk b1 n1).ok = true) (h2 : (M.V.mk b2 n2).ok = true) :
    Calls Try.prog 97 #[.agg #[i, j], .slice R rn rc] w fun e w' => e = .returned (vv (if b1 = true ∨ b2 = true then ⟨true, 0⟩ else M.num (n1 * n2))) ∧ Below w.heap.size w w' := by
  have HB := Lib.hid (B_alloc (B_alloc (Below.refl w.heap.size w) (.cells #[i, j] 98)) (.cells #[.bool false, .int .i64 0] 24))
  have XR := Lib.hid (Blk.new' (w := w.alloc (.cells #[i, j] 98)) (cs := #[.bool false, .int .i64 0]) (T := 24) (g := w.heap.size + 1) (by simp))
  have cn := Lib.hid (arith_any i j b1 b2 n1 n2 98 (n1 * n2) _ R rn rc f (hR.on HB.out) hi hj (fun _ _ => fn_times n1 n2 (M.V.ok_bounds h1) (M.V.ok_bounds h2)))
  clear hR hi hj h1 h2
  obtain ⟨r, hr⟩ : ∃ r, r = (if b1 = true ∨ b2 = true then (⟨true, 0⟩ : M.V) else M.num (n1 * n2)) := ⟨_, rfl⟩
  rw [← hr] at cn
  rw [← hr]
  clear hr
  unfold vv at cn
  go_enter Try.func97, Try.ntmps97
  go_wp2_with fail
  refine cn.out.mono ?_; rintro e w1 ⟨rfl, hb⟩
  have XR1 := Lib.hid (XR.out.below hb)
  have HB1 := Lib.hid (B_more HB.out hb)
  clear hb cn
  have r0 := XR1.out.cell 0 _ rfl
  have r1 := XR1.out.cell 1 _ rfl
  have q0 := XR1.out.free 0
  have q1 := XR1.out.free 1
  dsimp only [List.getElem_toArray, List.getElem_cons_zero, List.getElem_cons_succ] at r0 r1
  go_wp2_with fail
  exact bodyPost_ret (v := vv r) (by simp [results, Try.results97, go_sem, r0, r1, vv]) rfl ⟨rfl, B_set (B_set HB1.out (by simp) _) (by simp) _⟩
theorem fn_equal (n1 n2 : Int) (h1 : -9999 ≤ n1 ∧ n1 ≤ 9999) (h2 : -9999 ≤ n2 ∧ n2 ≤ 9999) : Fun2 101 n1 n2 (.bool (n1 == n2)) := by
  obtain ⟨h1a, h1b⟩ := h1
  obtain ⟨h2a, h2b⟩ := h2
  refine ⟨fun args w => by kernel_rfl, fun w => ?_⟩
  go_enter Try.func101, Try.ntmps101
  go_wp2
  go_ret
  exact ⟨rfl, rfl⟩
set_option maxHeartbeats 1000000 in
set_option maxRecDepth 100000 in
theorem va_equal (i j : Value) (b1 b2 : Bool) (n1 n2 : Int) (w : World) (R : Option Addr) (rn rc : Nat) (f : Nat → M.V) (hR : RowAt w w.heap.size R rn f) (hi : Ans R rn rc f i ⟨b1, n1⟩) (hj : Ans R rn rc f j ⟨b2, n2⟩) (h1 : (M.V.mk b1 n1).ok = true) (h2 : (M.V.mk b2 n2).ok = true) :
    Calls Try.prog 99 #[.agg #[i, j], .slice R rn rc] w fun e w' => e = .returned (vv (if b1 = true ∨ b2 = true then ⟨true, 0⟩ else ⟨false, M.oneIf (n1 == n2)⟩)) ∧ Below w.heap.size w w' := by
  have HB := Lib.hid (B_alloc (B_alloc (Below.refl w.heap.size w) (.cells #[i, j] 99)) (.cells #[.bool false, .int .i64 0] 24))
  have XR := Lib.hid (Blk.new' (w := w.alloc (.cells #[i, j] 99)) (cs := #[.bool false, .int .i64 0]) (T := 24) (g := w.heap.size + 1) (by simp))
  have cn := Lib.hid (compare2_any i j b1 b2 n1 n2 101 (n1 == n2) _ R rn rc f (hR.on HB.out) hi hj (fun _ _ => fn_equal n1 n2 (M.V.ok_bounds h1) (M.V.ok_bounds h2)))
  clear hR hi hj h1 h2
  obtain ⟨r, hr⟩ : ∃ r, r = (if b1 = true ∨ b2 = true then (⟨true, 0⟩ : M.V) else ⟨false, M.oneIf (n1 == n2)⟩) := ⟨_, rfl⟩
  rw [← hr] at cn
  rw [← hr]
  clear hr
  unfold vv at cn
  go_enter Try.func99, Try.ntmps99
  go_wp2_with fail
  refine cn.out.mono ?_; rintro e w1 ⟨rfl, hb⟩
  have XR1 := Lib.hid (XR.out.below hb)
  have HB1 := Lib.hid (B_more HB.out hb)
  clear hb cn
  have r0 := XR1.out.cell 0 _ rfl
  have r1 := XR1.out.cell 1 _ rfl
  have q0 := XR1.out.free 0
  have q1 := XR1.out.free 1
  dsimp only [List.getElem_toArray, List.getElem_cons_zero, List.getElem_cons_succ] at r0 r1
  go_wp2_with fail
  exact bodyPost_ret (v := vv r) (by simp [results, Try.results99, go_sem, r0, r1, vv]) rfl ⟨rfl, B_set (B_set HB1.out (by simp) _) (by simp) _⟩
theorem fn_less (n1 n2 : Int) (h1 : -9999 ≤ n1 ∧ n1 ≤ 9999) (h2 : -9999 ≤ n2 ∧ n2 ≤ 9999) : Fun2 103 n1 n2 (.bool (decide (n1 < n2))) := by
  obtain ⟨h1a, h1b⟩ := h1
  obtain ⟨h2a, h2b⟩ := h2
  refine ⟨fun args w => by kernel_rfl, fun w => ?_⟩
  go_enter Try.func103, Try.ntmps103
  go_wp2
  go_ret
  exact ⟨rfl, rfl⟩
set_option maxHeartbeats 1000000 in
set_option maxRecDepth 100000 in
theorem va_less (i j : Value) (b1 b2 : Bool) (n1 n2 : Int) (w : World) (R : Option Addr) (rn rc : Nat) (f : Nat → M.V) (hR : RowAt w w.heap.size R rn f) (hi : Ans R rn rc f i ⟨b1, n1⟩) (hj : Ans R rn rc f j ⟨b2, n2⟩) (h1 : (M.V.mk b1 n1).ok = true) (h2 : (M.V.mk b2 n2).ok = true) :
    Calls Try.prog 102 #[.agg #[i, j], .slice R rn rc] w fun e w' => e = .returned (vv (if b1 = true ∨ b2 = true then ⟨true, 0⟩ else ⟨false, M.oneIf (decide (n1 < n2))⟩)) ∧ Below w.heap.size w w' := by
  have HB := Lib.hid (B_alloc (B_alloc (Below.refl w.heap.size w) (.cells #[i, j] 100)) (.cells #[.bool false, .int .i64 0] 24))
  have XR := Lib.hid (Blk.new' (w := w.alloc (.cells #[i, j] 100)) (cs := #[.bool false, .int .i64 0]) (T := 24) (g := w.heap.size + 1) (by simp))
  have cn := Lib.hid (compare2_any i j b1 b2 n1 n2 103 (decide (n1 < n2)) _ R rn rc f (hR.on HB.out) hi hj (fun _ _ => fn_less n1 n2 (M.V.ok_bounds h1) (M.V.ok_bounds h2)))
  clear hR hi hj h1 h2
  obtain ⟨r, hr⟩ : ∃ r, r = (if b1 = true ∨ b2 = true then (⟨true, 0⟩ : M.V) else ⟨false, M.oneIf (decide (n1 < n2))⟩) := ⟨_, rfl⟩
  rw [← hr] at cn
  rw [← hr]
  clear hr
  unfold vv at cn
  go_enter Try.func102, Try.ntmps102
  go_wp2_with fail
  refine cn.out.mono ?_; rintro e w1 ⟨rfl, hb⟩
  have XR1 := Lib.hid (XR.out.below hb)
  have HB1 := Lib.hid (B_more HB.out hb)
  clear hb cn
  have r0 := XR1.out.cell 0 _ rfl
  have r1 := XR1.out.cell 1 _ rfl
  have q0 := XR1.out.free 0
  have q1 := XR1.out.free 1
  dsimp only [List.getElem_toArray, List.getElem_cons_zero, List.getElem_cons_succ] at r0 r1
  go_wp2_with fail
  exact bodyPost_ret (v := vv r) (by simp [results, Try.results102, go_sem, r0, r1, vv]) rfl ⟨rfl, B_set (B_set HB1.out (by simp) _) (by simp) _⟩
end Go.Proofs.Ytfbkbppaignofaa

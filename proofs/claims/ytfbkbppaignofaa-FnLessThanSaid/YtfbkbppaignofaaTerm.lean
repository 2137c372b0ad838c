/-
  The terms of the program: the small functions, and what a term answers.
-/
import Derived.Test.YtfbkbppaignofaaEvS
namespace Go.Proofs.Ytfbkbppaignofaa
open Go.RowKit

namespace M
/-- The program's three truths: false 0, unknown 1, true 2. -/
def itru (v : V) : Int := if v.nul = true then 1 else if v.n = 0 then 0 else 2
def ival (t : Int) : V := if t = 0 then ⟨false, 0⟩ else if t = 2 then ⟨false, 1⟩ else ⟨true, 0⟩
theorem itru_three (v : V) : itru v = 0 ∨ itru v = 1 ∨ itru v = 2 := by
  unfold itru
  repeat' split
  all_goals omega
theorem itru_tru (v : V) : (itru v = 0 ∧ tru v = 0) ∨ (itru v = 1 ∧ tru v = 2) ∨ (itru v = 2 ∧ tru v = 1) := by
  unfold itru tru
  repeat' split
  all_goals omega
theorem ival_not (v : V) : ival (2 - itru v) = ofT (notT (tru v)) := by
  rcases itru_tru v with ⟨h, k⟩ | ⟨h, k⟩ | ⟨h, k⟩ <;> rw [h, k] <;> decide
theorem ival_min (u v : V) : ival (min (itru u) (itru v)) = ofT (andT (tru u) (tru v)) := by
  rcases itru_tru u with ⟨h, k⟩ | ⟨h, k⟩ | ⟨h, k⟩ <;> rcases itru_tru v with ⟨h', k'⟩ | ⟨h', k'⟩ | ⟨h', k'⟩ <;> rw [h, k, h', k'] <;> decide
theorem ival_max (u v : V) : ival (max (itru u) (itru v)) = ofT (notT (andT (notT (tru u)) (notT (tru v)))) := by
  rcases itru_tru u with ⟨h, k⟩ | ⟨h, k⟩ | ⟨h, k⟩ <;> rcases itru_tru v with ⟨h', k'⟩ | ⟨h', k'⟩ | ⟨h', k'⟩ <;> rw [h, k, h', k'] <;> decide
def ofB (p : Bool) : Int := if p = true then 2 else 0
theorem ival_ofB (p : Bool) : ival (ofB p) = ⟨false, oneIf p⟩ := by cases p <;> decide
end M

theorem itruth_any (b : Bool) (n : Int) (w : World) :
    Calls Try.prog 85 #[.agg #[.bool b, .int .i64 n]] w fun e w' => e = .returned (.int .i64 (M.itru ⟨b, n⟩)) ∧ Below w.heap.size w w' := by
  cases b
  · by_cases h : n = 0
    · subst h
      go_enter Try.func85, Try.ntmps85
      go_wp2
      go_ret
      exact ⟨rfl, (Below.refl _ _).alloc (Nat.le_refl _) _⟩
    · have hT := Lib.hid (show M.itru ⟨false, n⟩ = 2 by unfold M.itru; simp [h])
      go_enter Try.func85, Try.ntmps85
      go_wp2
      go_ret
      exact ⟨ret_int hT.out.symm, (Below.refl _ _).alloc (Nat.le_refl _) _⟩
  · go_enter Try.func85, Try.ntmps85
    go_wp2
    go_ret
    exact ⟨rfl, (Below.refl _ _).alloc (Nat.le_refl _) _⟩

theorem inot_any (t : Int) (ht : t = 0 ∨ t = 1 ∨ t = 2) (w : World) :
    Calls Try.prog 86 #[.int .i64 t] w fun e w' => e = .returned (.int .i64 (2 - t)) ∧ w = w' := by
  rcases ht with rfl | rfl | rfl
  all_goals
    go_enter Try.func86, Try.ntmps86
    go_wp2
    go_ret
    exact ⟨rfl, rfl⟩

theorem ivalue_any (t : Int) (ht : t = 0 ∨ t = 1 ∨ t = 2) (w : World) :
    Calls Try.prog 87 #[.int .i64 t] w fun e w' => e = .returned (vv (M.ival t)) ∧ Below w.heap.size w w' := by
  rcases ht with rfl | rfl | rfl
  · go_enter Try.func87, Try.ntmps87
    go_wp2
    exact bodyPost_ret (v := .agg #[.bool false, .int .i64 0]) (by simp [results, Try.results87, go_sem]) rfl ⟨rfl, (Below.refl _ _).alloc (Nat.le_refl _) _⟩
  · go_enter Try.func87, Try.ntmps87
    go_wp2
    exact bodyPost_ret (v := .agg #[.bool true, .int .i64 0]) (by simp [results, Try.results87, go_sem]) rfl ⟨rfl, (Below.refl _ _).alloc (Nat.le_refl _) _⟩
  · go_enter Try.func87, Try.ntmps87
    go_wp2
    exact bodyPost_ret (v := .agg #[.bool false, .int .i64 1]) (by simp [results, Try.results87, go_sem]) rfl ⟨rfl, (Below.refl _ _).alloc (Nat.le_refl _) _⟩

theorem truthOf_any (p : Bool) (w : World) :
    Calls Try.prog 89 #[.bool p] w fun e w' => e = .returned (.int .i64 (M.ofB p)) ∧ w = w' := by
  cases p
  all_goals
    go_enter Try.func89, Try.ntmps89
    go_wp2
    go_ret
    exact ⟨rfl, rfl⟩
theorem ofB_three (p : Bool) : M.ofB p = 0 ∨ M.ofB p = 1 ∨ M.ofB p = 2 := by cases p <;> simp [M.ofB]

theorem numberOrNull_any (n : Int) (w : World) :
    Calls Try.prog 94 #[.int .i64 n] w fun e w' => e = .returned (vv (M.num n)) ∧ Below w.heap.size w w' := by
  have HB := Lib.hid (B_alloc (B_alloc (Below.refl w.heap.size w) (.cells #[.bool false, .int .i64 0] 24)) (.cells #[.bool false, .int .i64 n] 24))
  by_cases h : -9999 ≤ n ∧ n ≤ 9999
  · have hT := Lib.hid (show M.num n = ⟨false, n⟩ from if_pos h)
    have cw := Lib.hid (fun w => valid_any false n w)
    rw [show okB false n = true by rw [okB_num]; simp; exact h] at cw
    go_enter Try.func94, Try.ntmps94
    go_wp2_with fail
    refine (cw.out _).mono ?_; rintro e w1 ⟨rfl, hb⟩
    have XR := Lib.hid (((Blk.new' (w := w) (cs := #[.bool false, .int .i64 0]) (T := 24) (g := w.heap.size) rfl).alloc (.cells #[.bool false, .int .i64 n] 24)).below hb)
    have XV := Lib.hid ((Blk.new' (w := w.alloc (.cells #[.bool false, .int .i64 0] 24)) (cs := #[.bool false, .int .i64 n]) (T := 24) (g := w.heap.size + 1) (by simp)).below hb)
    have HB1 := Lib.hid (B_more HB.out hb)
    clear hb
    have r0 := XR.out.cell 0 _ rfl
    have r1 := XR.out.cell 1 _ rfl
    have q0 := XR.out.free 0
    have q1 := XR.out.free 1
    have v0 := XV.out.cell 0 _ rfl
    have v1 := XV.out.cell 1 _ rfl
    dsimp only [List.getElem_toArray, List.getElem_cons_zero, List.getElem_cons_succ] at r0 r1 v0 v1
    go_wp2_with fail
    exact bodyPost_ret (v := .agg #[.bool false, .int .i64 n]) (by simp [results, Try.results94, go_sem, r0, r1]) rfl ⟨ret_V (a := ⟨false, n⟩) hT.out.symm, B_set (B_set HB1.out (by simp) _) (by simp) _⟩
  · have hT := Lib.hid (show M.num n = ⟨true, 0⟩ from if_neg h)
    have cw := Lib.hid (fun w => valid_any false n w)
    rw [show okB false n = false by rw [okB_num]; simp; omega] at cw
    go_enter Try.func94, Try.ntmps94
    go_wp2_with fail
    refine (cw.out _).mono ?_; rintro e w1 ⟨rfl, hb⟩
    have XR := Lib.hid (((Blk.new' (w := w) (cs := #[.bool false, .int .i64 0]) (T := 24) (g := w.heap.size) rfl).alloc (.cells #[.bool false, .int .i64 n] 24)).below hb)
    have HB1 := Lib.hid (B_more HB.out hb)
    clear hb
    have r0 := XR.out.cell 0 _ rfl
    have r1 := XR.out.cell 1 _ rfl
    have q0 := XR.out.free 0
    have q1 := XR.out.free 1
    dsimp only [List.getElem_toArray, List.getElem_cons_zero, List.getElem_cons_succ] at r0 r1
    go_wp2_with fail
    exact bodyPost_ret (v := .agg #[.bool true, .int .i64 0]) (by simp [results, Try.results94, go_sem, r0, r1]) rfl ⟨ret_V (a := ⟨true, 0⟩) hT.out.symm, B_set (B_set HB1.out (by simp) _) (by simp) _⟩

/-- An interface value whose method answers x over the row f. -/
def Ans (R : Option Addr) (rn rc : Nat) (f : Nat → M.V) (i : Value) (x : M.V) : Prop :=
  ∃ (T : TypeId) (u : Value) (g : Nat), i = .iface T u ∧ (∀ w, (nilAhead 232 T u "loop.example/queryoptimizer/impl.value").run Try.prog w = .ok (some false) w) ∧ (∀ w, (method 232 T u "loop.example/queryoptimizer/impl.value").run Try.prog w = .ok (g, u) w) ∧
    (∀ args w, (callFunc g args).run Try.prog w = .ok (.enter g args) w) ∧ ∀ w, RowAt w w.heap.size R rn f → Calls Try.prog g #[u, .slice R rn rc] w fun e w' => e = .returned (.agg #[.bool x.nul, .int .i64 x.n]) ∧ Below w.heap.size w w'

theorem va_not (i : Value) (x : M.V) (w : World) (R : Option Addr) (rn rc : Nat) (f : Nat → M.V) (hR : RowAt w w.heap.size R rn f) (hi : Ans R rn rc f i x) :
    Calls Try.prog 84 #[.agg #[i], .slice R rn rc] w fun e w' => e = .returned (vv (M.ofT (M.notT (M.tru x)))) ∧ Below w.heap.size w w' := by
  obtain ⟨T, u, g, rfl, hn, hm, hg, hc⟩ := hi
  have HB := Lib.hid (B_alloc (B_alloc (Below.refl w.heap.size w) (.cells #[.iface T u] 85)) (.cells #[.bool false, .int .i64 0] 24))
  have XR := Lib.hid (Blk.new' (w := w.alloc (.cells #[.iface T u] 85)) (cs := #[.bool false, .int .i64 0]) (T := 24) (g := w.heap.size + 1) (by simp))
  have HR := Lib.hid (hR.on HB.out)
  have HC := Lib.hid hc
  clear hR hc
  go_enter Try.func84, Try.ntmps84
  go_wp2_with fail
  refine (HC.out _ HR.out).mono ?_; rintro e w1 ⟨rfl, hb⟩
  have XR1 := Lib.hid (XR.out.below hb)
  have HB1 := Lib.hid (B_more HB.out hb)
  clear hb
  go_wp2_with fail
  refine (itruth_any _ _ _).mono ?_; rintro e w2 ⟨rfl, hb⟩
  have XR2 := Lib.hid (XR1.out.below hb)
  have HB2 := Lib.hid (B_more HB1.out hb)
  clear hb
  have h3 := Lib.hid (M.itru_three x)
  go_wp2_with fail
  refine (inot_any _ h3.out _).mono ?_; rintro e w2' ⟨rfl, rfl⟩
  go_wp2_with fail
  refine (ivalue_any _ (by have := h3.out; change M.itru x = 0 ∨ M.itru x = 1 ∨ M.itru x = 2 at this; change 2 - M.itru x = 0 ∨ 2 - M.itru x = 1 ∨ 2 - M.itru x = 2; omega) _).mono ?_; rintro e w3 ⟨rfl, hb⟩
  have XR3 := Lib.hid (XR2.out.below hb)
  have HB3 := Lib.hid (B_more HB2.out hb)
  clear hb
  have r0 := XR3.out.cell 0 _ rfl
  have r1 := XR3.out.cell 1 _ rfl
  have q0 := XR3.out.free 0
  have q1 := XR3.out.free 1
  dsimp only [List.getElem_toArray, List.getElem_cons_zero, List.getElem_cons_succ] at r0 r1
  unfold vv
  go_wp2_with fail
  exact bodyPost_ret (v := vv (M.ival (2 - M.itru x))) (by simp [results, Try.results84, go_sem, r0, r1, vv]) rfl ⟨ret_V (M.ival_not x), B_set (B_set HB3.out (by simp) _) (by simp) _⟩

theorem va_null (i : Value) (x : M.V) (w : World) (R : Option Addr) (rn rc : Nat) (f : Nat → M.V) (hR : RowAt w w.heap.size R rn f) (hi : Ans R rn rc f i x) :
    Calls Try.prog 88 #[.agg #[i], .slice R rn rc] w fun e w' => e = .returned (vv ⟨false, M.oneIf x.nul⟩) ∧ Below w.heap.size w w' := by
  obtain ⟨T, u, g, rfl, hn, hm, hg, hc⟩ := hi
  have hfl : ∀ (b : Bool) (n : Int) (w : World), (Instr.field 24 (.agg #[.bool b, .int .i64 n]) 0).run Try.prog w = .ok (.bool b) w := fun b n w => by kernel_rfl
  have HB := Lib.hid (B_alloc (B_alloc (Below.refl w.heap.size w) (.cells #[.iface T u] 86)) (.cells #[.bool false, .int .i64 0] 24))
  have XR := Lib.hid (Blk.new' (w := w.alloc (.cells #[.iface T u] 86)) (cs := #[.bool false, .int .i64 0]) (T := 24) (g := w.heap.size + 1) (by simp))
  have HR := Lib.hid (hR.on HB.out)
  have HC := Lib.hid hc
  clear hR hc
  go_enter Try.func88, Try.ntmps88
  go_wp2_with fail
  refine (HC.out _ HR.out).mono ?_; rintro e w1 ⟨rfl, hb⟩
  have XR1 := Lib.hid (XR.out.below hb)
  have HB1 := Lib.hid (B_more HB.out hb)
  clear hb
  go_wp2_with fail
  refine (truthOf_any _ _).mono ?_; rintro e w2 ⟨rfl, rfl⟩
  go_wp2_with fail
  refine (ivalue_any _ (ofB_three _) _).mono ?_; rintro e w3 ⟨rfl, hb⟩
  have XR3 := Lib.hid (XR1.out.below hb)
  have HB3 := Lib.hid (B_more HB1.out hb)
  clear hb
  have r0 := XR3.out.cell 0 _ rfl
  have r1 := XR3.out.cell 1 _ rfl
  have q0 := XR3.out.free 0
  have q1 := XR3.out.free 1
  dsimp only [List.getElem_toArray, List.getElem_cons_zero, List.getElem_cons_succ] at r0 r1
  unfold vv
  go_wp2_with fail
  exact bodyPost_ret (v := vv (M.ival (M.ofB x.nul))) (by simp [results, Try.results88, go_sem, r0, r1, vv]) rfl ⟨ret_V (M.ival_ofB _), B_set (B_set HB3.out (by simp) _) (by simp) _⟩

theorem va_con (b : Bool) (n : Int) (w : World) (R : Option Addr) (rn rc : Nat) :
    Calls Try.prog 83 #[.agg #[.bool b, .int .i64 n], .slice R rn rc] w fun e w' => e = .returned (vv ⟨b, n⟩) ∧ Below w.heap.size w w' := by
  go_enter Try.func83, Try.ntmps83
  go_wp2_with fail
  exact bodyPost_ret (v := vv ⟨b, n⟩) (by simp [results, Try.results83, go_sem, vv]) rfl ⟨rfl, B_alloc (B_alloc (Below.refl _ _) _) _⟩
theorem va_col (j : Nat) (w : World) (R : Option Addr) (rn rc : Nat) (f : Nat → M.V) (hR : RowAt w w.heap.size R rn f) (hrn : rn ≤ 6) (hj : j < rn) :
    Calls Try.prog 82 #[.agg #[.int .i64 (j : Int)], .slice R rn rc] w fun e w' => e = .returned (vv (f j)) ∧ Below w.heap.size w w' := by
  have HB := Lib.hid (B_alloc (B_alloc (Below.refl w.heap.size w) (.cells #[.int .i64 (j : Int)] 81)) (.cells #[.bool false, .int .i64 0] 24))
  obtain ⟨bb, o, rfl, hbb, hcell⟩ := hR.on HB.out (by omega)
  obtain ⟨y0, y1⟩ := hcell j hj
  clear hcell
  go_enter Try.func82, Try.ntmps82
  go_wp2_with fail
  exact bodyPost_ret (v := vv (f j)) (by simp [results, Try.results82, go_sem, vv]) rfl ⟨rfl, B_alloc (B_alloc (Below.refl _ _) _) _⟩

end Go.Proofs.Ytfbkbppaignofaa

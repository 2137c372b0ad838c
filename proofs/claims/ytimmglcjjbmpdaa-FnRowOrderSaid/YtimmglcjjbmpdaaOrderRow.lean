/-
  The walk of the law that rows are totally ordered.
-/
import Derived.Test.YtimmglcjjbmpdaaDrawRow
import Derived.Test.YtimmglcjjbmpdaaLineB
import Derived.Test.YtimmglcjjbmpdaaOrder
import Derived.Deep.QuietTactic
import Derived.BigQuiet
namespace Go.Proofs.Ytimmglcjjbmpdaa
open Go.RowKit

def TwoRows (w : World) (e : Ending) (w' : World) : Prop :=
  ∃ A n c f A' n' c' f', e = .returned (.tuple #[.slice A n c, .slice A' n' c']) ∧ n ≤ 7 ∧ n' ≤ 7 ∧ RowAt w' w'.heap.size A n f ∧ RowAt w' w'.heap.size A' n' f' ∧ Below w.heap.size w w'

set_option maxHeartbeats 800000 in
theorem DrawCompareRows_any (w : World) (a : Option Addr) (len cap : Nat) (zs : List Int) (h : IsRow .u8 w a len cap zs) :
    Calls Try.prog 20 #[.slice a len cap] w (TwoRows w) := by
  have hh := Lib.hid h
  clear h
  go_enter Try.func20, Try.ntmps20
  go_wp2_with fail
  refine (newReader_any w a len cap zs w.heap.size (Nat.le_refl _) hh.out hh.out.lt).mono ?_
  rintro e w1 ⟨rb, rfl, hr1, hrb, hb1⟩
  have HR1 := Lib.hid hr1
  have HB1 := Lib.hid hb1
  have hrb2 : w.heap.size ≤ rb := Nat.le_of_eq hrb.symm
  clear hr1 hb1 hrb hh
  go_wp2_with fail
  refine (pick_any w1 w.heap.size rb 0 3 (by omega) (by omega) (by omega) HR1.out).mono ?_
  rintro e w2 ⟨x, rfl, hx0, hx1, _, hr2, hg2⟩
  have hx1 := hx1 (by omega)
  obtain ⟨m, rfl⟩ := Int.eq_ofNat_of_zero_le hx0
  have HR2 := Lib.hid hr2
  have HB2 := Lib.hid (below_of_grown HB1.out hrb2 hg2)
  clear hr2 hg2
  go_wp2_with fail
  refine (anyRow_int w2 w.heap.size rb (0 + 1) (m + 1) _ (by omega) (by omega) (by omega) (by omega) HR2.out).mono ?_
  rintro e w3 ⟨A, n, c, f, rfl, hAc, hn, hI, hr3, hg3⟩
  have HR3 := Lib.hid hr3
  have HB3 := Lib.hid (below_of_grown HB2.out hrb2 hg3)
  have HI3 := Lib.hid hI
  have HAc := Lib.hid hAc
  clear hr3 hg3 hI hAc
  go_wp2_with fail
  refine (pick_any w3 w.heap.size rb _ 4 (by omega) (by omega) (by omega) HR3.out).mono ?_
  rintro e w4 ⟨y, rfl, hy0, hy1, _, hr4, hg4⟩
  have HR4 := Lib.hid hr4
  have HB4 := Lib.hid (below_of_grown HB3.out hrb2 hg4)
  have HI4 := Lib.hid (HI3.out.grown hg4)
  clear hr4 hg4
  by_cases h0 : y = 0
  · subst h0
    go_wp2_with fail
    refine (copyRow_any w4 A n c f HI4.out.at_ HAc.out (by omega)).mono ?_
    rintro e w5 ⟨A', c', rfl, _, hA5, hb5⟩
    have HH := Lib.hid (show TwoRows w (.returned (.tuple #[.slice A n c, .slice A' n c'])) w5 from ⟨A, n, c, f, A', n, c', f, rfl, hn, hn, HI4.out.at_.on hb5, hA5, B_more HB4.out hb5⟩)
    clear hA5 hb5
    go_wp2_with fail
    go_ret2
    exact HH.out
  · go_wp2_with fail
    refine (anyRow_int w4 w.heap.size rb _ (m + 1) _ (by omega) (by omega) (by omega) (by omega) HR4.out).mono ?_
    rintro e w5 ⟨A', n', c', f', rfl, _, hn', hI', hr5, hg5⟩
    have HH := Lib.hid (show TwoRows w (.returned (.tuple #[.slice A n c, .slice A' n' c'])) w5 from ⟨A, n, c, f, A', n', c', f', rfl, hn, hn', (HI4.out.grown hg5).at_, hI'.at_, below_of_grown HB4.out hrb2 hg5⟩)
    clear hI' hr5 hg5
    go_wp2_with fail
    go_ret2
    exact HH.out

theorem equalRows_any (w : World) (A A' : Option Addr) (n m c c' : Nat) (f g : Nat → M.V) (hA : RowAt w w.heap.size A n f) (hA' : RowAt w w.heap.size A' m g) (hn : n ≤ 2000000) (hm : m ≤ 2000000) :
    Calls Try.prog 23 #[.slice A n c, .slice A' m c'] w fun e w' => e = .returned (.bool (decide (n = m) && eqRow n f g)) ∧ Below w.heap.size w w' := by
  by_cases hnm : n = m
  · subst hnm
    have H1 := Lib.hid hA
    have H2 := Lib.hid hA'
    clear hA hA'
    go_enter Try.func23, Try.ntmps23
    go_wp2_with fail
    go_loopw [5] (fun i wr => ∃ k : Nat, k ≤ n ∧ i = .int .i64 k ∧ (∀ j, j < k → f j = g j) ∧ Below w.heap.size w wr) (fun i _ => n - (intOf i).toNat)
    case atStart => exact ⟨0, by omega, rfl, fun j hj => absurd hj (by omega), Below.refl _ _⟩
    case round =>
      obtain ⟨k, hk, rfl, heq, hB⟩ := hrel
      by_cases hlt : k < n
      · obtain ⟨b, o, rfl, hb, hc⟩ := (H1.out.below hB) (by omega)
        obtain ⟨b', o', rfl, hb', hc'⟩ := (H2.out.below hB) (by omega)
        obtain ⟨x0, x1⟩ := hc k hlt
        obtain ⟨y0, y1⟩ := hc' k hlt
        have HQ := Lib.hid heq
        have HB := Lib.hid hB
        clear heq hB hc hc'
        have hk0 : (0 : Int) ≤ (k : Int) := by omega
        have hk1 : (k : Int) < (n : Int) := by omega
        obtain ⟨⟨b1, n1⟩, hu⟩ : ∃ u : M.V, u = f k := ⟨_, rfl⟩
        obtain ⟨⟨b2, n2⟩, hv⟩ : ∃ v : M.V, v = g k := ⟨_, rfl⟩
        rw [← hu] at x0 x1
        rw [← hv] at y0 y1
        dsimp only at x0 x1 y0 y1
        by_cases hbb : b1 = b2
        · subst hbb
          by_cases hnn : n1 = n2
          · subst hnn
            have HF := Lib.hid (hu.symm.trans hv)
            clear hu hv
            go_wp2_with fail
            go_quiet (fail)
            go_wp2_with fail
            have HN : ∀ j, j < k + 1 → f j = g j := fun j hj => by
              by_cases hjk : j = k
              · subst hjk; exact HF.out
              · exact HQ.out j (by omega)
            refine ⟨?_, by simp [intOf]; omega⟩
            first
              | exact ⟨k + 1, by omega, by go_num, HN, B_drewN HB.out _⟩
              | ((repeat apply Exists.intro); exact ⟨⟨k + 1, by omega, by go_num, HN, B_drewN HB.out _⟩, rfl⟩)
          · have HF := Lib.hid (show ¬ f k = g k by rw [← hu, ← hv]; intro e; injection e with _ e2; exact hnn e2)
            have hq : (n1 == n2) = false := by simpa using hnn
            clear hu hv hnn
            go_wp2_with fail
            go_quiet (fail)
            go_wp2_with fail
            go_ret
            exact ⟨ret_bool (by simp [eqRow]; exact ⟨k, hlt, HF.out⟩), B_drewN HB.out _⟩
        · have HF := Lib.hid (show ¬ f k = g k by rw [← hu, ← hv]; intro e; injection e with e1 _; exact hbb e1)
          clear hu hv
          cases b1 <;> cases b2
          · exact absurd rfl hbb
          · clear hbb
            go_wp2_with fail
            go_quiet (fail)
            go_wp2_with fail
            go_ret
            exact ⟨ret_bool (by simp [eqRow]; exact ⟨k, hlt, HF.out⟩), B_drewN HB.out _⟩
          · clear hbb
            go_wp2_with fail
            go_quiet (fail)
            go_wp2_with fail
            go_ret
            exact ⟨ret_bool (by simp [eqRow]; exact ⟨k, hlt, HF.out⟩), B_drewN HB.out _⟩
          · exact absurd rfl hbb
      · have HQ := Lib.hid heq
        have HB := Lib.hid hB
        clear heq hB
        go_wp2_with fail
        go_ret
        exact ⟨ret_bool (by simp [eqRow]; exact fun i hi => HQ.out i (by omega)), HB.out⟩
  · have hd : decide ((n : Int) = (m : Int)) = false := by simpa using (by omega : ¬ (n : Int) = (m : Int))
    clear hA hA'
    go_enter Try.func23, Try.ntmps23
    go_wp2_with fail
    go_ret
    exact ⟨ret_bool (by simp [hnm]), Below.refl _ _⟩

theorem cmp_zero {u v : M.V} : u.cmp v = 0 ↔ u = v := by
  unfold M.V.cmp
  constructor
  · intro h
    by_cases e : u = v
    · exact e
    · rw [if_neg e] at h
      split at h <;> omega
  · intro h
    rw [if_pos h]
theorem cmp_ok {u v : M.V} (hu : u.ok = true) (hv : v.ok = true) : M.cmpVals u v = u.cmp v := by
  unfold M.cmpVals
  rw [if_pos ⟨hu, hv⟩]
theorem cmp_three (u v : M.V) : u.cmp v = 0 ∨ u.cmp v = 1 ∨ u.cmp v = -1 := by
  unfold M.V.cmp
  split
  · exact .inl rfl
  · split
    · exact .inr (.inr rfl)
    · exact .inr (.inl rfl)
theorem cmp_neg {u v : M.V} (hu : u.ok = true) (hv : v.ok = true) : v.cmp u = -u.cmp v := by
  have h := cmp_ways u.nul u.n v.nul v.n
  rw [show M.cmpVals ⟨u.nul, u.n⟩ ⟨v.nul, v.n⟩ = u.cmp v from cmp_ok hu hv, show M.cmpVals ⟨v.nul, v.n⟩ ⟨u.nul, u.n⟩ = v.cmp u from cmp_ok hv hu] at h
  have h3 := cmp_three u v
  rcases h with h | ⟨h1, h2, _⟩ | ⟨h1, h2, _⟩ | ⟨h1, h2, _⟩ <;> omega

theorem lex_three (f g : Nat → M.V) : ∀ m k, lexFrom f g m k = 0 ∨ lexFrom f g m k = 1 ∨ lexFrom f g m k = -1
  | 0, _ => .inl rfl
  | m + 1, k => by
    unfold lexFrom
    split
    · exact lex_three f g m (k + 1)
    · exact cmp_three _ _
theorem lex_neg (f g : Nat → M.V) : ∀ m k, (∀ i, i < k + m → (f i).ok = true) → (∀ i, i < k + m → (g i).ok = true) → lexFrom g f m k = -lexFrom f g m k
  | 0, _, _, _ => rfl
  | m + 1, k, hf, hg => by
    have e := cmp_neg (hf k (by omega)) (hg k (by omega))
    unfold lexFrom
    rw [e]
    by_cases h : (f k).cmp (g k) = 0
    · rw [if_pos (by omega), if_pos h]
      exact lex_neg f g m (k + 1) (fun i hi => hf i (by omega)) (fun i hi => hg i (by omega))
    · rw [if_neg (by omega), if_neg h]
theorem lex_zero (f g : Nat → M.V) : ∀ m k, lexFrom f g m k = 0 ↔ ∀ i, k ≤ i → i < k + m → f i = g i
  | 0, k => ⟨fun _ i h1 h2 => absurd h2 (by omega), fun _ => rfl⟩
  | m + 1, k => by
    unfold lexFrom
    by_cases h : (f k).cmp (g k) = 0
    · rw [if_pos h, lex_zero f g m (k + 1)]
      constructor
      · intro hh i h1 h2
        by_cases hik : i = k
        · subst hik; exact cmp_zero.1 h
        · exact hh i (by omega) (by omega)
      · intro hh i h1 h2
        exact hh i (by omega) (by omega)
    · rw [if_neg h]
      constructor
      · intro hh; exact absurd hh h
      · intro hh; exact absurd (cmp_zero.2 (hh k (Nat.le_refl _) (by omega))) h
theorem lex_first (f g : Nat → M.V) (m k : Nat) : (f k).cmp (g k) = 0 ∨ lexFrom f g (m + 1) k = (f k).cmp (g k) := by
  by_cases h : (f k).cmp (g k) = 0
  · exact .inl h
  · right
    unfold lexFrom
    rw [if_neg h]

/-- The ways in which two rows compare. -/
theorem row_ways (n m : Nat) (f g : Nat → M.V) :
    (cmpRows n m f g = 2) ∨ (n = m ∧ 0 < n ∧ cmpRows n m f g = 0 ∧ cmpRows m n g f = 0 ∧ M.cmpVals (f 0) (g 0) = 0 ∧ (decide (n = m) && eqRow n f g) = true) ∨
    (n = m ∧ 0 < n ∧ cmpRows n m f g = 1 ∧ cmpRows m n g f = -1 ∧ (M.cmpVals (f 0) (g 0) = 0 ∨ M.cmpVals (f 0) (g 0) = 1) ∧ (decide (n = m) && eqRow n f g) = false) ∨
    (n = m ∧ 0 < n ∧ cmpRows n m f g = -1 ∧ cmpRows m n g f = 1 ∧ (M.cmpVals (f 0) (g 0) = 0 ∨ M.cmpVals (f 0) (g 0) = -1) ∧ (decide (n = m) && eqRow n f g) = false) := by
  by_cases h : okRow n f = true ∧ okRow m g = true ∧ n = m
  · obtain ⟨h1, h2, rfl⟩ := h
    have e1 : cmpRows n n f g = lexFrom f g n 0 := by unfold cmpRows; rw [if_pos ⟨h1, h2, rfl⟩]
    have e2 : cmpRows n n g f = lexFrom g f n 0 := by unfold cmpRows; rw [if_pos ⟨h2, h1, rfl⟩]
    have e3 := lex_neg f g n 0 (fun i hi => okRow_all h1 i (by omega)) (fun i hi => okRow_all h2 i (by omega))
    have hn : 1 ≤ n := (of_decide_eq_true h1).1
    have e4 := cmp_ok (okRow_all h1 0 (by omega)) (okRow_all h2 0 (by omega))
    have e5 : (f 0).cmp (g 0) = 0 ∨ lexFrom f g n 0 = (f 0).cmp (g 0) := by
      obtain ⟨k, rfl⟩ : ∃ k, n = k + 1 := ⟨n - 1, by omega⟩
      exact lex_first f g k 0
    have e6 : eqRow n f g = true ↔ lexFrom f g n 0 = 0 := by
      rw [lex_zero]
      unfold eqRow
      rw [decide_eq_true_eq]
      exact ⟨fun h i _ hi => h i (by omega), fun h i hi => h i (Nat.zero_le _) (by omega)⟩
    rw [e1, e2, e3, e4]
    rcases lex_three f g n 0 with hx | hx | hx
    · refine .inr (.inl ⟨rfl, hn, hx, by omega, ?_, by rw [e6.2 hx]; simp⟩)
      rcases e5 with e5 | e5 <;> omega
    · refine .inr (.inr (.inl ⟨rfl, hn, hx, by omega, ?_, ?_⟩))
      · rcases e5 with e5 | e5 <;> omega
      · have e7 : eqRow n f g = false := Bool.eq_false_iff.2 (fun h => by have := e6.1 h; omega)
        rw [e7]; simp
    · refine .inr (.inr (.inr ⟨rfl, hn, hx, by omega, ?_, ?_⟩))
      · rcases e5 with e5 | e5 <;> omega
      · have e7 : eqRow n f g = false := Bool.eq_false_iff.2 (fun h => by have := e6.1 h; omega)
        rw [e7]; simp
  · left
    unfold cmpRows
    rw [if_neg h]

theorem CompareRows_lit {w : World} {A A' : Option Addr} {n m c c' : Nat} {f g : Nat → M.V} {x : Int} (hA : RowAt w w.heap.size A n f) (hA' : RowAt w w.heap.size A' m g) (hn : n ≤ 7) (hm : m ≤ 7) (h : cmpRows n m f g = x) :
    Calls Try.prog 21 #[.slice A n c, .slice A' m c'] w fun e w' => e = .returned (.int .i64 x) ∧ Below w.heap.size w w' := by
  subst h
  exact CompareRows_any w A A' n m c c' f g hA hA' (by omega) (by omega)
theorem sCompareRows_lit {w : World} {A A' : Option Addr} {n m c c' : Nat} {f g : Nat → M.V} {x : Int} (hA : RowAt w w.heap.size A n f) (hA' : RowAt w w.heap.size A' m g) (hn : n ≤ 7) (hm : m ≤ 7) (h : cmpRows n m f g = x) :
    Calls Try.prog 22 #[.slice A n c, .slice A' m c'] w fun e w' => e = .returned (.int .i64 x) ∧ Below w.heap.size w w' := by
  subst h
  exact sCompareRows_any w A A' n m c c' f g hA hA' (by omega) (by omega)
theorem equalRows_lit {w : World} {A A' : Option Addr} {n m c c' : Nat} {f g : Nat → M.V} {x : Bool} (hA : RowAt w w.heap.size A n f) (hA' : RowAt w w.heap.size A' m g) (hn : n ≤ 7) (hm : m ≤ 7) (h : (decide (n = m) && eqRow n f g) = x) :
    Calls Try.prog 23 #[.slice A n c, .slice A' m c'] w fun e w' => e = .returned (.bool x) ∧ Below w.heap.size w w' := by
  subst h
  exact equalRows_any w A A' n m c c' f g hA hA' (by omega) (by omega)

set_option maxHeartbeats 1600000 in
theorem walk_FnRowOrder (a : Option Addr) (len cap : Nat) (zs : List Int) (w : World) (h : IsRow .u8 w a len cap zs) :
    Calls Try.prog 4 #[.slice a len cap] w fun e w' => e = .returned (.bool true) ∧ Below w.heap.size w w' := by
  by_cases hl : (1048576 : Int) < (len : Int)
  · go_enter Try.func4, Try.ntmps4
    go_wp2_with fail
    go_ret
    exact ⟨rfl, Below.refl _ _⟩
  · have hh := Lib.hid h
    clear h
    go_enter Try.func4, Try.ntmps4
    go_wp2_with fail
    refine (DrawCompareRows_any w a len cap zs hh.out).mono ?_
    rintro e w1 ⟨A, n, c, f, A', m, c', g, rfl, hn, hm, hA, hA', hb1⟩
    have R1 := Lib.hid hA
    have R2 := Lib.hid hA'
    have HB := Lib.hid hb1
    have HW := Lib.hid (row_ways n m f g)
    clear hA hA' hb1 hh
    go_wp2_with fail
    rcases HW.out with hx | ⟨hnm, hpos, hx, hy, hf, he⟩ | ⟨hnm, hpos, hx, hy, hf, he⟩ | ⟨hnm, hpos, hx, hy, hf, he⟩
    · have HX := Lib.hid hx
      clear hx HW
      refine (CompareRows_lit R1.out R2.out hn hm HX.out).mono ?_; rintro e w2 ⟨rfl, hb⟩
      replace HB := Lib.hid (B_more HB.out hb)
      have P1 := Lib.hid (R1.out.on hb)
      have P2 := Lib.hid (R2.out.on hb)
      clear hb R1 R2
      go_wp2_with fail
      refine (sCompareRows_lit P1.out P2.out hn hm HX.out).mono ?_; rintro e w3 ⟨rfl, hb⟩
      replace HB := Lib.hid (B_more HB.out hb)
      have R1 := Lib.hid (P1.out.on hb)
      have R2 := Lib.hid (P2.out.on hb)
      clear hb P1 P2
      go_wp2_with fail
      refine (sCompareRows_lit R1.out R2.out hn hm HX.out).mono ?_; rintro e w4 ⟨rfl, hb⟩
      replace HB := Lib.hid (B_more HB.out hb)
      clear hb R1 R2
      go_wp2_with fail
      go_ret
      exact ⟨rfl, HB.out⟩
    · skip
      have HX := Lib.hid hx
      have HY := Lib.hid hy
      have HE := Lib.hid he
      have hpos2 : 0 < m := by omega
      clear hx hy he HW hnm
      · have HF := Lib.hid hf
        clear hf
        obtain ⟨b, o, rfl, hb1, hc1⟩ := R1.out hpos
        obtain ⟨b', o', rfl, hb2, hc2⟩ := R2.out hpos2
        have x0 : w1.cell? ⟨b, o, none⟩ = some (.bool (f 0).nul) := by simpa using (hc1 0 hpos).1
        have x1 : w1.cell? ⟨b, o + 1, none⟩ = some (.int .i64 (f 0).n) := by simpa using (hc1 0 hpos).2
        have y0 : w1.cell? ⟨b', o', none⟩ = some (.bool (g 0).nul) := by simpa using (hc2 0 hpos2).1
        have y1 : w1.cell? ⟨b', o' + 1, none⟩ = some (.int .i64 (g 0).n) := by simpa using (hc2 0 hpos2).2
        have K := Lib.hid (fun w => Compare_lit (f 0).nul (f 0).n (g 0).nul (g 0).n _ HF.out w)
        have i1 : (0 : Int) < (n : Int) := by omega
        have i2 : (0 : Int) < (m : Int) := by omega
        clear hc1 hc2
        refine (CompareRows_lit R1.out R2.out hn hm HX.out).mono ?_; rintro e w2 ⟨rfl, hb⟩
        replace HB := Lib.hid (B_more HB.out hb)
        have P1 := Lib.hid (R1.out.on hb)
        have P2 := Lib.hid (R2.out.on hb)
        have X0 := Lib.hid (keep_cell x0 hb)
        have X1 := Lib.hid (keep_cell x1 hb)
        have Y0 := Lib.hid (keep_cell y0 hb)
        have Y1 := Lib.hid (keep_cell y1 hb)
        clear hb R1 R2 x0 x1 y0 y1
        go_wp2_with fail
        refine (sCompareRows_lit P1.out P2.out hn hm HX.out).mono ?_; rintro e w3 ⟨rfl, hb⟩
        replace HB := Lib.hid (B_more HB.out hb)
        have R1 := Lib.hid (P1.out.on hb)
        have R2 := Lib.hid (P2.out.on hb)
        have x0 := keep_cell X0.out hb
        have x1 := keep_cell X1.out hb
        have y0 := keep_cell Y0.out hb
        have y1 := keep_cell Y1.out hb
        clear hb P1 P2 X0 X1 Y0 Y1
        go_wp2_with fail
        go_region_held3 (fun w' => w'.cell? ⟨b, o, none⟩ = some (.bool (f 0).nul) ∧ w'.cell? ⟨b, o + 1, none⟩ = some (.int .i64 (f 0).n) ∧ w'.cell? ⟨b', o', none⟩ = some (.bool (g 0).nul) ∧ w'.cell? ⟨b', o' + 1, none⟩ = some (.int .i64 (g 0).n) ∧ Below w3.heap.size w3 w')
          (first | exact init_four x0 x1 y0 y1 | exact keep_four (by assumption) hb4)
          (first | (go_at_call 18; refine (K.out _).mono ?_; rintro e w4 ⟨rfl, hb4⟩))
        have hS : Below w3.heap.size w3 w4 := (by assumption : _ ∧ _ ∧ _ ∧ _ ∧ Below w3.heap.size w3 w4).2.2.2.2
        replace HB := Lib.hid (B_more HB.out hS)
        have P1 := Lib.hid (R1.out.on hS)
        have P2 := Lib.hid (R2.out.on hS)
        clear hS R1 R2 x0 x1 y0 y1 hb4
        go_wp2_with fail
        refine (CompareRows_lit P2.out P1.out hm hn HY.out).mono ?_; rintro e w5 ⟨rfl, hb⟩
        replace HB := Lib.hid (B_more HB.out hb)
        have R1 := Lib.hid (P1.out.on hb)
        have R2 := Lib.hid (P2.out.on hb)
        clear hb P1 P2
        go_wp2_with fail
        refine (equalRows_lit R1.out R2.out hn hm HE.out).mono ?_; rintro e w6 ⟨rfl, hb⟩
        replace HB := Lib.hid (B_more HB.out hb)
        clear hb R1 R2
        go_wp2_with fail
        go_ret
        exact ⟨rfl, HB.out⟩
    · skip
      have HX := Lib.hid hx
      have HY := Lib.hid hy
      have HE := Lib.hid he
      have hpos2 : 0 < m := by omega
      clear hx hy he HW hnm
      rcases hf with hf | hf
      · have HF := Lib.hid hf
        clear hf
        obtain ⟨b, o, rfl, hb1, hc1⟩ := R1.out hpos
        obtain ⟨b', o', rfl, hb2, hc2⟩ := R2.out hpos2
        have x0 : w1.cell? ⟨b, o, none⟩ = some (.bool (f 0).nul) := by simpa using (hc1 0 hpos).1
        have x1 : w1.cell? ⟨b, o + 1, none⟩ = some (.int .i64 (f 0).n) := by simpa using (hc1 0 hpos).2
        have y0 : w1.cell? ⟨b', o', none⟩ = some (.bool (g 0).nul) := by simpa using (hc2 0 hpos2).1
        have y1 : w1.cell? ⟨b', o' + 1, none⟩ = some (.int .i64 (g 0).n) := by simpa using (hc2 0 hpos2).2
        have K := Lib.hid (fun w => Compare_lit (f 0).nul (f 0).n (g 0).nul (g 0).n _ HF.out w)
        have i1 : (0 : Int) < (n : Int) := by omega
        have i2 : (0 : Int) < (m : Int) := by omega
        clear hc1 hc2
        refine (CompareRows_lit R1.out R2.out hn hm HX.out).mono ?_; rintro e w2 ⟨rfl, hb⟩
        replace HB := Lib.hid (B_more HB.out hb)
        have P1 := Lib.hid (R1.out.on hb)
        have P2 := Lib.hid (R2.out.on hb)
        have X0 := Lib.hid (keep_cell x0 hb)
        have X1 := Lib.hid (keep_cell x1 hb)
        have Y0 := Lib.hid (keep_cell y0 hb)
        have Y1 := Lib.hid (keep_cell y1 hb)
        clear hb R1 R2 x0 x1 y0 y1
        go_wp2_with fail
        refine (sCompareRows_lit P1.out P2.out hn hm HX.out).mono ?_; rintro e w3 ⟨rfl, hb⟩
        replace HB := Lib.hid (B_more HB.out hb)
        have R1 := Lib.hid (P1.out.on hb)
        have R2 := Lib.hid (P2.out.on hb)
        have x0 := keep_cell X0.out hb
        have x1 := keep_cell X1.out hb
        have y0 := keep_cell Y0.out hb
        have y1 := keep_cell Y1.out hb
        clear hb P1 P2 X0 X1 Y0 Y1
        go_wp2_with fail
        go_region_held3 (fun w' => w'.cell? ⟨b, o, none⟩ = some (.bool (f 0).nul) ∧ w'.cell? ⟨b, o + 1, none⟩ = some (.int .i64 (f 0).n) ∧ w'.cell? ⟨b', o', none⟩ = some (.bool (g 0).nul) ∧ w'.cell? ⟨b', o' + 1, none⟩ = some (.int .i64 (g 0).n) ∧ Below w3.heap.size w3 w')
          (first | exact init_four x0 x1 y0 y1 | exact keep_four (by assumption) hb4)
          (first | (go_at_call 18; refine (K.out _).mono ?_; rintro e w4 ⟨rfl, hb4⟩))
        have hS : Below w3.heap.size w3 w4 := (by assumption : _ ∧ _ ∧ _ ∧ _ ∧ Below w3.heap.size w3 w4).2.2.2.2
        replace HB := Lib.hid (B_more HB.out hS)
        have P1 := Lib.hid (R1.out.on hS)
        have P2 := Lib.hid (R2.out.on hS)
        clear hS R1 R2 x0 x1 y0 y1 hb4
        go_wp2_with fail
        refine (CompareRows_lit P2.out P1.out hm hn HY.out).mono ?_; rintro e w5 ⟨rfl, hb⟩
        replace HB := Lib.hid (B_more HB.out hb)
        have R1 := Lib.hid (P1.out.on hb)
        have R2 := Lib.hid (P2.out.on hb)
        clear hb P1 P2
        go_wp2_with fail
        refine (equalRows_lit R1.out R2.out hn hm HE.out).mono ?_; rintro e w6 ⟨rfl, hb⟩
        replace HB := Lib.hid (B_more HB.out hb)
        clear hb R1 R2
        go_wp2_with fail
        go_ret
        exact ⟨rfl, HB.out⟩
      · have HF := Lib.hid hf
        clear hf
        obtain ⟨b, o, rfl, hb1, hc1⟩ := R1.out hpos
        obtain ⟨b', o', rfl, hb2, hc2⟩ := R2.out hpos2
        have x0 : w1.cell? ⟨b, o, none⟩ = some (.bool (f 0).nul) := by simpa using (hc1 0 hpos).1
        have x1 : w1.cell? ⟨b, o + 1, none⟩ = some (.int .i64 (f 0).n) := by simpa using (hc1 0 hpos).2
        have y0 : w1.cell? ⟨b', o', none⟩ = some (.bool (g 0).nul) := by simpa using (hc2 0 hpos2).1
        have y1 : w1.cell? ⟨b', o' + 1, none⟩ = some (.int .i64 (g 0).n) := by simpa using (hc2 0 hpos2).2
        have K := Lib.hid (fun w => Compare_lit (f 0).nul (f 0).n (g 0).nul (g 0).n _ HF.out w)
        have i1 : (0 : Int) < (n : Int) := by omega
        have i2 : (0 : Int) < (m : Int) := by omega
        clear hc1 hc2
        refine (CompareRows_lit R1.out R2.out hn hm HX.out).mono ?_; rintro e w2 ⟨rfl, hb⟩
        replace HB := Lib.hid (B_more HB.out hb)
        have P1 := Lib.hid (R1.out.on hb)
        have P2 := Lib.hid (R2.out.on hb)
        have X0 := Lib.hid (keep_cell x0 hb)
        have X1 := Lib.hid (keep_cell x1 hb)
        have Y0 := Lib.hid (keep_cell y0 hb)
        have Y1 := Lib.hid (keep_cell y1 hb)
        clear hb R1 R2 x0 x1 y0 y1
        go_wp2_with fail
        refine (sCompareRows_lit P1.out P2.out hn hm HX.out).mono ?_; rintro e w3 ⟨rfl, hb⟩
        replace HB := Lib.hid (B_more HB.out hb)
        have R1 := Lib.hid (P1.out.on hb)
        have R2 := Lib.hid (P2.out.on hb)
        have x0 := keep_cell X0.out hb
        have x1 := keep_cell X1.out hb
        have y0 := keep_cell Y0.out hb
        have y1 := keep_cell Y1.out hb
        clear hb P1 P2 X0 X1 Y0 Y1
        go_wp2_with fail
        go_region_held3 (fun w' => w'.cell? ⟨b, o, none⟩ = some (.bool (f 0).nul) ∧ w'.cell? ⟨b, o + 1, none⟩ = some (.int .i64 (f 0).n) ∧ w'.cell? ⟨b', o', none⟩ = some (.bool (g 0).nul) ∧ w'.cell? ⟨b', o' + 1, none⟩ = some (.int .i64 (g 0).n) ∧ Below w3.heap.size w3 w')
          (first | exact init_four x0 x1 y0 y1 | exact keep_four (by assumption) hb4)
          (first | (go_at_call 18; refine (K.out _).mono ?_; rintro e w4 ⟨rfl, hb4⟩))
        have hS : Below w3.heap.size w3 w4 := (by assumption : _ ∧ _ ∧ _ ∧ _ ∧ Below w3.heap.size w3 w4).2.2.2.2
        replace HB := Lib.hid (B_more HB.out hS)
        have P1 := Lib.hid (R1.out.on hS)
        have P2 := Lib.hid (R2.out.on hS)
        clear hS R1 R2 x0 x1 y0 y1 hb4
        go_wp2_with fail
        refine (CompareRows_lit P2.out P1.out hm hn HY.out).mono ?_; rintro e w5 ⟨rfl, hb⟩
        replace HB := Lib.hid (B_more HB.out hb)
        have R1 := Lib.hid (P1.out.on hb)
        have R2 := Lib.hid (P2.out.on hb)
        clear hb P1 P2
        go_wp2_with fail
        refine (equalRows_lit R1.out R2.out hn hm HE.out).mono ?_; rintro e w6 ⟨rfl, hb⟩
        replace HB := Lib.hid (B_more HB.out hb)
        clear hb R1 R2
        go_wp2_with fail
        go_ret
        exact ⟨rfl, HB.out⟩
    · skip
      have HX := Lib.hid hx
      have HY := Lib.hid hy
      have HE := Lib.hid he
      have hpos2 : 0 < m := by omega
      clear hx hy he HW hnm
      rcases hf with hf | hf
      · have HF := Lib.hid hf
        clear hf
        obtain ⟨b, o, rfl, hb1, hc1⟩ := R1.out hpos
        obtain ⟨b', o', rfl, hb2, hc2⟩ := R2.out hpos2
        have x0 : w1.cell? ⟨b, o, none⟩ = some (.bool (f 0).nul) := by simpa using (hc1 0 hpos).1
        have x1 : w1.cell? ⟨b, o + 1, none⟩ = some (.int .i64 (f 0).n) := by simpa using (hc1 0 hpos).2
        have y0 : w1.cell? ⟨b', o', none⟩ = some (.bool (g 0).nul) := by simpa using (hc2 0 hpos2).1
        have y1 : w1.cell? ⟨b', o' + 1, none⟩ = some (.int .i64 (g 0).n) := by simpa using (hc2 0 hpos2).2
        have K := Lib.hid (fun w => Compare_lit (f 0).nul (f 0).n (g 0).nul (g 0).n _ HF.out w)
        have i1 : (0 : Int) < (n : Int) := by omega
        have i2 : (0 : Int) < (m : Int) := by omega
        clear hc1 hc2
        refine (CompareRows_lit R1.out R2.out hn hm HX.out).mono ?_; rintro e w2 ⟨rfl, hb⟩
        replace HB := Lib.hid (B_more HB.out hb)
        have P1 := Lib.hid (R1.out.on hb)
        have P2 := Lib.hid (R2.out.on hb)
        have X0 := Lib.hid (keep_cell x0 hb)
        have X1 := Lib.hid (keep_cell x1 hb)
        have Y0 := Lib.hid (keep_cell y0 hb)
        have Y1 := Lib.hid (keep_cell y1 hb)
        clear hb R1 R2 x0 x1 y0 y1
        go_wp2_with fail
        refine (sCompareRows_lit P1.out P2.out hn hm HX.out).mono ?_; rintro e w3 ⟨rfl, hb⟩
        replace HB := Lib.hid (B_more HB.out hb)
        have R1 := Lib.hid (P1.out.on hb)
        have R2 := Lib.hid (P2.out.on hb)
        have x0 := keep_cell X0.out hb
        have x1 := keep_cell X1.out hb
        have y0 := keep_cell Y0.out hb
        have y1 := keep_cell Y1.out hb
        clear hb P1 P2 X0 X1 Y0 Y1
        go_wp2_with fail
        go_region_held3 (fun w' => w'.cell? ⟨b, o, none⟩ = some (.bool (f 0).nul) ∧ w'.cell? ⟨b, o + 1, none⟩ = some (.int .i64 (f 0).n) ∧ w'.cell? ⟨b', o', none⟩ = some (.bool (g 0).nul) ∧ w'.cell? ⟨b', o' + 1, none⟩ = some (.int .i64 (g 0).n) ∧ Below w3.heap.size w3 w')
          (first | exact init_four x0 x1 y0 y1 | exact keep_four (by assumption) hb4)
          (first | (go_at_call 18; refine (K.out _).mono ?_; rintro e w4 ⟨rfl, hb4⟩))
        have hS : Below w3.heap.size w3 w4 := (by assumption : _ ∧ _ ∧ _ ∧ _ ∧ Below w3.heap.size w3 w4).2.2.2.2
        replace HB := Lib.hid (B_more HB.out hS)
        have P1 := Lib.hid (R1.out.on hS)
        have P2 := Lib.hid (R2.out.on hS)
        clear hS R1 R2 x0 x1 y0 y1 hb4
        go_wp2_with fail
        refine (CompareRows_lit P2.out P1.out hm hn HY.out).mono ?_; rintro e w5 ⟨rfl, hb⟩
        replace HB := Lib.hid (B_more HB.out hb)
        have R1 := Lib.hid (P1.out.on hb)
        have R2 := Lib.hid (P2.out.on hb)
        clear hb P1 P2
        go_wp2_with fail
        refine (equalRows_lit R1.out R2.out hn hm HE.out).mono ?_; rintro e w6 ⟨rfl, hb⟩
        replace HB := Lib.hid (B_more HB.out hb)
        clear hb R1 R2
        go_wp2_with fail
        go_ret
        exact ⟨rfl, HB.out⟩
      · have HF := Lib.hid hf
        clear hf
        obtain ⟨b, o, rfl, hb1, hc1⟩ := R1.out hpos
        obtain ⟨b', o', rfl, hb2, hc2⟩ := R2.out hpos2
        have x0 : w1.cell? ⟨b, o, none⟩ = some (.bool (f 0).nul) := by simpa using (hc1 0 hpos).1
        have x1 : w1.cell? ⟨b, o + 1, none⟩ = some (.int .i64 (f 0).n) := by simpa using (hc1 0 hpos).2
        have y0 : w1.cell? ⟨b', o', none⟩ = some (.bool (g 0).nul) := by simpa using (hc2 0 hpos2).1
        have y1 : w1.cell? ⟨b', o' + 1, none⟩ = some (.int .i64 (g 0).n) := by simpa using (hc2 0 hpos2).2
        have K := Lib.hid (fun w => Compare_lit (f 0).nul (f 0).n (g 0).nul (g 0).n _ HF.out w)
        have i1 : (0 : Int) < (n : Int) := by omega
        have i2 : (0 : Int) < (m : Int) := by omega
        clear hc1 hc2
        refine (CompareRows_lit R1.out R2.out hn hm HX.out).mono ?_; rintro e w2 ⟨rfl, hb⟩
        replace HB := Lib.hid (B_more HB.out hb)
        have P1 := Lib.hid (R1.out.on hb)
        have P2 := Lib.hid (R2.out.on hb)
        have X0 := Lib.hid (keep_cell x0 hb)
        have X1 := Lib.hid (keep_cell x1 hb)
        have Y0 := Lib.hid (keep_cell y0 hb)
        have Y1 := Lib.hid (keep_cell y1 hb)
        clear hb R1 R2 x0 x1 y0 y1
        go_wp2_with fail
        refine (sCompareRows_lit P1.out P2.out hn hm HX.out).mono ?_; rintro e w3 ⟨rfl, hb⟩
        replace HB := Lib.hid (B_more HB.out hb)
        have R1 := Lib.hid (P1.out.on hb)
        have R2 := Lib.hid (P2.out.on hb)
        have x0 := keep_cell X0.out hb
        have x1 := keep_cell X1.out hb
        have y0 := keep_cell Y0.out hb
        have y1 := keep_cell Y1.out hb
        clear hb P1 P2 X0 X1 Y0 Y1
        go_wp2_with fail
        go_region_held3 (fun w' => w'.cell? ⟨b, o, none⟩ = some (.bool (f 0).nul) ∧ w'.cell? ⟨b, o + 1, none⟩ = some (.int .i64 (f 0).n) ∧ w'.cell? ⟨b', o', none⟩ = some (.bool (g 0).nul) ∧ w'.cell? ⟨b', o' + 1, none⟩ = some (.int .i64 (g 0).n) ∧ Below w3.heap.size w3 w')
          (first | exact init_four x0 x1 y0 y1 | exact keep_four (by assumption) hb4)
          (first | (go_at_call 18; refine (K.out _).mono ?_; rintro e w4 ⟨rfl, hb4⟩))
        have hS : Below w3.heap.size w3 w4 := (by assumption : _ ∧ _ ∧ _ ∧ _ ∧ Below w3.heap.size w3 w4).2.2.2.2
        replace HB := Lib.hid (B_more HB.out hS)
        have P1 := Lib.hid (R1.out.on hS)
        have P2 := Lib.hid (R2.out.on hS)
        clear hS R1 R2 x0 x1 y0 y1 hb4
        go_wp2_with fail
        refine (CompareRows_lit P2.out P1.out hm hn HY.out).mono ?_; rintro e w5 ⟨rfl, hb⟩
        replace HB := Lib.hid (B_more HB.out hb)
        have R1 := Lib.hid (P1.out.on hb)
        have R2 := Lib.hid (P2.out.on hb)
        clear hb P1 P2
        go_wp2_with fail
        refine (equalRows_lit R1.out R2.out hn hm HE.out).mono ?_; rintro e w6 ⟨rfl, hb⟩
        replace HB := Lib.hid (B_more HB.out hb)
        clear hb R1 R2
        go_wp2_with fail
        go_ret
        exact ⟨rfl, HB.out⟩
end Go.Proofs.Ytimmglcjjbmpdaa

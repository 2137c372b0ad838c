/-
  Rows are ordered; a place in an ordered list, found by halving. Plain lemmas.
-/
import Derived.Test.YtjjcokmnebkbiaaVTbW
import Derived.Test.YtjjcokmnebkbiaaVTbX
import Derived.Test.YtjjcokmnebkbiaaDca
import Derived.Test.YtjjcokmnebkbiaaDcb
set_option maxHeartbeats 4000000
set_option maxRecDepth 100000
set_option linter.unusedVariables false
set_option linter.unusedSimpArgs false
namespace Go.Proofs.Ytjjcokmnebkbiaa
open Go.RowKit

def keyV (v : V) : Int := if v.b = true then -10000 else v.n
theorem cmpV_key {a b : V} (ha : a.ok) (hb : b.ok) : (cmpV a b = 0 ∧ keyV a = keyV b) ∨ (cmpV a b = -1 ∧ keyV a < keyV b) ∨ (cmpV a b = 1 ∧ keyV b < keyV a) := by
  have h1 := ha.nul
  have h2 := hb.nul
  have h3 := ha.lo
  have h4 := hb.lo
  unfold cmpV keyV
  cases hab : a.b <;> cases hbb : b.b <;> simp [hab, hbb] at h1 h2 ⊢
  all_goals (repeat' split) <;> omega
theorem cmpR_trans : ∀ (a b c : List V), a.length = b.length → b.length = c.length → (∀ v, v ∈ a → v.ok) → (∀ v, v ∈ b → v.ok) → (∀ v, v ∈ c → v.ok) → cmpR a b ≤ 0 → (cmpR b c ≤ 0 → cmpR a c ≤ 0) ∧ (cmpR b c < 0 → cmpR a c < 0)
  | [], [], [], _, _, _, _, _, _ => ⟨fun h => h, fun h => h⟩
  | [], [], _ :: _, _, h, _, _, _, _ => by simp at h
  | [], _ :: _, _, h, _, _, _, _, _ => by simp at h
  | _ :: _, [], _, h, _, _, _, _, _ => by simp at h
  | _ :: _, _ :: _, [], _, h, _, _, _, _ => by simp at h
  | x :: a, y :: b, z :: c, h, h', ha, hb, hc, hab => by
    have hx := ha x (List.mem_cons_self ..)
    have hy := hb y (List.mem_cons_self ..)
    have hz := hc z (List.mem_cons_self ..)
    have ih := cmpR_trans a b c (by simpa using h) (by simpa using h') (fun v hv => ha v (List.mem_cons_of_mem _ hv)) (fun v hv => hb v (List.mem_cons_of_mem _ hv)) (fun v hv => hc v (List.mem_cons_of_mem _ hv))
    have k1 := cmpV_key hx hy
    have k2 := cmpV_key hy hz
    have k3 := cmpV_key hx hz
    rw [cmpR] at hab
    rw [cmpR, cmpR]
    by_cases e1 : cmpV x y = 0
    · rw [if_pos e1] at hab
      have ih := ih hab
      by_cases e2 : cmpV y z = 0
      · rw [if_pos e2, if_pos (show cmpV x z = 0 by omega)]
        exact ih
      · rw [if_neg e2, if_neg (show ¬ cmpV x z = 0 by omega)]
        constructor <;> intro h <;> omega
    · rw [if_neg e1] at hab
      by_cases e2 : cmpV y z = 0
      · rw [if_pos e2, if_neg (show ¬ cmpV x z = 0 by omega)]
        constructor <;> intro h <;> omega
      · rw [if_neg e2]
        by_cases e3 : cmpV x z = 0
        · rw [if_pos e3]
          constructor <;> intro h <;> omega
        · rw [if_neg e3]
          constructor <;> intro h <;> omega
theorem cmpV_self (a : V) : cmpV a a = 0 := cmpV_0 ⟨rfl, rfl⟩
theorem cmpR_self : ∀ a : List V, cmpR a a = 0
  | [] => rfl
  | x :: a => by rw [cmpR, if_pos (cmpV_self x)]; exact cmpR_self a
theorem cmpV_eq {a b : V} (h : cmpV a b = 0) : a = b := by
  unfold cmpV at h
  split at h
  · rename_i h1
    cases a; cases b
    simp at h1
    obtain ⟨rfl, rfl⟩ := h1
    rfl
  · split at h <;> omega
theorem cmpR_eq : ∀ {a b : List V}, cmpR a b = 0 → a = b
  | [], [], _ => rfl
  | [], _ :: l, h => by change ((0 : Nat) : Int) - ((l.length + 1 : Nat) : Int) = 0 at h; omega
  | _ :: l, [], h => by change ((l.length + 1 : Nat) : Int) - ((0 : Nat) : Int) = 0 at h; omega
  | x :: a, y :: b, h => by
    rw [cmpR] at h
    by_cases e : cmpV x y = 0
    · rw [if_pos e] at h
      rw [cmpV_eq e, cmpR_eq h]
    · rw [if_neg e] at h
      exact (e h).elim
/-- Halving. -/
def stepB (p : Nat → Bool) (s : Nat × Nat) : Nat × Nat := if s.1 < s.2 then (if p ((s.1 + s.2) / 2) then (s.1, (s.1 + s.2) / 2) else ((s.1 + s.2) / 2 + 1, s.2)) else s
def itB (p : Nat → Bool) (n : Nat) : Nat → Nat × Nat
  | 0 => (0, n)
  | i + 1 => stepB p (itB p n i)
theorem itB_end {p : Nat → Bool} {n i : Nat} (h : ¬ (itB p n i).1 < (itB p n i).2) : ∀ d, itB p n (i + d) = itB p n i
  | 0 => rfl
  | d + 1 => by
    rw [← Nat.add_assoc, itB, itB_end h d]
    unfold stepB
    rw [if_neg h]
theorem itB_inv {p : Nat → Bool} {n : Nat} (hp : ∀ i j, i ≤ j → j < n → p i = true → p j = true) : ∀ i, ((itB p n i).1 ≤ (itB p n i).2 ∧ (itB p n i).2 ≤ n ∧ (itB p n i).2 - (itB p n i).1 + i ≤ max n i) ∧ (∀ j, j < (itB p n i).1 → p j = false) ∧ (∀ j, (itB p n i).2 ≤ j → j < n → p j = true)
  | 0 => ⟨⟨Nat.zero_le _, Nat.le_refl _, by show n - 0 + 0 ≤ max n 0; omega⟩, fun j hj => absurd hj (Nat.not_lt_zero j), fun j (h1 : n ≤ j) h2 => by omega⟩
  | i + 1 => by
    obtain ⟨⟨h1, h2, h3⟩, h4, h5⟩ := itB_inv hp i
    rw [itB]
    generalize itB p n i = s at h1 h2 h3 h4 h5
    obtain ⟨lo, hi⟩ := s
    simp only at h1 h2 h3 h4 h5
    unfold stepB
    by_cases hlt : lo < hi
    · simp only [hlt, if_true]
      cases hm : p ((lo + hi) / 2) with
      | true =>
        simp only [if_true]
        refine ⟨⟨by omega, by omega, by omega⟩, h4, fun j hj hjn => ?_⟩
        exact hp _ j hj hjn hm
      | false =>
        simp only [Bool.false_eq_true, if_false]
        refine ⟨⟨by omega, by omega, by omega⟩, fun j hj => ?_, h5⟩
        cases hj' : p j with
        | false => rfl
        | true => rw [hp j ((lo + hi) / 2) (by omega) (by omega) hj'] at hm; cases hm
    · simp only [hlt, if_false]
      exact ⟨⟨h1, h2, by omega⟩, h4, h5⟩
end Go.Proofs.Ytjjcokmnebkbiaa
set_option maxHeartbeats 4000000
set_option maxRecDepth 100000
set_option linter.unusedVariables false
set_option linter.unusedSimpArgs false
namespace Go.Proofs.Ytjjcokmnebkbiaa
open Go.RowKit

/-- The rows of a valid table ascend. -/
theorem tOk_le {t : Ta} (ht : tOk t) : ∀ (d i : Nat) (q r : List V), t.rows[i]? = some q → t.rows[i + d]? = some r → cmpR q r ≤ 0 := by
  intro d
  induction d with
  | zero =>
    intro i q r hq hr
    rw [Nat.add_zero, hq] at hr
    cases hr
    rw [cmpR_self]
    exact Int.le_refl 0
  | succ d ih =>
    intro i q r hq hr
    have hlt := (List.getElem?_eq_some_iff.1 hr).1
    have hm := List.getElem?_eq_getElem (l := t.rows) (i := i + d) (by omega)
    have h1 := ih i q _ hq hm
    have h2 := (ht.2 (i + (d + 1)) r hr).2 _ (by omega) (by rw [show i + (d + 1) - 1 = i + d by omega]; exact hm)
    have g1 := ht.2 i q hq
    have g2 := ht.2 (i + d) _ hm
    have g3 := ht.2 _ r hr
    exact (cmpR_trans q _ r (by have := g1.1.2; have := g2.1.2; omega) (by have := g3.1.2; have := g2.1.2; omega) g1.1.1.2 g2.1.1.2 g3.1.1.2 h1).1 h2
/-- How many are equal. -/
def cntE (row : List V) (l : List (List V)) : Nat := (l.filter fun r => cmpR r row == 0).length
theorem cntE_next {row : List V} {l : List (List V)} {i : Nat} {x : List V} (h : l[i]? = some x) : cntE row (l.take (i + 1)) = cntE row (l.take i) + if cmpR x row = 0 then 1 else 0 := by
  unfold cntE
  rw [take_next h, List.filter_append, List.length_append, List.filter_cons, List.filter_nil]
  by_cases e : cmpR x row = 0
  · rw [if_pos e, if_pos (by simpa using e)]; rfl
  · rw [if_neg e, if_neg (by simpa using e)]; rfl
theorem cntE_len (row : List V) (l : List (List V)) : cntE row l ≤ l.length := List.length_filter_le ..
theorem cntE_app (row : List V) (l m : List (List V)) : cntE row (l ++ m) = cntE row l + cntE row m := by unfold cntE; rw [List.filter_append, List.length_append]
theorem cntE_none {row : List V} {l : List (List V)} (h : ∀ r, r ∈ l → ¬ cmpR r row = 0) : cntE row l = 0 := by
  unfold cntE
  rw [List.length_eq_zero_iff, List.filter_eq_nil_iff]
  intro a ha
  simpa using h a ha
theorem cntE_all {row : List V} {l : List (List V)} (h : ∀ r, r ∈ l → cmpR r row = 0) : cntE row l = l.length := by
  unfold cntE
  rw [List.filter_eq_self.2 (fun a ha => by simpa using h a ha)]
/-- How many are equal, by two places. -/
theorem cntE_two {row : List V} {rs : List (List V)} {a b : Nat} (ha : a ≤ rs.length) (hb : b ≤ rs.length - a) (h1 : ∀ (j : Nat) (r : List V), j < a → rs[j]? = some r → cmpR r row < 0) (h2 : ∀ (j : Nat) (r : List V), a ≤ j → rs[j]? = some r → 0 ≤ cmpR r row)
    (h3 : ∀ (j : Nat) (r : List V), j < b → rs[a + j]? = some r → ¬ 0 < cmpR r row) (h4 : ∀ (j : Nat) (r : List V), b ≤ j → rs[a + j]? = some r → 0 < cmpR r row) : cntE row rs = b := by
  have e1 := List.take_append_drop a rs
  have e2 := List.take_append_drop b (rs.drop a)
  rw [← e1, cntE_app, ← e2, cntE_app, cntE_none (l := rs.take a), cntE_all (l := (rs.drop a).take b), cntE_none (l := (rs.drop a).drop b)]
  · rw [List.length_take, List.length_drop]; omega
  · intro r hr
    obtain ⟨j, hj⟩ := List.mem_iff_getElem?.1 hr
    rw [List.getElem?_drop, List.getElem?_drop] at hj
    have := h4 (b + j) r (by omega) hj
    omega
  · intro r hr
    obtain ⟨j, hj⟩ := List.mem_iff_getElem?.1 hr
    have hjl := (List.getElem?_eq_some_iff.1 hj).1
    rw [List.length_take] at hjl
    rw [List.getElem?_take_of_lt (by omega), List.getElem?_drop] at hj
    have := h3 j r (by omega) hj
    have := h2 (a + j) r (by omega) hj
    omega
  · intro r hr
    obtain ⟨j, hj⟩ := List.mem_iff_getElem?.1 hr
    have hjl := (List.getElem?_eq_some_iff.1 hj).1
    rw [List.length_take] at hjl
    rw [List.getElem?_take_of_lt (by omega)] at hj
    have := h1 j r (by omega) hj
    omega
end Go.Proofs.Ytjjcokmnebkbiaa
set_option linter.unusedVariables false
namespace Go.Proofs.Ytjjcokmnebkbiaa
open Go.RowKit

/-- Valid rows of a width. -/
def RsW (w : Nat) (rs : List (List V)) : Prop := ∀ r, r ∈ rs → r.length = w ∧ ∀ v, v ∈ r → v.ok
def leR (a b : List V) : Prop := cmpR a b ≤ 0
def Asc (l : List (List V)) : Prop := l.Pairwise leR
def ins (r : List V) : List (List V) → List (List V)
  | [] => [r]
  | x :: l => if cmpR x r ≤ 0 then x :: ins r l else r :: x :: l
def srt (rs : List (List V)) : List (List V) := rs.foldl (fun acc r => ins r acc) []
theorem srt_next {rs : List (List V)} {i : Nat} {r : List V} (h : rs[i]? = some r) : srt (rs.take (i + 1)) = ins r (srt (rs.take i)) := by
  unfold srt
  rw [take_next h, List.foldl_append]
  rfl
theorem ins_perm (r : List V) : ∀ l, (ins r l).Perm (r :: l)
  | [] => List.Perm.refl _
  | x :: l => by
    rw [ins]
    split
    · exact ((ins_perm r l).cons x).trans (List.Perm.swap r x l)
    · exact List.Perm.refl _
theorem fold_perm : ∀ (rs acc : List (List V)), (rs.foldl (fun acc r => ins r acc) acc).Perm (acc ++ rs)
  | [], acc => by rw [List.append_nil]; exact List.Perm.refl _
  | r :: rs, acc => by
    rw [List.foldl_cons]
    refine (fold_perm rs (ins r acc)).trans ?_
    exact ((ins_perm r acc).append_right rs).trans List.perm_middle.symm
theorem srt_perm (rs : List (List V)) : (srt rs).Perm rs := fold_perm rs []
theorem srt_len (rs : List (List V)) : (srt rs).length = rs.length := (srt_perm rs).length_eq
theorem RsW.perm {w : Nat} {a b : List (List V)} (h : RsW w a) (hp : b.Perm a) : RsW w b := fun r hr => h r (hp.mem_iff.1 hr)
theorem RsW.tail {w : Nat} {r : List V} {l : List (List V)} (h : RsW w (r :: l)) : RsW w l := fun x hx => h x (List.mem_cons_of_mem _ hx)
theorem RsW.take {w : Nat} {l : List (List V)} (h : RsW w l) (i : Nat) : RsW w (l.take i) := fun x hx => h x (List.mem_of_mem_take hx)
theorem le_trans {w : Nat} {a b c : List V} (ha : a.length = w ∧ ∀ v, v ∈ a → v.ok) (hb : b.length = w ∧ ∀ v, v ∈ b → v.ok) (hc : c.length = w ∧ ∀ v, v ∈ c → v.ok) (h1 : leR a b) (h2 : leR b c) : leR a c :=
  (cmpR_trans a b c (by omega) (by omega) ha.2 hb.2 hc.2 h1).1 h2
theorem not_le {w : Nat} {a b : List V} (ha : a.length = w ∧ ∀ v, v ∈ a → v.ok) (hb : b.length = w ∧ ∀ v, v ∈ b → v.ok) (h : ¬ leR a b) : leR b a := by
  have := cmpR_anti a b (by omega) ha.2 hb.2
  unfold leR at *
  omega
theorem ins_asc {w : Nat} {r : List V} : ∀ {l : List (List V)}, RsW w (r :: l) → Asc l → Asc (ins r l)
  | [], _, _ => List.pairwise_singleton ..
  | x :: l, h, ha => by
    have hr := h r (List.mem_cons_self ..)
    have hx := h x (by simp)
    obtain ⟨h1, h2⟩ := List.pairwise_cons.1 ha
    rw [ins]
    split
    · rename_i hc
      refine List.pairwise_cons.2 ⟨fun y hy => ?_, ins_asc (fun z hz => h z (by rcases List.mem_cons.1 hz with rfl | hz <;> simp [*])) h2⟩
      rcases List.mem_cons.1 ((ins_perm r l).mem_iff.1 hy) with rfl | hy
      · exact hc
      · exact h1 y hy
    · rename_i hc
      have hrx := not_le hx hr hc
      refine List.pairwise_cons.2 ⟨fun y hy => ?_, ha⟩
      rcases List.mem_cons.1 hy with rfl | hy
      · exact hrx
      · exact le_trans hr hx (h y (by simp [hy])) hrx (h1 y hy)
theorem fold_asc {w : Nat} : ∀ (rs acc : List (List V)), RsW w (acc ++ rs) → Asc acc → Asc (rs.foldl (fun acc r => ins r acc) acc)
  | [], _, _, h => h
  | r :: rs, acc, h, ha => by
    rw [List.foldl_cons]
    refine fold_asc rs _ (h.perm ?_) (ins_asc (fun x hx => h x (by rcases List.mem_cons.1 hx with rfl | hx <;> simp [*])) ha)
    exact ((ins_perm r acc).append_right rs).trans List.perm_middle.symm
theorem srt_asc {w : Nat} {rs : List (List V)} (h : RsW w rs) : Asc (srt rs) := fold_asc rs [] h List.Pairwise.nil
theorem srt_rsw {w : Nat} {rs : List (List V)} (h : RsW w rs) : RsW w (srt rs) := h.perm (srt_perm rs)
theorem srt_unique {w : Nat} {l l' : List (List V)} (h : RsW w l) (hp : l'.Perm l) (ha : Asc l') : l' = srt l := by
  refine List.Perm.eq_of_pairwise (le := leR) ?_ ha (srt_asc h) (hp.trans (srt_perm l).symm)
  intro a b hma hmb h1 h2
  have ga := (h.perm hp) a hma
  have gb := (srt_rsw h) b hmb
  have := cmpR_anti a b (by omega) ga.2 gb.2
  unfold leR at h1 h2
  exact cmpR_eq (by omega)
theorem srt_congr {w : Nat} {l l' : List (List V)} (h : RsW w l) (hp : l'.Perm l) : srt l' = srt l := srt_unique h ((srt_perm l').trans hp) (srt_asc (h.perm hp))
theorem srt_idem {w : Nat} {l : List (List V)} (h : RsW w l) : srt (srt l) = srt l := srt_congr h (srt_perm l)
theorem srt_of_asc {w : Nat} {l : List (List V)} (h : RsW w l) (ha : Asc l) : srt l = l := (srt_unique h (List.Perm.refl _) ha).symm
/-- Where a row is put in. -/
theorem ins_at (r : List V) : ∀ (l : List (List V)) (p : Nat), p ≤ l.length → (∀ (j : Nat) (x : List V), j < p → l[j]? = some x → cmpR x r ≤ 0) → (∀ x, l[p]? = some x → ¬ cmpR x r ≤ 0) → ins r l = l.take p ++ r :: l.drop p
  | [], p, hp, _, _ => by
    obtain rfl : p = 0 := by simpa using hp
    rfl
  | x :: l, 0, _, _, h2 => by
    rw [ins, if_neg (h2 x rfl)]
    rfl
  | x :: l, p + 1, hp, h1, h2 => by
    rw [ins, if_pos (h1 0 x (by omega) rfl), ins_at r l p (by simpa using hp) (fun j y hj hy => h1 (j + 1) y (by omega) (by simpa using hy)) (fun y hy => h2 y (by simpa using hy))]
    rfl
theorem asc_at {l : List (List V)} (h : Asc l) {i j : Nat} {a b : List V} (hij : i < j) (ha : l[i]? = some a) (hb : l[j]? = some b) : leR a b := by
  obtain ⟨hi, rfl⟩ := List.getElem?_eq_some_iff.1 ha
  obtain ⟨hj, rfl⟩ := List.getElem?_eq_some_iff.1 hb
  exact List.pairwise_iff_getElem.1 h i j hi hj hij
end Go.Proofs.Ytjjcokmnebkbiaa
set_option maxHeartbeats 4000000
set_option maxRecDepth 100000
namespace Go.Proofs.Ytjjcokmnebkbiaa
open Go.RowKit

/-- The rows ascend. -/
def asc (rs : List (List V)) : Prop := ∀ (i : Nat) (q r : List V), 0 < i → rs[i - 1]? = some q → rs[i]? = some r → cmpR q r ≤ 0
noncomputable instance ascDec (rs : List (List V)) : Decidable (asc rs) := Classical.propDecidable _
theorem isSorted_ok (t : Ta) (ht : rOk t) {f : FuncId} (hf : enters Try.prog f = true) (hc : ∀ a b : List V, a.length = b.length → a.length < 2000000 → (∀ v, v ∈ a → v.ok) → (∀ v, v ∈ b → v.ok) → Does Try.prog f [] [rowD a, rowD b] (I (cmpR a b)) []) :
    Does Try.prog 56 [] [rowsD t.rows, .fn f []] (Bo (decide (asc t.rows))) [] := by
  have h4 := ht.1.2
  refine does0 c_slices_IsSortedFunc_____loop_example_queryoptimizer_impl_Value___loop_example_queryoptimizer_impl_Value_ mixed (Nat.le_of_ble_eq_true rfl) ?_
  conv => arg 3; whnf
  repeat' (first | with_reducible refine acc_none ?_ | (conv in hold _ => simp (disch := omega) only [go_sem]) | refine Stp.go ?_ | (with_reducible first | refine it_pos rfl ?_ | refine it_neg (by decide) ?_ | refine st_nil rfl ?_ | refine s_op ?_ ?_ | exact True.intro) | ((with_reducible first | refine dw_reg0 ?_ | refine dw_regB ?_); (conv => arg 3; whnf)) | (refine Spl.go (fun hq he => ?_) (fun hq he => ?_) <;> first | (exfalso; clear hq; omega) | ((try (first | (conv => arg 8; simp only [hq]) | (conv => arg 4; simp only [hq]))); clear hq)) | ((with_reducible first | refine c_split (fun hq => ?_) (fun hq => ?_) | refine q_split (fun hq => ?_) (fun hq => ?_)) <;> (try (first | (conv => arg 8; simp only [hq]) | (conv => arg 4; simp only [hq])))) | (with_reducible refine fin_0 ?_ (by first | rfl | (conv => lhs; simp only [go_sem])) ?_) | exact Sub.refl _ | omega)
  refine dw_for (c := 0) (l := fun n => [(0, rowsD t.rows), (1, .fn f []), (5, I ((t.rows.length : Int) - 1 - n))]) t.rows.length (fun n => ∀ (i : Nat) (q r : List V), t.rows.length ≤ i + n → 0 < i → t.rows[i - 1]? = some q → t.rows[i]? = some r → cmpR q r ≤ 0) 0 (fun i q r h1 h2 hq hr => by have := (List.getElem?_eq_some_iff.1 hr).1; omega) (Wk.list [] rfl rfl ?_) (fun n hn hJ => ?_) (Nat.zero_le _)
  · repeat' (first | (conv in hold _ => simp (disch := omega) only [go_sem]) | exact True.intro | exact Sub.refl _ | omega)
    exact congrArg (fun n => D.v (Value.int .i64 n)) (by omega)
  · by_cases hil : n + 1 < t.rows.length
    · obtain ⟨r, hr⟩ : ∃ r, t.rows[t.rows.length - 1 - n]? = some r := ⟨_, List.getElem?_eq_getElem (by omega)⟩
      obtain ⟨q, hq⟩ : ∃ q, t.rows[t.rows.length - 1 - n - 1]? = some q := ⟨_, List.getElem?_eq_getElem (by omega)⟩
      have hr1 := ht.2 _ r hr
      have hq1 := ht.2 _ q hq
      have hrl := hr1.1.1
      have e1 : ((t.rows.length : Int) - 1 - (n : Int)).toNat = t.rows.length - 1 - n := by omega
      have e2 : ((t.rows.length : Int) - 1 - (n : Int) - 1).toNat = t.rows.length - 1 - n - 1 := by omega
      have hcc := hc r q (by have := hr1.2; have := hq1.2; omega) (by omega) hr1.1.2 hq1.1.2
      have hanti := cmpR_anti q r (by have := hr1.2; have := hq1.2; omega) hq1.1.2 hr1.1.2
      by_cases h3 : cmpR q r ≤ 0
      · repeat' (first | with_reducible refine acc_none ?_ | (conv in hold _ => simp (disch := omega) only [go_sem, List.getElem?_map, e1, e2, hr, hq, Option.map_some]) | refine Stp.go ?_ | (with_reducible first | refine it_pos rfl ?_ | refine it_neg (by decide) ?_ | refine st_nil rfl ?_ | refine s_op ?_ ?_ | exact True.intro) | ((with_reducible first | refine dw_reg0 ?_ | refine dw_regB ?_); (conv => arg 3; whnf)) | (refine Spl.go (fun hq he => ?_) (fun hq he => ?_) <;> first | (exfalso; clear hq; omega) | ((try (first | (conv => arg 8; simp only [hq]) | (conv => arg 4; simp only [hq]))); clear hq)) | ((with_reducible first | refine c_split (fun hq => ?_) (fun hq => ?_) | refine q_split (fun hq => ?_) (fun hq => ?_)) <;> (try (first | (conv => arg 8; simp only [hq]) | (conv => arg 4; simp only [hq])))) | (with_reducible refine fin_0 ?_ (by first | rfl | (conv => lhs; simp only [go_sem, List.getElem?_map, e1, e2, hr, hq, Option.map_some])) ?_) | exact Sub.refl _ | omega)
        refine v_fn (hf) ?_
        refine c_doesE (hcc) ?_ ?_ ?_
        · ((try (conv => rhs; simp (disch := omega) only [go_sem])); try rfl)
        · first | rfl | (conv => lhs; simp only [go_sem])
        repeat' (first | with_reducible refine acc_none ?_ | (conv in hold _ => simp (disch := omega) only [go_sem]) | refine Stp.go ?_ | (with_reducible first | refine it_pos rfl ?_ | refine it_neg (by decide) ?_ | refine st_nil rfl ?_ | refine s_op ?_ ?_ | exact True.intro) | ((with_reducible first | refine dw_reg0 ?_ | refine dw_regB ?_); (conv => arg 3; whnf)) | (refine Spl.go (fun hq he => ?_) (fun hq he => ?_) <;> first | (exfalso; clear hq; omega) | ((try (first | (conv => arg 8; simp only [hq]) | (conv => arg 4; simp only [hq]))); clear hq)) | ((with_reducible first | refine c_split (fun hq => ?_) (fun hq => ?_) | refine q_split (fun hq => ?_) (fun hq => ?_)) <;> (try (first | (conv => arg 8; simp only [hq]) | (conv => arg 4; simp only [hq])))) | (with_reducible refine fin_0 ?_ (by first | rfl | (conv => lhs; simp only [go_sem])) ?_) | exact Sub.refl _ | omega)
        refine ⟨by omega, fun i q' r' h1 h2 hq' hr' => ?_, Wk.list [] rfl rfl ?_⟩
        · by_cases hi : i = t.rows.length - 1 - n
          · subst hi
            rw [hq] at hq'
            rw [hr] at hr'
            cases hq'
            cases hr'
            exact h3
          · exact hJ i q' r' (by omega) h2 hq' hr'
        · repeat' (first | (conv in hold _ => simp (disch := omega) only [go_sem]) | exact True.intro | exact Sub.refl _ | omega)
          exact congrArg (fun n => D.v (Value.int .i64 n)) (by omega)
      · repeat' (first | with_reducible refine acc_none ?_ | (conv in hold _ => simp (disch := omega) only [go_sem, List.getElem?_map, e1, e2, hr, hq, Option.map_some]) | refine Stp.go ?_ | (with_reducible first | refine it_pos rfl ?_ | refine it_neg (by decide) ?_ | refine st_nil rfl ?_ | refine s_op ?_ ?_ | exact True.intro) | ((with_reducible first | refine dw_reg0 ?_ | refine dw_regB ?_); (conv => arg 3; whnf)) | (refine Spl.go (fun hq he => ?_) (fun hq he => ?_) <;> first | (exfalso; clear hq; omega) | ((try (first | (conv => arg 8; simp only [hq]) | (conv => arg 4; simp only [hq]))); clear hq)) | ((with_reducible first | refine c_split (fun hq => ?_) (fun hq => ?_) | refine q_split (fun hq => ?_) (fun hq => ?_)) <;> (try (first | (conv => arg 8; simp only [hq]) | (conv => arg 4; simp only [hq])))) | (with_reducible refine fin_0 ?_ (by first | rfl | (conv => lhs; simp only [go_sem, List.getElem?_map, e1, e2, hr, hq, Option.map_some])) ?_) | exact Sub.refl _ | omega)
        refine v_fn (hf) ?_
        refine c_doesE (hcc) ?_ ?_ ?_
        · ((try (conv => rhs; simp (disch := omega) only [go_sem])); try rfl)
        · first | rfl | (conv => lhs; simp only [go_sem])
        repeat' (first | with_reducible refine acc_none ?_ | (conv in hold _ => simp (disch := omega) only [go_sem]) | refine Stp.go ?_ | (with_reducible first | refine it_pos rfl ?_ | refine it_neg (by decide) ?_ | refine st_nil rfl ?_ | refine s_op ?_ ?_ | exact True.intro) | ((with_reducible first | refine dw_reg0 ?_ | refine dw_regB ?_); (conv => arg 3; whnf)) | (refine Spl.go (fun hq he => ?_) (fun hq he => ?_) <;> first | (exfalso; clear hq; omega) | ((try (first | (conv => arg 8; simp only [hq]) | (conv => arg 4; simp only [hq]))); clear hq)) | ((with_reducible first | refine c_split (fun hq => ?_) (fun hq => ?_) | refine q_split (fun hq => ?_) (fun hq => ?_)) <;> (try (first | (conv => arg 8; simp only [hq]) | (conv => arg 4; simp only [hq])))) | (with_reducible refine fin_0 ?_ (by first | rfl | (conv => lhs; simp only [go_sem])) ?_) | exact Sub.refl _ | omega)
        exact sub_f (fun h => h3 (h _ q r (by omega) hq hr))
    · repeat' (first | with_reducible refine acc_none ?_ | (conv in hold _ => simp (disch := omega) only [go_sem]) | refine Stp.go ?_ | (with_reducible first | refine it_pos rfl ?_ | refine it_neg (by decide) ?_ | refine st_nil rfl ?_ | refine s_op ?_ ?_ | exact True.intro) | ((with_reducible first | refine dw_reg0 ?_ | refine dw_regB ?_); (conv => arg 3; whnf)) | (refine Spl.go (fun hq he => ?_) (fun hq he => ?_) <;> first | (exfalso; clear hq; omega) | ((try (first | (conv => arg 8; simp only [hq]) | (conv => arg 4; simp only [hq]))); clear hq)) | ((with_reducible first | refine c_split (fun hq => ?_) (fun hq => ?_) | refine q_split (fun hq => ?_) (fun hq => ?_)) <;> (try (first | (conv => arg 8; simp only [hq]) | (conv => arg 4; simp only [hq])))) | (with_reducible refine fin_0 ?_ (by first | rfl | (conv => lhs; simp only [go_sem])) ?_) | exact Sub.refl _ | omega)
      exact sub_iff ⟨fun _ i q r h2 hq hr => hJ i q r (by omega) h2 hq hr, fun _ => rfl⟩
theorem ValidTable_impl (t : Ta) (hl : rsz t.rows ≤ 1048576) : Does Try.prog 40 [] [taD t] (Bo (decide (tOk t))) [] := by
  have h1 := validRows_ok t hl
  by_cases hr : rOk t
  · have h2 := isSorted_ok t hr (f := 25) (by kernel_rfl) (fun a b hab hl ha hb => compareRows_impl a b hab hl ha hb)
    rw [decide_eq_true hr] at h1
    have hiff : tOk t ↔ asc t.rows := ⟨fun h i q r h0 hq hr' => (h.2 i r hr').2 q h0 hq, fun h => ⟨hr.1, fun i r hr' => ⟨hr.2 i r hr', fun q h0 hq => h i q r h0 hq hr'⟩⟩⟩
    rw [show decide (tOk t) = decide (asc t.rows) from decide_eq_decide.2 hiff]
    refine does0 c_impl_ValidTable mixed (Nat.le_of_ble_eq_true rfl) ?_
    conv => arg 3; whnf
    repeat' (first | with_reducible refine acc_none ?_ | (conv in hold _ => simp (disch := omega) only [go_sem]) | refine Stp.go ?_ | (with_reducible first | refine it_pos rfl ?_ | refine it_neg (by decide) ?_ | refine st_nil rfl ?_ | refine s_op ?_ ?_ | exact True.intro) | ((with_reducible first | refine dw_reg0 ?_ | refine dw_regB ?_); (conv => arg 3; whnf)) | (refine Spl.go (fun hq he => ?_) (fun hq he => ?_) <;> first | (exfalso; clear hq; omega) | ((try (first | (conv => arg 8; simp only [hq]) | (conv => arg 4; simp only [hq]))); clear hq)) | ((with_reducible first | refine c_split (fun hq => ?_) (fun hq => ?_) | refine q_split (fun hq => ?_) (fun hq => ?_)) <;> (try (first | (conv => arg 8; simp only [hq]) | (conv => arg 4; simp only [hq])))) | (with_reducible refine fin_0 ?_ (by first | rfl | (conv => lhs; simp only [go_sem])) ?_) | exact Sub.refl _ | omega)
    refine c_doesE (h1) ?_ ?_ ?_
    · ((try (conv => rhs; simp (disch := omega) only [go_sem])); try rfl)
    · first | rfl | (conv => lhs; simp only [go_sem])
    repeat' (first | with_reducible refine acc_none ?_ | (conv in hold _ => simp (disch := omega) only [go_sem]) | refine Stp.go ?_ | (with_reducible first | refine it_pos rfl ?_ | refine it_neg (by decide) ?_ | refine st_nil rfl ?_ | refine s_op ?_ ?_ | exact True.intro) | ((with_reducible first | refine dw_reg0 ?_ | refine dw_regB ?_); (conv => arg 3; whnf)) | (refine Spl.go (fun hq he => ?_) (fun hq he => ?_) <;> first | (exfalso; clear hq; omega) | ((try (first | (conv => arg 8; simp only [hq]) | (conv => arg 4; simp only [hq]))); clear hq)) | ((with_reducible first | refine c_split (fun hq => ?_) (fun hq => ?_) | refine q_split (fun hq => ?_) (fun hq => ?_)) <;> (try (first | (conv => arg 8; simp only [hq]) | (conv => arg 4; simp only [hq])))) | (with_reducible refine fin_0 ?_ (by first | rfl | (conv => lhs; simp only [go_sem])) ?_) | exact Sub.refl _ | omega)
    refine c_doesE (h2) ?_ ?_ ?_
    · ((try (conv => rhs; simp (disch := omega) only [go_sem])); try rfl)
    · first | rfl | (conv => lhs; simp only [go_sem])
    repeat' (first | with_reducible refine acc_none ?_ | (conv in hold _ => simp (disch := omega) only [go_sem]) | refine Stp.go ?_ | (with_reducible first | refine it_pos rfl ?_ | refine it_neg (by decide) ?_ | refine st_nil rfl ?_ | refine s_op ?_ ?_ | exact True.intro) | ((with_reducible first | refine dw_reg0 ?_ | refine dw_regB ?_); (conv => arg 3; whnf)) | (refine Spl.go (fun hq he => ?_) (fun hq he => ?_) <;> first | (exfalso; clear hq; omega) | ((try (first | (conv => arg 8; simp only [hq]) | (conv => arg 4; simp only [hq]))); clear hq)) | ((with_reducible first | refine c_split (fun hq => ?_) (fun hq => ?_) | refine q_split (fun hq => ?_) (fun hq => ?_)) <;> (try (first | (conv => arg 8; simp only [hq]) | (conv => arg 4; simp only [hq])))) | (with_reducible refine fin_0 ?_ (by first | rfl | (conv => lhs; simp only [go_sem])) ?_) | exact Sub.refl _ | omega)
  · rw [decide_eq_false hr] at h1
    rw [decide_eq_false (fun h : tOk t => hr ⟨h.1, fun i r hr' => (h.2 i r hr').1⟩)]
    refine does0 c_impl_ValidTable mixed (Nat.le_of_ble_eq_true rfl) ?_
    conv => arg 3; whnf
    repeat' (first | with_reducible refine acc_none ?_ | (conv in hold _ => simp (disch := omega) only [go_sem]) | refine Stp.go ?_ | (with_reducible first | refine it_pos rfl ?_ | refine it_neg (by decide) ?_ | refine st_nil rfl ?_ | refine s_op ?_ ?_ | exact True.intro) | ((with_reducible first | refine dw_reg0 ?_ | refine dw_regB ?_); (conv => arg 3; whnf)) | (refine Spl.go (fun hq he => ?_) (fun hq he => ?_) <;> first | (exfalso; clear hq; omega) | ((try (first | (conv => arg 8; simp only [hq]) | (conv => arg 4; simp only [hq]))); clear hq)) | ((with_reducible first | refine c_split (fun hq => ?_) (fun hq => ?_) | refine q_split (fun hq => ?_) (fun hq => ?_)) <;> (try (first | (conv => arg 8; simp only [hq]) | (conv => arg 4; simp only [hq])))) | (with_reducible refine fin_0 ?_ (by first | rfl | (conv => lhs; simp only [go_sem])) ?_) | exact Sub.refl _ | omega)
    refine c_doesE (h1) ?_ ?_ ?_
    · ((try (conv => rhs; simp (disch := omega) only [go_sem])); try rfl)
    · first | rfl | (conv => lhs; simp only [go_sem])
    repeat' (first | with_reducible refine acc_none ?_ | (conv in hold _ => simp (disch := omega) only [go_sem]) | refine Stp.go ?_ | (with_reducible first | refine it_pos rfl ?_ | refine it_neg (by decide) ?_ | refine st_nil rfl ?_ | refine s_op ?_ ?_ | exact True.intro) | ((with_reducible first | refine dw_reg0 ?_ | refine dw_regB ?_); (conv => arg 3; whnf)) | (refine Spl.go (fun hq he => ?_) (fun hq he => ?_) <;> first | (exfalso; clear hq; omega) | ((try (first | (conv => arg 8; simp only [hq]) | (conv => arg 4; simp only [hq]))); clear hq)) | ((with_reducible first | refine c_split (fun hq => ?_) (fun hq => ?_) | refine q_split (fun hq => ?_) (fun hq => ?_)) <;> (try (first | (conv => arg 8; simp only [hq]) | (conv => arg 4; simp only [hq])))) | (with_reducible refine fin_0 ?_ (by first | rfl | (conv => lhs; simp only [go_sem])) ?_) | exact Sub.refl _ | omega)
end Go.Proofs.Ytjjcokmnebkbiaa

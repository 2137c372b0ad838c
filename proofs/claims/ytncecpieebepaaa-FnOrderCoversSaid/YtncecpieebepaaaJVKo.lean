/-
  Rows are ordered; a place in an ordered list, found by halving. Plain lemmas.
-/
import Derived.Test.YtncecpieebepaaaJVTbW
import Derived.Test.YtncecpieebepaaaDca
import Derived.Test.YtncecpieebepaaaDcd
import Derived.Test.YtncecpieebepaaaVBox
import Derived.Test.YtncecpieebepaaaVCol
import Derived.Test.YtncecpieebepaaaKVOrd
set_option maxHeartbeats 4000000
set_option maxRecDepth 100000
set_option linter.unusedVariables false
set_option linter.unusedSimpArgs false
namespace Go.Proofs.Ytncecpieebepaaa
open Go.RowKit

def keyV (v : V) : Int := if v.b = true then -10000 else v.n
theorem cmpV_key {a b : V} (ha : a.ok) (hb : b.ok) : (cmpV a b = 0 ∧ keyV a = keyV b) ∨ (cmpV a b = -1 ∧ keyV a < keyV b) ∨ (cmpV a b = 1 ∧ keyV b < keyV a) := by
  have h1 := ha.nul
  have h2 := hb.nul
  have h3 := ha.lo
  have h4 := hb.lo
  unfold cmpV keyV
  cases hab : a.b <;> cases hbb : b.b <;> simp [hab, hbb] at h1 h2 ⊢
  all_goals (repeat' split) <;> omega
theorem cmpR_trans : ∀ (a b c : List V), a.length = b.length → b.length = c.length → (∀ v, v ∈ a → v.ok) → (∀ v, v ∈ b → v.ok) → (∀ v, v ∈ c → v.ok) → cmpR a b ≤ 0 → (cmpR b c ≤ 0 → cmpR a c ≤ 0) ∧ (cmpR b c < 0 → cmpR a c < 0)
  | [], [], [], _, _, _, _, _, _ => ⟨fun h => h, fun h => h⟩
  | [], [], _ :: _, _, h, _, _, _, _ => by simp at h
  | [], _ :: _, _, h, _, _, _, _, _ => by simp at h
  | _ :: _, [], _, h, _, _, _, _, _ => by simp at h
  | _ :: _, _ :: _, [], _, h, _, _, _, _ => by simp at h
  | x :: a, y :: b, z :: c, h, h', ha, hb, hc, hab => by
    have hx := ha x (List.mem_cons_self ..)
    have hy := hb y (List.mem_cons_self ..)
    have hz := hc z (List.mem_cons_self ..)
    have ih := cmpR_trans a b c (by simpa using h) (by simpa using h') (fun v hv => ha v (List.mem_cons_of_mem _ hv)) (fun v hv => hb v (List.mem_cons_of_mem _ hv)) (fun v hv => hc v (List.mem_cons_of_mem _ hv))
    have k1 := cmpV_key hx hy
    have k2 := cmpV_key hy hz
    have k3 := cmpV_key hx hz
    rw [cmpR] at hab
    rw [cmpR, cmpR]
    by_cases e1 : cmpV x y = 0
    · rw [if_pos e1] at hab
      have ih := ih hab
      by_cases e2 : cmpV y z = 0
      · rw [if_pos e2, if_pos (show cmpV x z = 0 by omega)]
        exact ih
      · rw [if_neg e2, if_neg (show ¬ cmpV x z = 0 by omega)]
        constructor <;> intro h <;> omega
    · rw [if_neg e1] at hab
      by_cases e2 : cmpV y z = 0
      · rw [if_pos e2, if_neg (show ¬ cmpV x z = 0 by omega)]
        constructor <;> intro h <;> omega
      · rw [if_neg e2]
        by_cases e3 : cmpV x z = 0
        · rw [if_pos e3]
          constructor <;> intro h <;> omega
        · rw [if_neg e3]
          constructor <;> intro h <;> omega
theorem cmpV_self (a : V) : cmpV a a = 0 := cmpV_0 ⟨rfl, rfl⟩
theorem cmpR_self : ∀ a : List V, cmpR a a = 0
  | [] => rfl
  | x :: a => by rw [cmpR, if_pos (cmpV_self x)]; exact cmpR_self a
theorem cmpV_eq {a b : V} (h : cmpV a b = 0) : a = b := by
  unfold cmpV at h
  split at h
  · rename_i h1
    cases a; cases b
    simp at h1
    obtain ⟨rfl, rfl⟩ := h1
    rfl
  · split at h <;> omega
theorem cmpR_eq : ∀ {a b : List V}, cmpR a b = 0 → a = b
  | [], [], _ => rfl
  | [], _ :: l, h => by change ((0 : Nat) : Int) - ((l.length + 1 : Nat) : Int) = 0 at h; omega
  | _ :: l, [], h => by change ((l.length + 1 : Nat) : Int) - ((0 : Nat) : Int) = 0 at h; omega
  | x :: a, y :: b, h => by
    rw [cmpR] at h
    by_cases e : cmpV x y = 0
    · rw [if_pos e] at h
      rw [cmpV_eq e, cmpR_eq h]
    · rw [if_neg e] at h
      exact (e h).elim
/-- Halving. -/
def stepB (p : Nat → Bool) (s : Nat × Nat) : Nat × Nat := if s.1 < s.2 then (if p ((s.1 + s.2) / 2) then (s.1, (s.1 + s.2) / 2) else ((s.1 + s.2) / 2 + 1, s.2)) else s
def itB (p : Nat → Bool) (n : Nat) : Nat → Nat × Nat
  | 0 => (0, n)
  | i + 1 => stepB p (itB p n i)
theorem itB_end {p : Nat → Bool} {n i : Nat} (h : ¬ (itB p n i).1 < (itB p n i).2) : ∀ d, itB p n (i + d) = itB p n i
  | 0 => rfl
  | d + 1 => by
    rw [← Nat.add_assoc, itB, itB_end h d]
    unfold stepB
    rw [if_neg h]
theorem itB_inv {p : Nat → Bool} {n : Nat} (hp : ∀ i j, i ≤ j → j < n → p i = true → p j = true) : ∀ i, ((itB p n i).1 ≤ (itB p n i).2 ∧ (itB p n i).2 ≤ n ∧ (itB p n i).2 - (itB p n i).1 + i ≤ max n i) ∧ (∀ j, j < (itB p n i).1 → p j = false) ∧ (∀ j, (itB p n i).2 ≤ j → j < n → p j = true)
  | 0 => ⟨⟨Nat.zero_le _, Nat.le_refl _, by show n - 0 + 0 ≤ max n 0; omega⟩, fun j hj => absurd hj (Nat.not_lt_zero j), fun j (h1 : n ≤ j) h2 => by omega⟩
  | i + 1 => by
    obtain ⟨⟨h1, h2, h3⟩, h4, h5⟩ := itB_inv hp i
    rw [itB]
    generalize itB p n i = s at h1 h2 h3 h4 h5
    obtain ⟨lo, hi⟩ := s
    simp only at h1 h2 h3 h4 h5
    unfold stepB
    by_cases hlt : lo < hi
    · simp only [hlt, if_true]
      cases hm : p ((lo + hi) / 2) with
      | true =>
        simp only [if_true]
        refine ⟨⟨by omega, by omega, by omega⟩, h4, fun j hj hjn => ?_⟩
        exact hp _ j hj hjn hm
      | false =>
        simp only [Bool.false_eq_true, if_false]
        refine ⟨⟨by omega, by omega, by omega⟩, fun j hj => ?_, h5⟩
        cases hj' : p j with
        | false => rfl
        | true => rw [hp j ((lo + hi) / 2) (by omega) (by omega) hj'] at hm; cases hm
    · simp only [hlt, if_false]
      exact ⟨⟨h1, h2, by omega⟩, h4, h5⟩
end Go.Proofs.Ytncecpieebepaaa
set_option maxHeartbeats 4000000
set_option maxRecDepth 100000
set_option linter.unusedVariables false
set_option linter.unusedSimpArgs false
namespace Go.Proofs.Ytncecpieebepaaa
open Go.RowKit

/-- How a key compares two rows. -/
def kk (k : Sk) (a b : List V) : Int := if k.d = true then cmpV (colV k.c.toNat b) (colV k.c.toNat a) else cmpV (colV k.c.toNat a) (colV k.c.toNat b)
def cmpK (ks : List Sk) (a b : List V) : Int := ks.foldl (fun r k => if r = 0 then kk k a b else r) 0
theorem cmpK_next {ks : List Sk} {i : Nat} {k : Sk} (h : ks[i]? = some k) (a b : List V) : cmpK (ks.take (i + 1)) a b = if cmpK (ks.take i) a b = 0 then kk k a b else cmpK (ks.take i) a b := by
  unfold cmpK
  rw [take_next h, List.foldl_append]
  rfl
theorem fold_stay {a b : List V} {r : Int} (h : r ≠ 0) : ∀ ks : List Sk, ks.foldl (fun r k => if r = 0 then kk k a b else r) r = r
  | [] => rfl
  | k :: ks => by
    rw [List.foldl_cons, if_neg h]
    exact fold_stay h ks
theorem cmpK_split (ks ls : List Sk) (a b : List V) : cmpK (ks ++ ls) a b = ls.foldl (fun r k => if r = 0 then kk k a b else r) (cmpK ks a b) := by
  unfold cmpK
  rw [List.foldl_append]
theorem cmpK_take {ks : List Sk} {i : Nat} {a b : List V} (h : cmpK (ks.take i) a b ≠ 0) : cmpK ks a b = cmpK (ks.take i) a b := by
  have e := List.take_append_drop i ks
  have := cmpK_split (ks.take i) (ks.drop i) a b
  rw [e, fold_stay h] at this
  exact this
/-- A key that fits rows. -/
def keyIn (w : Nat) (k : Sk) : Prop := 0 ≤ k.c ∧ k.c < (w : Int)
theorem kk_anti {w : Nat} {k : Sk} (hk : keyIn w k) {a b : List V} (ha : a.length = w ∧ ∀ v, v ∈ a → v.ok) (hb : b.length = w ∧ ∀ v, v ∈ b → v.ok) : kk k b a = - kk k a b := by
  have h1 : (colV k.c.toNat a).ok := ha.2 _ (List.mem_of_getElem? (colV_at (by have := hk.1; have := hk.2; omega)))
  have h2 : (colV k.c.toNat b).ok := hb.2 _ (List.mem_of_getElem? (colV_at (by have := hk.1; have := hk.2; omega)))
  have h3 := cmpV_anti h1 h2
  unfold kk
  split <;> omega
theorem cmpK_anti {w : Nat} : ∀ (ks : List Sk) (hks : ∀ k, k ∈ ks → keyIn w k) {a b : List V} (ha : a.length = w ∧ ∀ v, v ∈ a → v.ok) (hb : b.length = w ∧ ∀ v, v ∈ b → v.ok), cmpK ks b a = - cmpK ks a b := by
  intro ks hks a b ha hb
  have key : ∀ (l : List Sk) (r : Int), (∀ k, k ∈ l → keyIn w k) → l.foldl (fun r k => if r = 0 then kk k b a else r) (-r) = - l.foldl (fun r k => if r = 0 then kk k a b else r) r := by
    intro l
    induction l with
    | nil => intro r _; rfl
    | cons k l ih =>
      intro r hl
      rw [List.foldl_cons, List.foldl_cons]
      by_cases hr : r = 0
      · subst hr
        rw [if_pos (by omega), if_pos rfl, kk_anti (hl k (List.mem_cons_self ..)) ha hb]
        exact ih _ (fun x hx => hl x (List.mem_cons_of_mem _ hx))
      · rw [if_neg (by omega), if_neg hr]
        exact ih _ (fun x hx => hl x (List.mem_cons_of_mem _ hx))
  have := key ks 0 hks
  simpa [cmpK] using this
def ordF : D := .fn 53 []
def keyF (k : Sk) : D := .fn 69 [.ptr [I k.c, Bo k.d]]
def keyD (k : Sk) : D := if k.d = true then .fn 87 [.ptr [keyF k]] else keyF k
def thenD (d e : D) : D := .fn 68 [.ptr [d], .ptr [e]]
def ordD (ks : List Sk) : D := ks.foldl (fun d k => thenD d (keyD k)) ordF
theorem ordD_next {ks : List Sk} {i : Nat} {k : Sk} (h : ks[i]? = some k) : ordD (ks.take (i + 1)) = thenD (ordD (ks.take i)) (keyD k) := by
  unfold ordD
  rw [take_next h, List.foldl_append]
  rfl
/-- A function value that answers n for two rows. -/
def isOrd (d : D) (a b : List V) (n : Int) : Prop := ∃ (f : FuncId) (caps : List D), d = .fn f caps ∧ enters Try.prog f = true ∧ D.purL caps = true ∧ Does Try.prog f [] (rowD a :: rowD b :: caps) (I n) []
theorem ordF_ok (a b : List V) : isOrd ordF a b 0 := by
  refine ⟨_, _, rfl, by kernel_rfl, rfl, ?_⟩
  refine does0 c_impl_orderBy_1 mixed (Nat.le_of_ble_eq_true rfl) ?_
  conv => arg 3; whnf
  repeat' (first | with_reducible refine acc_none ?_ | (conv in hold _ => simp (disch := omega) only [go_sem]) | refine Stp.go ?_ | (with_reducible first | refine it_pos rfl ?_ | refine it_neg (by decide) ?_ | refine st_nil rfl ?_ | refine s_op ?_ ?_ | exact True.intro) | ((with_reducible first | refine dw_reg0 ?_ | refine dw_regB ?_); (conv => arg 3; whnf)) | (refine Spl.go (fun hq he => ?_) (fun hq he => ?_) <;> first | (exfalso; clear hq; omega) | ((try (first | (conv => arg 8; simp only [hq]) | (conv => arg 4; simp only [hq]))); clear hq)) | ((with_reducible first | refine c_split (fun hq => ?_) (fun hq => ?_) | refine q_split (fun hq => ?_) (fun hq => ?_)) <;> (try (first | (conv => arg 8; simp only [hq]) | (conv => arg 4; simp only [hq])))) | (with_reducible refine fin_0 ?_ (by first | rfl | (conv => lhs; simp only [go_sem])) ?_) | exact Sub.refl _ | omega)
theorem keyF_ok {w : Nat} (hw : w < 1000) {k : Sk} (hk : keyIn w k) {a b : List V} (ha : a.length = w ∧ ∀ v, v ∈ a → v.ok) (hb : b.length = w ∧ ∀ v, v ∈ b → v.ok) : isOrd (keyF k) a b (cmpV (colV k.c.toNat a) (colV k.c.toNat b)) := by
  obtain ⟨k0, k1⟩ := hk
  have hva := colV_at (c := k.c.toNat) (r := a) (by omega)
  have hvb := colV_at (c := k.c.toNat) (r := b) (by omega)
  have h1 := Value_compare_ok (colV k.c.toNat a) (colV k.c.toNat b) (ha.2 _ (List.mem_of_getElem? hva)) (hb.2 _ (List.mem_of_getElem? hvb))
  have hal := ha.1
  have hbl := hb.1
  refine ⟨_, _, rfl, by kernel_rfl, rfl, ?_⟩
  refine does0 c_impl_SortKey_order_1 mixed (Nat.le_of_ble_eq_true rfl) ?_
  conv => arg 3; whnf
  repeat' (first | with_reducible refine acc_none ?_ | (conv in hold _ => simp (disch := omega) only [go_sem, List.getElem?_map, hva, hvb, Option.map_some]) | refine Stp.go ?_ | (with_reducible first | refine it_pos rfl ?_ | refine it_neg (by decide) ?_ | refine st_nil rfl ?_ | refine s_op ?_ ?_ | exact True.intro) | ((with_reducible first | refine dw_reg0 ?_ | refine dw_regB ?_); (conv => arg 3; whnf)) | (refine Spl.go (fun hq he => ?_) (fun hq he => ?_) <;> first | (exfalso; clear hq; omega) | ((try (first | (conv => arg 8; simp only [hq]) | (conv => arg 4; simp only [hq]))); clear hq)) | ((with_reducible first | refine c_split (fun hq => ?_) (fun hq => ?_) | refine q_split (fun hq => ?_) (fun hq => ?_)) <;> (try (first | (conv => arg 8; simp only [hq]) | (conv => arg 4; simp only [hq])))) | (with_reducible refine fin_0 ?_ (by first | rfl | (conv => lhs; simp only [go_sem, List.getElem?_map, hva, hvb, Option.map_some])) ?_) | exact Sub.refl _ | omega)
  refine c_doesE (h1) ?_ ?_ ?_
  · ((try (conv => rhs; simp (disch := omega) only [go_sem, List.getElem?_map, hva, hvb, Option.map_some])); try rfl)
  · first | rfl | (conv => lhs; simp only [go_sem, List.getElem?_map, hva, hvb, Option.map_some])
  repeat' (first | with_reducible refine acc_none ?_ | (conv in hold _ => simp (disch := omega) only [go_sem, List.getElem?_map, hva, hvb, Option.map_some]) | refine Stp.go ?_ | (with_reducible first | refine it_pos rfl ?_ | refine it_neg (by decide) ?_ | refine st_nil rfl ?_ | refine s_op ?_ ?_ | exact True.intro) | ((with_reducible first | refine dw_reg0 ?_ | refine dw_regB ?_); (conv => arg 3; whnf)) | (refine Spl.go (fun hq he => ?_) (fun hq he => ?_) <;> first | (exfalso; clear hq; omega) | ((try (first | (conv => arg 8; simp only [hq]) | (conv => arg 4; simp only [hq]))); clear hq)) | ((with_reducible first | refine c_split (fun hq => ?_) (fun hq => ?_) | refine q_split (fun hq => ?_) (fun hq => ?_)) <;> (try (first | (conv => arg 8; simp only [hq]) | (conv => arg 4; simp only [hq])))) | (with_reducible refine fin_0 ?_ (by first | rfl | (conv => lhs; simp only [go_sem, List.getElem?_map, hva, hvb, Option.map_some])) ?_) | exact Sub.refl _ | omega)
theorem keyD_ok {w : Nat} (hw : w < 1000) {k : Sk} (hk : keyIn w k) {a b : List V} (ha : a.length = w ∧ ∀ v, v ∈ a → v.ok) (hb : b.length = w ∧ ∀ v, v ∈ b → v.ok) : isOrd (keyD k) a b (kk k a b) := by
  unfold keyD kk
  split
  · obtain ⟨f, caps, h1, h2, h3, h4⟩ := keyF_ok hw hk hb ha
    rw [h1]
    refine ⟨_, _, rfl, by kernel_rfl, by simp only [D.purL, D.pur, h3, Bool.and_self], ?_⟩
    refine does0 c_impl_rowOrder_reversed_1 mixed (Nat.le_of_ble_eq_true rfl) ?_
    conv => arg 3; whnf
    repeat' (first | with_reducible refine acc_none ?_ | (conv in hold _ => simp (disch := omega) only [go_sem]) | refine Stp.go ?_ | (with_reducible first | refine it_pos rfl ?_ | refine it_neg (by decide) ?_ | refine st_nil rfl ?_ | refine s_op ?_ ?_ | exact True.intro) | ((with_reducible first | refine dw_reg0 ?_ | refine dw_regB ?_); (conv => arg 3; whnf)) | (refine Spl.go (fun hq he => ?_) (fun hq he => ?_) <;> first | (exfalso; clear hq; omega) | ((try (first | (conv => arg 8; simp only [hq]) | (conv => arg 4; simp only [hq]))); clear hq)) | ((with_reducible first | refine c_split (fun hq => ?_) (fun hq => ?_) | refine q_split (fun hq => ?_) (fun hq => ?_)) <;> (try (first | (conv => arg 8; simp only [hq]) | (conv => arg 4; simp only [hq])))) | (with_reducible refine fin_0 ?_ (by first | rfl | (conv => lhs; simp only [go_sem])) ?_) | exact Sub.refl _ | omega)
    refine v_fn (h2) ?_
    refine c_doesE (h4) ?_ ?_ ?_
    · ((try (conv => rhs; simp (disch := omega) only [go_sem, h3])); try rfl)
    · first | rfl | (conv => lhs; simp only [go_sem, h3])
    repeat' (first | with_reducible refine acc_none ?_ | (conv in hold _ => simp (disch := omega) only [go_sem, h3]) | refine Stp.go ?_ | (with_reducible first | refine it_pos rfl ?_ | refine it_neg (by decide) ?_ | refine st_nil rfl ?_ | refine s_op ?_ ?_ | exact True.intro) | ((with_reducible first | refine dw_reg0 ?_ | refine dw_regB ?_); (conv => arg 3; whnf)) | (refine Spl.go (fun hq he => ?_) (fun hq he => ?_) <;> first | (exfalso; clear hq; omega) | ((try (first | (conv => arg 8; simp only [hq]) | (conv => arg 4; simp only [hq]))); clear hq)) | ((with_reducible first | refine c_split (fun hq => ?_) (fun hq => ?_) | refine q_split (fun hq => ?_) (fun hq => ?_)) <;> (try (first | (conv => arg 8; simp only [hq]) | (conv => arg 4; simp only [hq])))) | (with_reducible refine fin_0 ?_ (by first | rfl | (conv => lhs; simp only [go_sem, h3])) ?_) | exact Sub.refl _ | omega)
  · exact keyF_ok hw hk ha hb
theorem thenD_ok {d e : D} {a b : List V} {m n : Int} (hd : isOrd d a b m) (he' : isOrd e a b n) : isOrd (thenD d e) a b (if m = 0 then n else m) := by
  obtain ⟨f, caps, rfl, h2, h3, h4⟩ := hd
  obtain ⟨g, caps', rfl, g2, g3, g4⟩ := he'
  refine ⟨_, _, rfl, by kernel_rfl, by simp only [D.purL, D.pur, h3, g3, Bool.and_self], ?_⟩
  by_cases hm : m = 0
  · have hb : (m != 0) = false := by rw [hm]; rfl
    rw [if_pos hm]
    refine does0 c_impl_rowOrder_then_1 mixed (Nat.le_of_ble_eq_true rfl) ?_
    conv => arg 3; whnf
    repeat' (first | with_reducible refine acc_none ?_ | (conv in hold _ => simp (disch := omega) only [go_sem]) | refine Stp.go ?_ | (with_reducible first | refine it_pos rfl ?_ | refine it_neg (by decide) ?_ | refine st_nil rfl ?_ | refine s_op ?_ ?_ | exact True.intro) | ((with_reducible first | refine dw_reg0 ?_ | refine dw_regB ?_); (conv => arg 3; whnf)) | (refine Spl.go (fun hq he => ?_) (fun hq he => ?_) <;> first | (exfalso; clear hq; omega) | ((try (first | (conv => arg 8; simp only [hq]) | (conv => arg 4; simp only [hq]))); clear hq)) | ((with_reducible first | refine c_split (fun hq => ?_) (fun hq => ?_) | refine q_split (fun hq => ?_) (fun hq => ?_)) <;> (try (first | (conv => arg 8; simp only [hq]) | (conv => arg 4; simp only [hq])))) | (with_reducible refine fin_0 ?_ (by first | rfl | (conv => lhs; simp only [go_sem])) ?_) | exact Sub.refl _ | omega)
    refine v_fn (h2) ?_
    refine c_doesE (h4) ?_ ?_ ?_
    · ((try (conv => rhs; simp (disch := omega) only [go_sem, h3, hb])); try rfl)
    · first | rfl | (conv => lhs; simp only [go_sem, h3, hb])
    repeat' (first | with_reducible refine acc_none ?_ | (conv in hold _ => simp (disch := omega) only [go_sem, h3, hb]) | refine Stp.go ?_ | (with_reducible first | refine it_pos rfl ?_ | refine it_neg (by decide) ?_ | refine st_nil rfl ?_ | refine s_op ?_ ?_ | exact True.intro) | ((with_reducible first | refine dw_reg0 ?_ | refine dw_regB ?_); (conv => arg 3; whnf)) | (refine Spl.go (fun hq he => ?_) (fun hq he => ?_) <;> first | (exfalso; clear hq; omega) | ((try (first | (conv => arg 8; simp only [hq]) | (conv => arg 4; simp only [hq]))); clear hq)) | ((with_reducible first | refine c_split (fun hq => ?_) (fun hq => ?_) | refine q_split (fun hq => ?_) (fun hq => ?_)) <;> (try (first | (conv => arg 8; simp only [hq]) | (conv => arg 4; simp only [hq])))) | (with_reducible refine fin_0 ?_ (by first | rfl | (conv => lhs; simp only [go_sem, h3, hb])) ?_) | exact Sub.refl _ | omega)
    refine v_fn (g2) ?_
    refine c_doesE (g4) ?_ ?_ ?_
    · ((try (conv => rhs; simp (disch := omega) only [go_sem, g3])); try rfl)
    · first | rfl | (conv => lhs; simp only [go_sem, g3])
    repeat' (first | with_reducible refine acc_none ?_ | (conv in hold _ => simp (disch := omega) only [go_sem, g3]) | refine Stp.go ?_ | (with_reducible first | refine it_pos rfl ?_ | refine it_neg (by decide) ?_ | refine st_nil rfl ?_ | refine s_op ?_ ?_ | exact True.intro) | ((with_reducible first | refine dw_reg0 ?_ | refine dw_regB ?_); (conv => arg 3; whnf)) | (refine Spl.go (fun hq he => ?_) (fun hq he => ?_) <;> first | (exfalso; clear hq; omega) | ((try (first | (conv => arg 8; simp only [hq]) | (conv => arg 4; simp only [hq]))); clear hq)) | ((with_reducible first | refine c_split (fun hq => ?_) (fun hq => ?_) | refine q_split (fun hq => ?_) (fun hq => ?_)) <;> (try (first | (conv => arg 8; simp only [hq]) | (conv => arg 4; simp only [hq])))) | (with_reducible refine fin_0 ?_ (by first | rfl | (conv => lhs; simp only [go_sem, g3])) ?_) | exact Sub.refl _ | omega)
  · have hb : (m != 0) = true := bne_iff_ne.2 hm
    rw [if_neg hm]
    refine does0 c_impl_rowOrder_then_1 mixed (Nat.le_of_ble_eq_true rfl) ?_
    conv => arg 3; whnf
    repeat' (first | with_reducible refine acc_none ?_ | (conv in hold _ => simp (disch := omega) only [go_sem]) | refine Stp.go ?_ | (with_reducible first | refine it_pos rfl ?_ | refine it_neg (by decide) ?_ | refine st_nil rfl ?_ | refine s_op ?_ ?_ | exact True.intro) | ((with_reducible first | refine dw_reg0 ?_ | refine dw_regB ?_); (conv => arg 3; whnf)) | (refine Spl.go (fun hq he => ?_) (fun hq he => ?_) <;> first | (exfalso; clear hq; omega) | ((try (first | (conv => arg 8; simp only [hq]) | (conv => arg 4; simp only [hq]))); clear hq)) | ((with_reducible first | refine c_split (fun hq => ?_) (fun hq => ?_) | refine q_split (fun hq => ?_) (fun hq => ?_)) <;> (try (first | (conv => arg 8; simp only [hq]) | (conv => arg 4; simp only [hq])))) | (with_reducible refine fin_0 ?_ (by first | rfl | (conv => lhs; simp only [go_sem])) ?_) | exact Sub.refl _ | omega)
    refine v_fn (h2) ?_
    refine c_doesE (h4) ?_ ?_ ?_
    · ((try (conv => rhs; simp (disch := omega) only [go_sem, h3, hb])); try rfl)
    · first | rfl | (conv => lhs; simp only [go_sem, h3, hb])
    repeat' (first | with_reducible refine acc_none ?_ | (conv in hold _ => simp (disch := omega) only [go_sem, h3, hb]) | refine Stp.go ?_ | (with_reducible first | refine it_pos rfl ?_ | refine it_neg (by decide) ?_ | refine st_nil rfl ?_ | refine s_op ?_ ?_ | exact True.intro) | ((with_reducible first | refine dw_reg0 ?_ | refine dw_regB ?_); (conv => arg 3; whnf)) | (refine Spl.go (fun hq he => ?_) (fun hq he => ?_) <;> first | (exfalso; clear hq; omega) | ((try (first | (conv => arg 8; simp only [hq]) | (conv => arg 4; simp only [hq]))); clear hq)) | ((with_reducible first | refine c_split (fun hq => ?_) (fun hq => ?_) | refine q_split (fun hq => ?_) (fun hq => ?_)) <;> (try (first | (conv => arg 8; simp only [hq]) | (conv => arg 4; simp only [hq])))) | (with_reducible refine fin_0 ?_ (by first | rfl | (conv => lhs; simp only [go_sem, h3, hb])) ?_) | exact Sub.refl _ | omega)
theorem ordD_ok {w : Nat} (hw : w < 1000) {a b : List V} (ha : a.length = w ∧ ∀ v, v ∈ a → v.ok) (hb : b.length = w ∧ ∀ v, v ∈ b → v.ok) (ks : List Sk) (hks : ∀ k, k ∈ ks → keyIn w k) : ∀ i, i ≤ ks.length → isOrd (ordD (ks.take i)) a b (cmpK (ks.take i) a b)
  | 0, _ => ordF_ok a b
  | i + 1, hi => by
    obtain ⟨k, hk⟩ : ∃ k, ks[i]? = some k := ⟨_, List.getElem?_eq_getElem (by omega)⟩
    rw [ordD_next hk, cmpK_next hk]
    exact thenD_ok (ordD_ok hw ha hb ks hks i (by omega)) (keyD_ok hw (hks k (List.mem_of_getElem? hk)) ha hb)
/-- Pure function values. -/
def isFn (d : D) : Prop := ∃ (f : FuncId) (caps : List D), d = .fn f caps ∧ D.purL caps = true
theorem keyD_fn (k : Sk) : isFn (keyD k) := by
  unfold keyD
  split
  · exact ⟨_, _, rfl, rfl⟩
  · exact ⟨_, _, rfl, rfl⟩
theorem keyD_pur (k : Sk) : (keyD k).pur = true := by
  unfold keyD
  split <;> rfl
theorem thenD_pur {d e : D} : (thenD d e).pur = true := rfl
theorem ordD_pur (ks : List Sk) (i : Nat) (hi : i ≤ ks.length) : (ordD (ks.take i)).pur = true := by
  cases i with
  | zero => rfl
  | succ i =>
    obtain ⟨k, hk⟩ : ∃ k, ks[i]? = some k := ⟨_, List.getElem?_eq_getElem (by omega)⟩
    rw [ordD_next hk]
    exact thenD_pur
theorem ordD_fn (ks : List Sk) (i : Nat) (hi : i ≤ ks.length) : isFn (ordD (ks.take i)) := by
  cases i with
  | zero => exact ⟨_, _, rfl, rfl⟩
  | succ i =>
    obtain ⟨k, hk⟩ : ∃ k, ks[i]? = some k := ⟨_, List.getElem?_eq_getElem (by omega)⟩
    rw [ordD_next hk]
    exact ⟨_, _, rfl, rfl⟩
theorem then_ok (d e : D) (hd : isFn d) (he' : isFn e) : Does Try.prog 54 [] [d, e] (thenD d e) [] := by
  obtain ⟨f, caps, rfl, h3⟩ := hd
  obtain ⟨g, caps', rfl, g3⟩ := he'
  have rd := fun L => ren_pure.renL_pure L caps h3
  have re := fun L => ren_pure.renL_pure L caps' g3
  refine does0 c_impl_rowOrder_then mixed (Nat.le_of_ble_eq_true rfl) ?_
  conv => arg 3; whnf
  repeat' (first | with_reducible refine acc_none ?_ | (conv in hold _ => simp (disch := omega) only [go_sem]) | refine Stp.go ?_ | (with_reducible first | refine it_pos rfl ?_ | refine it_neg (by decide) ?_ | refine st_nil rfl ?_ | refine s_op ?_ ?_ | exact True.intro) | ((with_reducible first | refine dw_reg0 ?_ | refine dw_regB ?_); (conv => arg 3; whnf)) | (refine Spl.go (fun hq he => ?_) (fun hq he => ?_) <;> first | (exfalso; clear hq; omega) | ((try (first | (conv => arg 8; simp only [hq]) | (conv => arg 4; simp only [hq]))); clear hq)) | ((with_reducible first | refine c_split (fun hq => ?_) (fun hq => ?_) | refine q_split (fun hq => ?_) (fun hq => ?_)) <;> (try (first | (conv => arg 8; simp only [hq]) | (conv => arg 4; simp only [hq])))) | exact Sub.refl _ | omega)
  refine fin_wk (wk_fro 4 2000002 (by decide) (by decide) rfl ?_) ?_
  rotate_left
  (conv in hold _ => simp (disch := omega) only [go_sem, h3, g3, rd, re])
  · refine fin_wk (wk_fro 4 2000003 (by decide) (by decide) rfl ?_) ?_
    rotate_left
    (conv in hold _ => simp (disch := omega) only [go_sem, h3, g3, rd, re])
    · refine fin_L [] ?_ ?_ rfl ?_
      repeat' (first | (conv in hold _ => simp (disch := omega) only [go_sem, rd, re]) | exact True.intro | exact Sub.refl _ | omega)
    · simp only [D.purL, D.pur, g3, Bool.and_self]
  · simp only [D.purL, D.pur, h3, Bool.and_self]
theorem reversed_ok (d : D) (hd : isFn d) : Does Try.prog 70 [] [d] (.fn 87 [.ptr [d]]) [] := by
  obtain ⟨f, caps, rfl, h3⟩ := hd
  have rd := fun L => ren_pure.renL_pure L caps h3
  refine does0 c_impl_rowOrder_reversed mixed (Nat.le_of_ble_eq_true rfl) ?_
  conv => arg 3; whnf
  repeat' (first | with_reducible refine acc_none ?_ | (conv in hold _ => simp (disch := omega) only [go_sem]) | refine Stp.go ?_ | (with_reducible first | refine it_pos rfl ?_ | refine it_neg (by decide) ?_ | refine st_nil rfl ?_ | refine s_op ?_ ?_ | exact True.intro) | ((with_reducible first | refine dw_reg0 ?_ | refine dw_regB ?_); (conv => arg 3; whnf)) | (refine Spl.go (fun hq he => ?_) (fun hq he => ?_) <;> first | (exfalso; clear hq; omega) | ((try (first | (conv => arg 8; simp only [hq]) | (conv => arg 4; simp only [hq]))); clear hq)) | ((with_reducible first | refine c_split (fun hq => ?_) (fun hq => ?_) | refine q_split (fun hq => ?_) (fun hq => ?_)) <;> (try (first | (conv => arg 8; simp only [hq]) | (conv => arg 4; simp only [hq])))) | exact Sub.refl _ | omega)
  refine fin_wk (wk_fro 2 2000001 (by decide) (by decide) rfl ?_) ?_
  rotate_left
  (conv in hold _ => simp (disch := omega) only [go_sem, h3, rd])
  · refine fin_L [] ?_ ?_ rfl ?_
    repeat' (first | (conv in hold _ => simp (disch := omega) only [go_sem, rd]) | exact True.intro | exact Sub.refl _ | omega)
  · simp only [D.purL, D.pur, h3, Bool.and_self]
theorem order_ok (k : Sk) : Does Try.prog 55 [] [skD k] (keyD k) [] := by
  have hr := reversed_ok (keyF k) ⟨_, _, rfl, rfl⟩
  unfold keyD
  cases hd : k.d with
  | true =>
    rw [if_pos rfl]
    unfold keyF at hr ⊢
    rw [hd] at hr ⊢
    refine does0 c_impl_SortKey_order mixed (Nat.le_of_ble_eq_true rfl) ?_
    conv => arg 3; whnf
    repeat' ((fail_if_success (with_reducible first | refine s_call ?_ | refine s_cal ?_ | refine s_inv ?_)); first | with_reducible refine acc_none ?_ | (conv in hold _ => simp (disch := omega) only [go_sem, hd]) | refine Stp.go ?_ | (with_reducible first | refine it_pos rfl ?_ | refine it_neg (by decide) ?_ | refine st_nil rfl ?_ | refine s_op ?_ ?_ | exact True.intro) | ((with_reducible first | refine dw_reg0 ?_ | refine dw_regB ?_); (conv => arg 3; whnf)) | (refine Spl.go (fun hq he => ?_) (fun hq he => ?_) <;> first | (exfalso; clear hq; omega) | ((try (first | (conv => arg 8; simp only [hq]) | (conv => arg 4; simp only [hq]))); clear hq)) | ((with_reducible first | refine c_split (fun hq => ?_) (fun hq => ?_) | refine q_split (fun hq => ?_) (fun hq => ?_)) <;> (try (first | (conv => arg 8; simp only [hq]) | (conv => arg 4; simp only [hq])))) | (with_reducible refine fin_0 ?_ (by first | rfl | (conv => lhs; simp only [go_sem, hd])) ?_) | exact Sub.refl _ | omega)
    refine s_pre (pre_fro (t := 7) (g := 2000001) (by decide) (by decide) rfl ?_) ?_
    rotate_left
    repeat' (first | with_reducible refine acc_none ?_ | (conv in hold _ => simp (disch := omega) only [go_sem]) | refine Stp.go ?_ | (with_reducible first | refine it_pos rfl ?_ | refine it_neg (by decide) ?_ | refine st_nil rfl ?_ | refine s_op ?_ ?_ | exact True.intro) | ((with_reducible first | refine dw_reg0 ?_ | refine dw_regB ?_); (conv => arg 3; whnf)) | (refine Spl.go (fun hq he => ?_) (fun hq he => ?_) <;> first | (exfalso; clear hq; omega) | ((try (first | (conv => arg 8; simp only [hq]) | (conv => arg 4; simp only [hq]))); clear hq)) | ((with_reducible first | refine c_split (fun hq => ?_) (fun hq => ?_) | refine q_split (fun hq => ?_) (fun hq => ?_)) <;> (try (first | (conv => arg 8; simp only [hq]) | (conv => arg 4; simp only [hq])))) | (with_reducible refine fin_0 ?_ (by first | rfl | (conv => lhs; simp only [go_sem])) ?_) | exact Sub.refl _ | omega)
    refine c_doesE (hr) ?_ ?_ ?_
    · ((try (conv => rhs; simp (disch := omega) only [go_sem])); try rfl)
    · first | rfl | (conv => lhs; simp only [go_sem])
    repeat' (first | with_reducible refine acc_none ?_ | (conv in hold _ => simp (disch := omega) only [go_sem]) | refine Stp.go ?_ | (with_reducible first | refine it_pos rfl ?_ | refine it_neg (by decide) ?_ | refine st_nil rfl ?_ | refine s_op ?_ ?_ | exact True.intro) | ((with_reducible first | refine dw_reg0 ?_ | refine dw_regB ?_); (conv => arg 3; whnf)) | (refine Spl.go (fun hq he => ?_) (fun hq he => ?_) <;> first | (exfalso; clear hq; omega) | ((try (first | (conv => arg 8; simp only [hq]) | (conv => arg 4; simp only [hq]))); clear hq)) | ((with_reducible first | refine c_split (fun hq => ?_) (fun hq => ?_) | refine q_split (fun hq => ?_) (fun hq => ?_)) <;> (try (first | (conv => arg 8; simp only [hq]) | (conv => arg 4; simp only [hq])))) | (with_reducible refine fin_0 ?_ (by first | rfl | (conv => lhs; simp only [go_sem])) ?_) | exact Sub.refl _ | omega)
    · rfl
  | false =>
    rw [if_neg (by decide)]
    unfold keyF
    rw [hd]
    refine does0 c_impl_SortKey_order mixed (Nat.le_of_ble_eq_true rfl) ?_
    conv => arg 3; whnf
    repeat' (first | with_reducible refine acc_none ?_ | (conv in hold _ => simp (disch := omega) only [go_sem, hd]) | refine Stp.go ?_ | (with_reducible first | refine it_pos rfl ?_ | refine it_neg (by decide) ?_ | refine st_nil rfl ?_ | refine s_op ?_ ?_ | exact True.intro) | ((with_reducible first | refine dw_reg0 ?_ | refine dw_regB ?_); (conv => arg 3; whnf)) | (refine Spl.go (fun hq he => ?_) (fun hq he => ?_) <;> first | (exfalso; clear hq; omega) | ((try (first | (conv => arg 8; simp only [hq]) | (conv => arg 4; simp only [hq]))); clear hq)) | ((with_reducible first | refine c_split (fun hq => ?_) (fun hq => ?_) | refine q_split (fun hq => ?_) (fun hq => ?_)) <;> (try (first | (conv => arg 8; simp only [hq]) | (conv => arg 4; simp only [hq])))) | exact Sub.refl _ | omega)
    refine fin_wk (wk_fro 2 2000001 (by decide) (by decide) rfl ?_) ?_
    rotate_left
    (conv in hold _ => simp (disch := omega) only [go_sem, hd])
    · refine fin_L [] ?_ ?_ rfl ?_
      repeat' (first | (conv in hold _ => simp (disch := omega) only [go_sem]) | exact True.intro | exact Sub.refl _ | omega)
    · rfl
theorem orderBy_ok (ks : List Sk) (hl : ks.length ≤ 1000) : Does Try.prog 32 [] [sksD ks] (ordD ks) [] := by
  have hof := fun i hi => ordD_fn ks i hi
  have hop := fun i hi => ordD_pur ks i hi
  refine does0 c_impl_orderBy mixed (Nat.le_of_ble_eq_true rfl) ?_
  conv => arg 3; whnf
  repeat' (first | with_reducible refine acc_none ?_ | (conv in hold _ => simp (disch := omega) only [go_sem]) | refine Stp.go ?_ | (with_reducible first | refine it_pos rfl ?_ | refine it_neg (by decide) ?_ | refine st_nil rfl ?_ | refine s_op ?_ ?_ | exact True.intro) | ((with_reducible first | refine dw_reg0 ?_ | refine dw_regB ?_); (conv => arg 3; whnf)) | (refine Spl.go (fun hq he => ?_) (fun hq he => ?_) <;> first | (exfalso; clear hq; omega) | ((try (first | (conv => arg 8; simp only [hq]) | (conv => arg 4; simp only [hq]))); clear hq)) | ((with_reducible first | refine c_split (fun hq => ?_) (fun hq => ?_) | refine q_split (fun hq => ?_) (fun hq => ?_)) <;> (try (first | (conv => arg 8; simp only [hq]) | (conv => arg 4; simp only [hq])))) | (with_reducible refine fin_0 ?_ (by first | rfl | (conv => lhs; simp only [go_sem])) ?_) | exact Sub.refl _ | omega)
  refine dw_for (c := 0) (l := fun i => [(3, ordD (ks.take i)), (6, sksD ks), (7, I ks.length), (8, I i)]) ks.length (fun _ => True) 0 trivial (Wk.list [] rfl rfl ?_) (fun i hi _ => ?_) (Nat.zero_le _)
  · repeat' (first | (conv in hold _ => simp (disch := omega) only [go_sem]) | exact True.intro | exact Sub.refl _ | omega)
    first | exact rfl | exact ⟨rfl, rfl⟩ | skip
  · have hopi := hop i hi
    rcases at_or_end hi with ⟨k, hk, hlt⟩ | rfl
    · have h1 := order_ok k
      have h2 := then_ok (ordD (ks.take i)) (keyD k) (hof i hi) (keyD_fn k)
      have hkp := keyD_pur k
      have htp : (thenD (ordD (ks.take i)) (keyD k)).pur = true := rfl
      rw [← ordD_next hk] at h2 htp
      repeat' (first | with_reducible refine acc_none ?_ | (conv in hold _ => simp (disch := omega) only [go_sem, List.getElem?_map, hk, Option.map_some]) | refine Stp.go ?_ | (with_reducible first | refine it_pos rfl ?_ | refine it_neg (by decide) ?_ | refine st_nil rfl ?_ | refine s_op ?_ ?_ | exact True.intro) | ((with_reducible first | refine dw_reg0 ?_ | refine dw_regB ?_); (conv => arg 3; whnf)) | (refine Spl.go (fun hq he => ?_) (fun hq he => ?_) <;> first | (exfalso; clear hq; omega) | ((try (first | (conv => arg 8; simp only [hq]) | (conv => arg 4; simp only [hq]))); clear hq)) | ((with_reducible first | refine c_split (fun hq => ?_) (fun hq => ?_) | refine q_split (fun hq => ?_) (fun hq => ?_)) <;> (try (first | (conv => arg 8; simp only [hq]) | (conv => arg 4; simp only [hq])))) | (with_reducible refine fin_0 ?_ (by first | rfl | (conv => lhs; simp only [go_sem, List.getElem?_map, hk, Option.map_some])) ?_) | exact Sub.refl _ | omega)
      refine c_doesE (h1) ?_ ?_ ?_
      · ((try (conv => rhs; simp (disch := omega) only [go_sem, hkp])); try rfl)
      · first | rfl | (conv => lhs; simp only [go_sem, hkp])
      repeat' (first | with_reducible refine acc_none ?_ | (conv in hold _ => simp (disch := omega) only [go_sem, hkp]) | refine Stp.go ?_ | (with_reducible first | refine it_pos rfl ?_ | refine it_neg (by decide) ?_ | refine st_nil rfl ?_ | refine s_op ?_ ?_ | exact True.intro) | ((with_reducible first | refine dw_reg0 ?_ | refine dw_regB ?_); (conv => arg 3; whnf)) | (refine Spl.go (fun hq he => ?_) (fun hq he => ?_) <;> first | (exfalso; clear hq; omega) | ((try (first | (conv => arg 8; simp only [hq]) | (conv => arg 4; simp only [hq]))); clear hq)) | ((with_reducible first | refine c_split (fun hq => ?_) (fun hq => ?_) | refine q_split (fun hq => ?_) (fun hq => ?_)) <;> (try (first | (conv => arg 8; simp only [hq]) | (conv => arg 4; simp only [hq])))) | (with_reducible refine fin_0 ?_ (by first | rfl | (conv => lhs; simp only [go_sem, hkp])) ?_) | exact Sub.refl _ | omega)
      refine c_doesE (h2) ?_ ?_ ?_
      · ((try (conv => rhs; simp (disch := omega) only [go_sem, hkp, hopi, htp])); try rfl)
      · first | rfl | (conv => lhs; simp only [go_sem, hkp, hopi, htp])
      repeat' (first | with_reducible refine acc_none ?_ | (conv in hold _ => simp (disch := omega) only [go_sem, hkp, hopi, htp]) | refine Stp.go ?_ | (with_reducible first | refine it_pos rfl ?_ | refine it_neg (by decide) ?_ | refine st_nil rfl ?_ | refine s_op ?_ ?_ | exact True.intro) | ((with_reducible first | refine dw_reg0 ?_ | refine dw_regB ?_); (conv => arg 3; whnf)) | (refine Spl.go (fun hq he => ?_) (fun hq he => ?_) <;> first | (exfalso; clear hq; omega) | ((try (first | (conv => arg 8; simp only [hq]) | (conv => arg 4; simp only [hq]))); clear hq)) | ((with_reducible first | refine c_split (fun hq => ?_) (fun hq => ?_) | refine q_split (fun hq => ?_) (fun hq => ?_)) <;> (try (first | (conv => arg 8; simp only [hq]) | (conv => arg 4; simp only [hq])))) | (with_reducible refine fin_0 ?_ (by first | rfl | (conv => lhs; simp only [go_sem, hkp, hopi, htp])) ?_) | exact Sub.refl _ | omega)
      refine ⟨hlt, trivial, Wk.list [] rfl rfl ?_⟩
      have hren := ren_pure [] _ htp
      repeat' (first | (conv in hold _ => simp (disch := omega) only [go_sem, hren]) | exact True.intro | exact Sub.refl _ | omega)
    · have e1 : ks.take ks.length = ks := List.take_length
      rw [e1] at hopi
      repeat' (first | with_reducible refine acc_none ?_ | (conv in hold _ => simp (disch := omega) only [go_sem, e1, hopi]) | refine Stp.go ?_ | (with_reducible first | refine it_pos rfl ?_ | refine it_neg (by decide) ?_ | refine st_nil rfl ?_ | refine s_op ?_ ?_ | exact True.intro) | ((with_reducible first | refine dw_reg0 ?_ | refine dw_regB ?_); (conv => arg 3; whnf)) | (refine Spl.go (fun hq he => ?_) (fun hq he => ?_) <;> first | (exfalso; clear hq; omega) | ((try (first | (conv => arg 8; simp only [hq]) | (conv => arg 4; simp only [hq]))); clear hq)) | ((with_reducible first | refine c_split (fun hq => ?_) (fun hq => ?_) | refine q_split (fun hq => ?_) (fun hq => ?_)) <;> (try (first | (conv => arg 8; simp only [hq]) | (conv => arg 4; simp only [hq])))) | (with_reducible refine fin_0 ?_ (by first | rfl | (conv => lhs; simp only [go_sem, e1, hopi])) ?_) | exact Sub.refl _ | omega)
end Go.Proofs.Ytncecpieebepaaa

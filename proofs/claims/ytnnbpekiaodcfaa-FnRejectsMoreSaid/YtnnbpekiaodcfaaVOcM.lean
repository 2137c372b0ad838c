/-
  More states have more outcomes; the state of a value is among the outcomes. No condition.
-/
import Derived.Test.YtnnbpekiaodcfaaVOutD
set_option maxHeartbeats 4000000
set_option maxRecDepth 100000
set_option linter.unusedVariables false
set_option linter.unusedSimpArgs false
namespace Go.Proofs.Ytnnbpekiaodcfaa
open Go.RowKit

/-- A set of states is a part of another one. -/
def sub7 (a b : Int) : Bool := intBit .and .i64 a b == a
def all8 (P : Int → Bool) : Bool := P 0 && (P 1 && (P 2 && (P 3 && (P 4 && (P 5 && (P 6 && P 7))))))
theorem all8_at {P : Int → Bool} (h : all8 P = true) {a : Int} (ha : 0 ≤ a ∧ a ≤ 7) : P a = true := by
  simp only [all8, Bool.and_eq_true] at h
  rcases range8 ha with rfl | rfl | rfl | rfl | rfl | rfl | rfl | rfl
  · exact h.1
  · exact h.2.1
  · exact h.2.2.1
  · exact h.2.2.2.1
  · exact h.2.2.2.2.1
  · exact h.2.2.2.2.2.1
  · exact h.2.2.2.2.2.2.1
  · exact h.2.2.2.2.2.2.2
def imp (p q : Bool) : Bool := if p then q else true
theorem imp_at {p q : Bool} (h : imp p q = true) (hp : p = true) : q = true := by
  unfold imp at h
  rwa [if_pos hp] at h
theorem t_refl : all8 (fun a => sub7 a a) = true := by kernel_rfl
theorem sub7_refl {a : Int} (ha : 0 ≤ a ∧ a ≤ 7) : sub7 a a = true := all8_at t_refl ha
theorem t_trans : all8 (fun a => all8 fun b => imp (sub7 a b) (all8 fun c => imp (sub7 b c) (sub7 a c))) = true := by kernel_rfl
theorem sub7_trans {a b c : Int} (ha : 0 ≤ a ∧ a ≤ 7) (hb : 0 ≤ b ∧ b ≤ 7) (hc : 0 ≤ c ∧ c ≤ 7) (h : sub7 a b = true) (h' : sub7 b c = true) : sub7 a c = true :=
  imp_at (all8_at (imp_at (all8_at (all8_at t_trans ha) hb) h) hc) h'
theorem t_neg : all8 (fun a => all8 fun b => imp (sub7 a b) (sub7 (neg a) (neg b))) = true := by kernel_rfl
theorem neg_mono {a b : Int} (ha : 0 ≤ a ∧ a ≤ 7) (hb : 0 ≤ b ∧ b ≤ 7) (h : sub7 a b = true) : sub7 (neg a) (neg b) = true := imp_at (all8_at (all8_at t_neg ha) hb) h
theorem t_nt : all8 (fun a => all8 fun b => imp (sub7 a b) (sub7 (ntV a) (ntV b))) = true := by kernel_rfl
theorem nt_mono {a b : Int} (ha : 0 ≤ a ∧ a ≤ 7) (hb : 0 ≤ b ∧ b ≤ 7) (h : sub7 a b = true) : sub7 (ntV a) (ntV b) = true := imp_at (all8_at (all8_at t_nt ha) hb) h
def kRep (k : Int) : Int := if k = 8 then 8 else if k = 9 then 9 else if 6 ≤ k then 6 else 3
theorem bnS_rep (k a b : Int) : bnS k a b = bnS (kRep k) a b := by
  unfold kRep
  by_cases h8 : k = 8
  · rw [if_pos h8, h8]
  · rw [if_neg h8]
    by_cases h9 : k = 9
    · rw [if_pos h9, h9]
    · rw [if_neg h9]
      by_cases h6 : 6 ≤ k
      · rw [if_pos h6]
        simp [bnS, h8, h9, h6]
      · rw [if_neg h6]
        simp [bnS, h8, h9, h6]
def monoB (k : Int) : Bool := all8 fun a => all8 fun a' => imp (sub7 a a') (all8 fun b => sub7 (bnS k a b) (bnS k a' b) && sub7 (bnS k b a) (bnS k b a'))
def rngB (k : Int) : Bool := all8 fun a => all8 fun b => in7 (bnS k a b)
theorem t_3 : (monoB 3 && rngB 3) = true := by kernel_rfl
theorem t_6 : (monoB 6 && rngB 6) = true := by kernel_rfl
theorem t_8 : (monoB 8 && rngB 8) = true := by kernel_rfl
theorem t_9 : (monoB 9 && rngB 9) = true := by kernel_rfl
theorem t_bin (k : Int) : (monoB (kRep k) && rngB (kRep k)) = true := by
  unfold kRep
  split
  · exact t_8
  · split
    · exact t_9
    · split
      · exact t_6
      · exact t_3
theorem bnS_range (k : Int) {a b : Int} (ha : 0 ≤ a ∧ a ≤ 7) (hb : 0 ≤ b ∧ b ≤ 7) : 0 ≤ bnS k a b ∧ bnS k a b ≤ 7 := by
  have h := t_bin k
  rw [Bool.and_eq_true] at h
  have := all8_at (all8_at h.2 ha) hb
  rw [bnS_rep]
  exact in7_iff this
theorem bnS_mono (k : Int) {a a' b b' : Int} (ha : 0 ≤ a ∧ a ≤ 7) (ha' : 0 ≤ a' ∧ a' ≤ 7) (hb : 0 ≤ b ∧ b ≤ 7) (hb' : 0 ≤ b' ∧ b' ≤ 7) (h : sub7 a a' = true) (h' : sub7 b b' = true) : sub7 (bnS k a b) (bnS k a' b') = true := by
  have ht := t_bin k
  rw [Bool.and_eq_true] at ht
  have h1 := all8_at (imp_at (all8_at (all8_at ht.1 ha) ha') h) hb
  have h2 := all8_at (imp_at (all8_at (all8_at ht.1 hb) hb') h') ha'
  rw [Bool.and_eq_true] at h1 h2
  rw [bnS_rep, bnS_rep k a' b']
  have r := fun {x y : Int} => @bnS_range (kRep k) x y
  have rr : kRep (kRep k) = kRep k := by
    unfold kRep
    repeat' split
    all_goals omega
  exact sub7_trans (r ha hb) (r ha' hb) (r ha' hb') h1.1 h2.2
theorem neg_range {a : Int} (ha : 0 ≤ a ∧ a ≤ 7) : 0 ≤ neg a ∧ neg a ≤ 7 := in7_iff (tab_not ha).2
/-- States that are as they may be. -/
def ssIn (ss : List Int) : Prop := ∀ (j : Nat) (s : Int), ss[j]? = some s → 1 ≤ s ∧ s ≤ 7
theorem oc_range {ss : List Int} (hs : ssIn ss) : ∀ (e : E) (d : Nat), eOk e ss.length d → 0 ≤ oc e ss ∧ oc e ss ≤ 7 := by
  refine E.ind (fun e ih d he => ?_)
  rcases eOk_kids he with ⟨h1, _⟩ | ⟨h1, a, hks, hao⟩ | ⟨h1, a, b, hks, hao, hbo⟩
  · rcases h1 with h1 | h1
    · have hlo := ((eOk_iff e _ d).1 he).2.2.2
      unfold leafOk at hlo
      rw [if_pos h1] at hlo
      have e0 : ss[e.c.toNat]? = some _ := List.getElem?_eq_getElem (show e.c.toNat < ss.length by omega)
      rw [oc_col h1 e0]
      have := hs _ _ e0
      omega
    · rw [oc_const h1]
      exact stV_range _
  · have hn := ih a (by rw [hks]; exact List.mem_cons_self ..) (d - 1) hao
    rcases h1 with h1 | h1
    · rw [oc_not h1 hks]
      exact neg_range hn
    · rw [oc_null h1 hks]
      exact ntV_range _
  · have hn := ih a (by rw [hks]; exact List.mem_cons_self ..) (d - 1) hao
    have hm := ih b (by rw [hks]; exact List.mem_cons_of_mem _ (List.mem_cons_self ..)) (d - 1) hbo
    rw [oc_two (by omega) (by omega) (by omega) (by omega) hks]
    exact bnS_range _ hn hm
/-- More states have more outcomes. -/
theorem oc_mono {ss tt : List Int} (hs : ssIn ss) (ht : ssIn tt) (hl : ss.length = tt.length) (hst : ∀ (j : Nat) (s t : Int), ss[j]? = some s → tt[j]? = some t → sub7 s t = true) : ∀ (e : E) (d : Nat), eOk e ss.length d → sub7 (oc e ss) (oc e tt) = true := by
  refine E.ind (fun e ih d he => ?_)
  rcases eOk_kids he with ⟨h1, _⟩ | ⟨h1, a, hks, hao⟩ | ⟨h1, a, b, hks, hao, hbo⟩
  · rcases h1 with h1 | h1
    · have hlo := ((eOk_iff e _ d).1 he).2.2.2
      unfold leafOk at hlo
      rw [if_pos h1] at hlo
      have e0 : ss[e.c.toNat]? = some _ := List.getElem?_eq_getElem (show e.c.toNat < ss.length by omega)
      have e1 : tt[e.c.toNat]? = some _ := List.getElem?_eq_getElem (show e.c.toNat < tt.length by omega)
      rw [oc_col h1 e0, oc_col h1 e1]
      exact hst _ _ _ e0 e1
    · rw [oc_const h1, oc_const h1]
      exact sub7_refl (stV_range _)
  · have hn := ih a (by rw [hks]; exact List.mem_cons_self ..) (d - 1) hao
    have r1 := oc_range hs a _ hao
    have r2 := oc_range ht a _ (hl ▸ hao)
    rcases h1 with h1 | h1
    · rw [oc_not h1 hks, oc_not h1 hks]
      exact neg_mono r1 r2 hn
    · rw [oc_null h1 hks, oc_null h1 hks]
      exact nt_mono r1 r2 hn
  · have hn := ih a (by rw [hks]; exact List.mem_cons_self ..) (d - 1) hao
    have hm := ih b (by rw [hks]; exact List.mem_cons_of_mem _ (List.mem_cons_self ..)) (d - 1) hbo
    rw [oc_two (by omega) (by omega) (by omega) (by omega) hks, oc_two (by omega) (by omega) (by omega) (by omega) hks]
    exact bnS_mono _ (oc_range hs a _ hao) (oc_range ht a _ (hl ▸ hao)) (oc_range hs b _ hbo) (oc_range ht b _ (hl ▸ hbo)) hn hm
/-- The truth of a state. -/
def trS (s : Int) : Int := if s = 4 then 2 else if s = 1 then 0 else 1
theorem tr_st (v : V) : tr v = trS (stV v) := by
  unfold tr trS stV
  by_cases hb : v.b = true
  · rw [if_pos hb, if_pos hb]; rfl
  · rw [if_neg hb, if_neg hb]
    by_cases hn : v.n = 0
    · rw [if_pos hn, if_pos hn]; rfl
    · rw [if_neg hn, if_neg hn]; rfl
theorem st_3 (v : V) : stV v = 1 ∨ stV v = 2 ∨ stV v = 4 := by
  unfold stV
  repeat' split
  all_goals simp
theorem st_null {v : V} (h : v.b = true) : stV v = 4 := if_pos h
theorem st_num {v : V} (h : v.b = false) : stV v = 1 ∨ stV v = 2 := by
  unfold stV
  rw [if_neg (by rw [h]; decide)]
  split
  · exact Or.inl rfl
  · exact Or.inr rfl
/-- The state of a value of two kids is among the states of their states. -/
theorem st_comb (k : Int) (x y : V) : sub7 (stV (comb k x y)) (bnS k (stV x) (stV y)) = true := by
  by_cases h8 : k = 8
  · rw [comb8 h8, bnS_8 h8, tr_st x, tr_st y]
    rcases st_3 x with e | e | e <;> rcases st_3 y with e' | e' | e' <;> rw [e, e'] <;> first | kernel_rfl | rfl | decide
  · by_cases h9 : k = 9
    · rw [comb9 h9, bnS_9 h9, tr_st x, tr_st y]
      rcases st_3 x with e | e | e <;> rcases st_3 y with e' | e' | e' <;> rw [e, e'] <;> first | kernel_rfl | rfl | decide
    · by_cases hb : x.b = true ∨ y.b = true
      · rw [combN h8 h9 hb, bnS_rep]
        have hk : kRep k = 6 ∨ kRep k = 3 := by
          unfold kRep
          rw [if_neg h8, if_neg h9]
          split
          · exact Or.inl rfl
          · exact Or.inr rfl
        rcases hb with hb | hb
        · rw [st_null hb]
          rcases st_3 y with e | e | e <;> rcases hk with ek | ek <;> rw [e, ek]
          all_goals first | rfl | decide
        · rw [st_null hb]
          rcases st_3 x with e | e | e <;> rcases hk with ek | ek <;> rw [e, ek] <;> first | kernel_rfl | rfl | decide
      · have hx : x.b = false := by
          cases h : x.b with
          | true => exact (hb (Or.inl h)).elim
          | false => rfl
        have hy : y.b = false := by
          cases h : y.b with
          | true => exact (hb (Or.inr h)).elim
          | false => rfl
        rw [combX h8 h9 hx hy, bnS_rep]
        unfold kRep
        rw [if_neg h8, if_neg h9]
        by_cases h6 : 6 ≤ k
        · rw [if_pos h6, if_neg (by omega), if_neg (by omega), if_neg (by omega)]
          have h12 : ∀ c : Bool, stV ⟨false, b2i c⟩ = 1 ∨ stV ⟨false, b2i c⟩ = 2 := fun c => st_num rfl
          split
          · rcases st_num hx with e | e <;> rcases st_num hy with e' | e' <;> rcases h12 (x.n == y.n) with ec | ec <;> rw [e, e', ec] <;> first | kernel_rfl | rfl | decide
          · rcases st_num hx with e | e <;> rcases st_num hy with e' | e' <;> rcases h12 (decide (x.n < y.n)) with ec | ec <;> rw [e, e', ec] <;> first | kernel_rfl | rfl | decide
        · rw [if_neg h6]
          generalize (if k = 3 then num (x.n + y.n) else if k = 4 then num (x.n - y.n) else if k = 5 then num (x.n * y.n) else if k = 6 then ⟨false, b2i (x.n == y.n)⟩ else ⟨false, b2i (decide (x.n < y.n))⟩) = z
          rcases st_num hx with e | e <;> rcases st_num hy with e' | e' <;> rcases st_3 z with ec | ec | ec <;> rw [e, e', ec] <;> first | kernel_rfl | rfl | decide
theorem st_not (v : V) : sub7 (stV (ofTr (notTr (tr v)))) (neg (stV v)) = true := by
  rw [tr_st v]
  rcases st_3 v with e | e | e <;> rw [e] <;> first | kernel_rfl | rfl | decide
theorem st_nt (v : V) : sub7 (stV ⟨false, b2i v.b⟩) (ntV (stV v)) = true := by
  cases hb : v.b with
  | true => rw [st_null hb]; kernel_rfl
  | false => rcases st_num hb with e | e <;> rw [e] <;> first | kernel_rfl | rfl | decide
theorem st_in (v : V) : 0 ≤ stV v ∧ stV v ≤ 7 := stV_range v
/-- The state of a value is among the outcomes. -/
theorem oc_sound {ss : List Int} {row : List V} (hs : ssIn ss) (hl : row.length = ss.length) (hrs : ∀ (j : Nat) (v : V) (s : Int), row[j]? = some v → ss[j]? = some s → sub7 (stV v) s = true) : ∀ (e : E) (d : Nat), eOk e ss.length d → sub7 (stV (ev e row)) (oc e ss) = true := by
  refine E.ind (fun e ih d he => ?_)
  rcases eOk_kids he with ⟨h1, _⟩ | ⟨h1, a, hks, hao⟩ | ⟨h1, a, b, hks, hao, hbo⟩
  · rcases h1 with h1 | h1
    · have hlo := ((eOk_iff e _ d).1 he).2.2.2
      unfold leafOk at hlo
      rw [if_pos h1] at hlo
      have e0 : ss[e.c.toNat]? = some _ := List.getElem?_eq_getElem (show e.c.toNat < ss.length by omega)
      have e1 : row[e.c.toNat]? = some _ := List.getElem?_eq_getElem (show e.c.toNat < row.length by omega)
      rw [oc_col h1 e0, ev_col h1 e1]
      exact hrs _ _ _ e1 e0
    · rw [oc_const h1, ev_const h1]
      exact sub7_refl (stV_range _)
  · have hn := ih a (by rw [hks]; exact List.mem_cons_self ..) (d - 1) hao
    have r1 := oc_range hs a _ hao
    rcases h1 with h1 | h1
    · rw [oc_not h1 hks, ev_not h1 hks]
      exact sub7_trans (stV_range _) (neg_range (stV_range _)) (neg_range r1) (st_not _) (neg_mono (stV_range _) r1 hn)
    · rw [oc_null h1 hks, ev_null h1 hks]
      exact sub7_trans (stV_range _) (ntV_range _) (ntV_range _) (st_nt _) (nt_mono (stV_range _) r1 hn)
  · have hn := ih a (by rw [hks]; exact List.mem_cons_self ..) (d - 1) hao
    have hm := ih b (by rw [hks]; exact List.mem_cons_of_mem _ (List.mem_cons_self ..)) (d - 1) hbo
    have r1 := oc_range hs a _ hao
    have r2 := oc_range hs b _ hbo
    rw [oc_two (by omega) (by omega) (by omega) (by omega) hks, ev_two (by omega) (by omega) (by omega) (by omega) hks]
    exact sub7_trans (stV_range _) (bnS_range _ (stV_range _) (stV_range _)) (bnS_range _ r1 r2) (st_comb _ _ _) (bnS_mono _ (stV_range _) r1 (stV_range _) r2 hn hm)
end Go.Proofs.Ytnnbpekiaodcfaa

/-
  Drawn graphs. No condition.
-/
import Derived.Test.YtijaejjocmbkhaaVRead
import Derived.Test.YtijaejjocmbkhaaVSem
import Derived.Test.YtijaejjocmbkhaaDc15
set_option maxHeartbeats 4000000
set_option maxRecDepth 100000
set_option linter.unusedVariables false
set_option linter.unusedSimpArgs false
namespace Go.Proofs.Ytijaejjocmbkhaa
open Go.RowKit

/-- Lists of numbers. -/
def intsD (l : List Int) : D := .sl 1 (l.map I)
theorem ints_pur : ∀ l : List Int, D.purL (l.map I) = true
  | [] => rfl
  | p :: l => by rw [List.map_cons, D.purL, ints_pur l]; rfl
theorem ints_ren (L : List Nat) (l : List Int) : D.renL L (l.map I) = l.map I := ren_pure.renL_pure L _ (ints_pur l)
/-- An edge. -/
structure Ed where
  a : Int
  b : Int
  d : Int
def edD (e : Ed) : D := .agg [I e.a, I e.b, I e.d]
def edsD (l : List Ed) : D := .sl 3 (l.map edD)
theorem eds_pur : ∀ l : List Ed, D.purL (l.map edD) = true
  | [] => rfl
  | p :: l => by rw [List.map_cons, D.purL, eds_pur l]; rfl
theorem eds_ren (L : List Nat) (l : List Ed) : D.renL L (l.map edD) = l.map edD := ren_pure.renL_pure L _ (eds_pur l)
/-- A graph. -/
structure Gr where
  rs : List Int
  es : List Ed
def grD (g : Gr) : D := .agg [intsD g.rs, edsD g.es]
attribute [go_sem] ints_pur ints_ren intsD eds_pur eds_ren edsD edD grD
/-- Numbers of a drawn graph. -/
structure Near (g : Gr) : Prop where
  rl : g.rs.length ≤ 10
  el : g.es.length ≤ 6
  r : ∀ x, x ∈ g.rs → 0 ≤ x ∧ x ≤ 1001
  e : ∀ x, x ∈ g.es → (0 ≤ x.a ∧ x.a ≤ 10) ∧ (0 ≤ x.b ∧ x.b ≤ 10) ∧ (0 ≤ x.d ∧ x.d ≤ 1001)
theorem randomGraph_ok {bs : List Nat} (hs : Src bs) (p : Nat) (hp : p < 700000000) : ∃ (g : Gr) (q : Nat),
    (Does Try.prog 16 [rdD bs p] [.ref 1000000 0] (.agg [.own 1000001 1 g.rs.length, .own 1000002 3 g.es.length]) [rdD bs q, .row 1 (g.rs.map I), .row 3 (g.es.map edD)] ∧ (1 ≤ g.rs.length ∧ g.rs.length ≤ 5) ∧ g.es.length ≤ 5 ∧ (∀ x, x ∈ g.rs → 0 ≤ x ∧ x ≤ 1001) ∧ ∀ x, x ∈ g.es → (0 ≤ x.a ∧ x.a ≤ 10) ∧ (0 ≤ x.b ∧ x.b ≤ 10) ∧ (0 ≤ x.d ∧ x.d ≤ 1001)) ∧ p ≤ q ∧ q ≤ p + 100 := by
  obtain ⟨k, hk, k0, k1, _⟩ := pick_ok hs p (by omega) 5 (by omega)
  have hk1 := k1 (by omega)
  obtain ⟨m, rfl⟩ := Int.eq_ofNat_of_zero_le k0
  obtain ⟨rs, ps, hl, h0, hd, hp0, hp1⟩ := draws (fun p v q => Does Try.prog 17 [rdD bs p] [.ref 1000000 0, .sl 1 ([1, 2, 10, 50, 100, 1000, 7].map I)] (I v) [rdD bs q] ∧ 0 ≤ v ∧ v ≤ 1001) 900000000 1 (fun p hp => by
    obtain ⟨v, hv, hm⟩ := one_ok hs p (by omega) [1, 2, 10, 50, 100, 1000, 7] (by decide) (by decide)
    refine ⟨v, p + 1, ⟨hv, ?_⟩, by omega, by omega⟩
    simp only [List.mem_cons, List.not_mem_nil, or_false] at hm
    omega) (1 + m) (p + 1) (by omega)
  obtain ⟨j, hj, j0, j1, _⟩ := pick_ok hs (ps (1 + m)) (by omega) 6 (by omega)
  have hj1 := j1 (by omega)
  obtain ⟨n, rfl⟩ := Int.eq_ofNat_of_zero_le j0
  have hrs : ∀ x, x ∈ rs → 0 ≤ x ∧ x ≤ 1001 := fun x hx => by
    obtain ⟨i, hi⟩ := List.mem_iff_getElem?.1 hx
    exact (hd i x hi).2
  have hes : ∃ (es : List Ed) (qs : Nat → Nat), es.length = (if 1 + m > 1 then n else 0) ∧ qs 0 = ps (1 + m) + 1 ∧ (∀ i e, es[i]? = some e → qs (i + 1) = qs i + 3 ∧ Does Try.prog 9 [rdD bs (qs i)] [.ref 1000000 0, I (m : Int)] (I (e.b - 1)) [rdD bs (qs i + 1)] ∧ Does Try.prog 9 [rdD bs (qs i + 1)] [.ref 1000000 0, I e.b] (I e.a) [rdD bs (qs i + 2)] ∧ Does Try.prog 17 [rdD bs (qs i + 2)] [.ref 1000000 0, .sl 1 ([1, 2, 10, 100, 3].map I)] (I e.d) [rdD bs (qs i + 3)] ∧ (0 ≤ e.a ∧ e.a ≤ 10) ∧ (1 ≤ e.b ∧ e.b ≤ 10) ∧ (0 ≤ e.d ∧ e.d ≤ 1001)) ∧ qs (if 1 + m > 1 then n else 0) ≤ ps (1 + m) + 1 + 15 ∧ ps (1 + m) + 1 ≤ qs (if 1 + m > 1 then n else 0) := by
    obtain ⟨es, qs, a1, a2, a3, a4, a5⟩ := draws (fun p (e : Ed) q => q = p + 3 ∧ Does Try.prog 9 [rdD bs p] [.ref 1000000 0, I (m : Int)] (I (e.b - 1)) [rdD bs (p + 1)] ∧ Does Try.prog 9 [rdD bs (p + 1)] [.ref 1000000 0, I e.b] (I e.a) [rdD bs (p + 2)] ∧ Does Try.prog 17 [rdD bs (p + 2)] [.ref 1000000 0, .sl 1 ([1, 2, 10, 100, 3].map I)] (I e.d) [rdD bs (p + 3)] ∧ (0 ≤ e.a ∧ e.a ≤ 10) ∧ (1 ≤ e.b ∧ e.b ≤ 10) ∧ (0 ≤ e.d ∧ e.d ≤ 1001)) 900000000 3 (fun p hp => by
      obtain ⟨b, hb, b0, b1, b2⟩ := pick_ok hs p (by omega) m (by omega)
      obtain ⟨a, ha, a0, a1, a2⟩ := pick_ok hs (p + 1) (by omega) (b + 1) (by omega)
      obtain ⟨d, hd, hm⟩ := one_ok hs (p + 2) (by omega) [1, 2, 10, 100, 3] (by decide) (by decide)
      simp only [List.mem_cons, List.not_mem_nil, or_false] at hm
      refine ⟨⟨a, b + 1, d⟩, p + 3, ⟨rfl, by rw [show (⟨a, b + 1, d⟩ : Ed).b - 1 = b by show b + 1 - 1 = b; omega]; exact hb, ha, hd, ?_, ?_, ?_⟩, by omega, by omega⟩
      · show 0 ≤ a ∧ a ≤ 10
        by_cases hm0 : 1 ≤ (m : Int)
        · have := b1 hm0
          have := a1 (by omega)
          omega
        · have := b2 (by omega)
          have := a1 (by omega)
          omega
      · show 1 ≤ b + 1 ∧ b + 1 ≤ 10
        by_cases hm0 : 1 ≤ (m : Int)
        · have := b1 hm0
          omega
        · have := b2 (by omega)
          omega
      · show 0 ≤ d ∧ d ≤ 1001
        omega) (if 1 + m > 1 then n else 0) (ps (1 + m) + 1) (by split <;> omega)
    exact ⟨es, qs, a1, a2, a3, by split at a5 <;> rename_i hh <;> simp only [hh, if_true, if_false] at a5 ⊢ <;> omega, a4⟩
  obtain ⟨es, qs, el, e0, ed, e2, e3⟩ := hes
  generalize hM : (if 1 + m > 1 then n else 0) = M at el e2 e3
  have hMn : M ≤ 5 := by rw [← hM]; split <;> omega
  refine ⟨⟨rs, es⟩, qs M, ⟨?_, by show 1 ≤ rs.length ∧ rs.length ≤ 5; omega, by show es.length ≤ 5; omega, hrs, fun x hx => by
    obtain ⟨i, hi⟩ := List.mem_iff_getElem?.1 hx
    obtain ⟨_, _, _, _, h1, h2, h3⟩ := ed i x hi
    exact ⟨h1, by omega, h3⟩⟩, by omega, by omega⟩
  show Does Try.prog 16 [rdD bs p] [.ref 1000000 0] (.agg [.own 1000001 1 rs.length, .own 1000002 3 es.length]) [rdD bs (qs M), .row 1 (rs.map I), .row 3 (es.map edD)]
  refine does c_spec_randomGraph mixed (Nat.le_of_ble_eq_true rfl) 1 rfl ?_
  conv => arg 3; whnf
  repeat' (first
    | with_reducible refine acc_none ?_
    | (conv in hold _ => simp (disch := omega) only [go_sem, Nat.reduceEqDiff, Nat.reduceAdd, Nat.reduceMul, Nat.reduceSub, Nat.reduceLT, Nat.reduceLeDiff, ↓reduceIte, reduceCtorEq, Int.reduceToNat])
    | refine Stp.go ?_
    | with_reducible first | refine it_pos rfl ?_ | refine it_neg (by decide) ?_ | refine st_nil rfl ?_ | refine s_op ?_ ?_ | exact True.intro
    | ((with_reducible first | refine dw_reg0 ?_ | refine dw_regB ?_); (conv => arg 3; whnf))
    | (refine Spl.go (fun hq he => ?_) (fun hq he => ?_) <;> first | (exfalso; clear hq; omega) | ((try (first | (conv => arg 8; simp only [hq]) | (conv => arg 4; simp only [hq]))); clear hq))
    | ((with_reducible first | refine c_split (fun hq => ?_) (fun hq => ?_) | refine q_split (fun hq => ?_) (fun hq => ?_)) <;> (try (first | (conv => arg 8; simp only [hq]) | (conv => arg 4; simp only [hq]))))
    | (with_reducible refine fin_0 ?_ (by first | rfl | (conv => lhs; simp only [go_sem])) ?_)
    | exact Sub.refl _
    | omega)
  refine c_doesR [1000000] (hk) (callOK_of rfl (Nat.le_of_ble_eq_true rfl) rfl ?_ ?_) ?_ ?_
  · repeat' (first | (conv in hold _ => simp (disch := omega) only [go_sem, Nat.reduceEqDiff, Nat.reduceAdd, Nat.reduceMul, Nat.reduceSub, Nat.reduceLT, Nat.reduceLeDiff, ↓reduceIte, reduceCtorEq, Int.reduceToNat]) | exact True.intro | exact Sub.refl _ | omega)
  · repeat' (first | (conv in hold _ => simp (disch := omega) only [go_sem, Nat.reduceEqDiff, Nat.reduceAdd, Nat.reduceMul, Nat.reduceSub, Nat.reduceLT, Nat.reduceLeDiff, ↓reduceIte, reduceCtorEq, Int.reduceToNat]) | exact True.intro | exact Sub.refl _ | omega)
  · ((conv => rhs; simp (disch := omega) only [go_sem, Nat.reduceEqDiff, Nat.reduceAdd, Nat.reduceMul, Nat.reduceSub, Nat.reduceLT, Nat.reduceLeDiff, ↓reduceIte, reduceCtorEq, Int.reduceToNat]); try rfl)
  repeat' (first
    | with_reducible refine acc_none ?_
    | (conv in hold _ => simp (disch := omega) only [go_sem, Nat.reduceEqDiff, Nat.reduceAdd, Nat.reduceMul, Nat.reduceSub, Nat.reduceLT, Nat.reduceLeDiff, ↓reduceIte, reduceCtorEq, Int.reduceToNat])
    | refine Stp.go ?_
    | with_reducible first | refine it_pos rfl ?_ | refine it_neg (by decide) ?_ | refine st_nil rfl ?_ | refine s_op ?_ ?_ | exact True.intro
    | ((with_reducible first | refine dw_reg0 ?_ | refine dw_regB ?_); (conv => arg 3; whnf))
    | (refine Spl.go (fun hq he => ?_) (fun hq he => ?_) <;> first | (exfalso; clear hq; omega) | ((try (first | (conv => arg 8; simp only [hq]) | (conv => arg 4; simp only [hq]))); clear hq))
    | ((with_reducible first | refine c_split (fun hq => ?_) (fun hq => ?_) | refine q_split (fun hq => ?_) (fun hq => ?_)) <;> (try (first | (conv => arg 8; simp only [hq]) | (conv => arg 4; simp only [hq]))))
    | (with_reducible refine fin_0 ?_ (by first | rfl | (conv => lhs; simp only [go_sem])) ?_)
    | exact Sub.refl _
    | omega)
  refine dw_for (c := 4) (l := fun i => [(0, .ref 1000000 0), (2, .ref 1000001 0), (3, .ref 1000002 0), (4, I (1 + (m : Int))), (5, I i), (1000000, rdD bs (ps i)), (1000001, .obj [.nul, .nul]), (1000002, .obj [.own 1000003 1 i, .nul]), (1000003, .row 1 ((rs.take i).map I))]) (1 + m) (fun _ => True) 0 trivial ((wk_rowO 2000003 2000023 1 0 (by decide) (by decide) (by decide) rfl rfl rfl).trans (Wk.list [1000000, 2000002, 2000003, 2000023] rfl rfl ?_)) (fun i hi _ => ?_) (Nat.zero_le _)
  · rw [h0]
    repeat' (first | (conv in hold _ => simp (disch := omega) only [go_sem, Nat.reduceEqDiff, Nat.reduceAdd, Nat.reduceMul, Nat.reduceSub, Nat.reduceLT, Nat.reduceLeDiff, ↓reduceIte, reduceCtorEq, Int.reduceToNat]) | exact True.intro | exact Sub.refl _ | omega)
    exact rfl
  · have htl : (rs.take i).length = i := by rw [List.length_take]; omega
    have hmk := take_map I (vs := rs) (i := i) (by omega)
    by_cases hil : i < 1 + m
    · obtain ⟨v, hv⟩ : ∃ v, rs[i]? = some v := ⟨_, List.getElem?_eq_getElem (by omega)⟩
      have hdi := (hd i v hv).1
      have hnx := take_next hv
      repeat' (first
        | with_reducible refine acc_none ?_
        | (conv in hold _ => simp (disch := omega) only [go_sem, Nat.reduceEqDiff, Nat.reduceAdd, Nat.reduceMul, Nat.reduceSub, Nat.reduceLT, Nat.reduceLeDiff, ↓reduceIte, reduceCtorEq, Int.reduceToNat])
        | refine Stp.go ?_
        | with_reducible first | refine it_pos rfl ?_ | refine it_neg (by decide) ?_ | refine st_nil rfl ?_ | refine s_op ?_ ?_ | exact True.intro
        | ((with_reducible first | refine dw_reg0 ?_ | refine dw_regB ?_); (conv => arg 3; whnf))
        | (refine Spl.go (fun hq he => ?_) (fun hq he => ?_) <;> first | (exfalso; clear hq; omega) | ((try (first | (conv => arg 8; simp only [hq]) | (conv => arg 4; simp only [hq]))); clear hq))
        | ((with_reducible first | refine c_split (fun hq => ?_) (fun hq => ?_) | refine q_split (fun hq => ?_) (fun hq => ?_)) <;> (try (first | (conv => arg 8; simp only [hq]) | (conv => arg 4; simp only [hq]))))
        | (with_reducible refine fin_0 ?_ (by first | rfl | (conv => lhs; simp only [go_sem])) ?_)
        | exact Sub.refl _
        | omega)
      refine c_doesR [1000000] (hdi) (callOK_of rfl (Nat.le_of_ble_eq_true rfl) rfl ?_ ?_) ?_ ?_
      · repeat' (first | (conv in hold _ => simp (disch := omega) only [go_sem, Nat.reduceEqDiff, Nat.reduceAdd, Nat.reduceMul, Nat.reduceSub, Nat.reduceLT, Nat.reduceLeDiff, ↓reduceIte, reduceCtorEq, Int.reduceToNat]) | exact True.intro | exact Sub.refl _ | omega)
      · repeat' (first | (conv in hold _ => simp (disch := omega) only [go_sem, Nat.reduceEqDiff, Nat.reduceAdd, Nat.reduceMul, Nat.reduceSub, Nat.reduceLT, Nat.reduceLeDiff, ↓reduceIte, reduceCtorEq, Int.reduceToNat]) | exact True.intro | exact Sub.refl _ | omega)
      · ((conv => rhs; simp (disch := omega) only [go_sem, Nat.reduceEqDiff, Nat.reduceAdd, Nat.reduceMul, Nat.reduceSub, Nat.reduceLT, Nat.reduceLeDiff, ↓reduceIte, reduceCtorEq, Int.reduceToNat]); try rfl)
      repeat' (first
        | with_reducible refine acc_none ?_
        | (conv in hold _ => simp (disch := omega) only [go_sem, Nat.reduceEqDiff, Nat.reduceAdd, Nat.reduceMul, Nat.reduceSub, Nat.reduceLT, Nat.reduceLeDiff, ↓reduceIte, reduceCtorEq, Int.reduceToNat])
        | refine Stp.go ?_
        | with_reducible first | refine it_pos rfl ?_ | refine it_neg (by decide) ?_ | refine st_nil rfl ?_ | refine s_op ?_ ?_ | exact True.intro
        | ((with_reducible first | refine dw_reg0 ?_ | refine dw_regB ?_); (conv => arg 3; whnf))
        | (refine Spl.go (fun hq he => ?_) (fun hq he => ?_) <;> first | (exfalso; clear hq; omega) | ((try (first | (conv => arg 8; simp only [hq]) | (conv => arg 4; simp only [hq]))); clear hq))
        | ((with_reducible first | refine c_split (fun hq => ?_) (fun hq => ?_) | refine q_split (fun hq => ?_) (fun hq => ?_)) <;> (try (first | (conv => arg 8; simp only [hq]) | (conv => arg 4; simp only [hq]))))
        | (with_reducible refine fin_0 ?_ (by first | rfl | (conv => lhs; simp only [go_sem])) ?_)
        | exact Sub.refl _
        | omega)
      refine ⟨hil, trivial, Wk.list [1000000, 1000001, 1000002, 2000023] rfl rfl ?_⟩
      repeat' (first | (conv in hold _ => simp (disch := omega) only [go_sem, Nat.reduceEqDiff, Nat.reduceAdd, Nat.reduceMul, Nat.reduceSub, Nat.reduceLT, Nat.reduceLeDiff, ↓reduceIte, reduceCtorEq, Int.reduceToNat, List.length_map, htl]) | exact True.intro | exact Sub.refl _ | omega)
      rw [hmk, hnx, List.map_append]
      rfl
    · obtain rfl : i = 1 + m := by omega
      have e1 : rs.take (1 + m) = rs := List.take_of_length_le (by omega)
      have hMc : (1 < 1 + m ∧ M = n) ∨ (¬ 1 < 1 + m ∧ M = 0) := by
        rw [← hM]
        split
        · exact Or.inl ⟨by omega, rfl⟩
        · exact Or.inr ⟨by omega, rfl⟩
      have hm1 : 1 + (m : Int) - 1 = (m : Int) := by omega
      have hl1 : rs.length = 1 + m := hl
      repeat' (first
        | with_reducible refine acc_none ?_
        | (conv in hold _ => simp (disch := omega) only [go_sem, Nat.reduceEqDiff, Nat.reduceAdd, Nat.reduceMul, Nat.reduceSub, Nat.reduceLT, Nat.reduceLeDiff, ↓reduceIte, reduceCtorEq, Int.reduceToNat, e1])
        | refine Stp.go ?_
        | with_reducible first | refine it_pos rfl ?_ | refine it_neg (by decide) ?_ | refine st_nil rfl ?_ | refine s_op ?_ ?_ | exact True.intro
        | ((with_reducible first | refine dw_reg0 ?_ | refine dw_regB ?_); (conv => arg 3; whnf))
        | (refine Spl.go (fun hq he => ?_) (fun hq he => ?_) <;> first | (exfalso; clear hq; omega) | ((try (first | (conv => arg 8; simp only [hq]) | (conv => arg 4; simp only [hq]))); clear hq))
        | ((with_reducible first | refine c_split (fun hq => ?_) (fun hq => ?_) | refine q_split (fun hq => ?_) (fun hq => ?_)) <;> (try (first | (conv => arg 8; simp only [hq]) | (conv => arg 4; simp only [hq]))))
        | (with_reducible refine fin_0 ?_ (by first | rfl | (conv => lhs; simp only [go_sem, e1])) ?_)
        | exact Sub.refl _
        | omega)
      refine c_doesR [1000000] (hj) (callOK_of rfl (Nat.le_of_ble_eq_true rfl) rfl ?_ ?_) ?_ ?_
      · repeat' (first | (conv in hold _ => simp (disch := omega) only [go_sem, Nat.reduceEqDiff, Nat.reduceAdd, Nat.reduceMul, Nat.reduceSub, Nat.reduceLT, Nat.reduceLeDiff, ↓reduceIte, reduceCtorEq, Int.reduceToNat]) | exact True.intro | exact Sub.refl _ | omega)
      · repeat' (first | (conv in hold _ => simp (disch := omega) only [go_sem, Nat.reduceEqDiff, Nat.reduceAdd, Nat.reduceMul, Nat.reduceSub, Nat.reduceLT, Nat.reduceLeDiff, ↓reduceIte, reduceCtorEq, Int.reduceToNat]) | exact True.intro | exact Sub.refl _ | omega)
      · ((conv => rhs; simp (disch := omega) only [go_sem, Nat.reduceEqDiff, Nat.reduceAdd, Nat.reduceMul, Nat.reduceSub, Nat.reduceLT, Nat.reduceLeDiff, ↓reduceIte, reduceCtorEq, Int.reduceToNat]); try rfl)
      repeat' (first
        | with_reducible refine acc_none ?_
        | (conv in hold _ => simp (disch := omega) only [go_sem, Nat.reduceEqDiff, Nat.reduceAdd, Nat.reduceMul, Nat.reduceSub, Nat.reduceLT, Nat.reduceLeDiff, ↓reduceIte, reduceCtorEq, Int.reduceToNat])
        | refine Stp.go ?_
        | with_reducible first | refine it_pos rfl ?_ | refine it_neg (by decide) ?_ | refine st_nil rfl ?_ | refine s_op ?_ ?_ | exact True.intro
        | ((with_reducible first | refine dw_reg0 ?_ | refine dw_regB ?_); (conv => arg 3; whnf))
        | (refine Spl.go (fun hq he => ?_) (fun hq he => ?_) <;> first | (exfalso; clear hq; omega) | ((try (first | (conv => arg 8; simp only [hq]) | (conv => arg 4; simp only [hq]))); clear hq))
        | ((with_reducible first | refine c_split (fun hq => ?_) (fun hq => ?_) | refine q_split (fun hq => ?_) (fun hq => ?_)) <;> (try (first | (conv => arg 8; simp only [hq]) | (conv => arg 4; simp only [hq]))))
        | (with_reducible refine fin_0 ?_ (by first | rfl | (conv => lhs; simp only [go_sem])) ?_)
        | exact Sub.refl _
        | omega)
      refine dw_for (c := 5) (l := fun i => [(0, .ref 1000000 0), (2, .ref 1000001 0), (3, .ref 1000002 0), (4, I (1 + (m : Int))), (6, I ((n : Int) - i)), (1000000, rdD bs (qs i)), (1000001, .obj [.nul, .nul]), (1000002, .obj [.own 1000003 1 (1 + m), .own 1000004 3 i]), (1000003, .row 1 (rs.map I)), (1000004, .row 3 ((es.take i).map edD))]) M (fun _ => True) 0 trivial ((wk_rowO 1000002 2000051 3 1 (by decide) (by decide) (by decide) rfl rfl rfl).trans (Wk.list [1000000, 1000001, 1000002, 1000003, 2000051] rfl rfl ?_)) (fun i hi _ => ?_) (Nat.zero_le _)
      · rw [e0]
        repeat' (first | (conv in hold _ => simp (disch := omega) only [go_sem, Nat.reduceEqDiff, Nat.reduceAdd, Nat.reduceMul, Nat.reduceSub, Nat.reduceLT, Nat.reduceLeDiff, ↓reduceIte, reduceCtorEq, Int.reduceToNat]) | exact True.intro | exact Sub.refl _ | omega)
        exact congrArg (fun n => D.v (Value.int .i64 n)) (by omega)
      · have htl2 : (es.take i).length = i := by rw [List.length_take]; omega
        have hmk2 := take_map edD (vs := es) (i := i) (by omega)
        by_cases hil : i < M
        · obtain ⟨x, hx⟩ : ∃ x, es[i]? = some x := ⟨_, List.getElem?_eq_getElem (by omega)⟩
          obtain ⟨x1, x2, x3, x4, x5, x6, x7⟩ := ed i x hx
          have hnx := take_next hx
          have hb1 : 1 + (x.b - 1) = x.b := by omega
          repeat' (first
            | with_reducible refine acc_none ?_
            | (conv in hold _ => simp (disch := omega) only [go_sem, Nat.reduceEqDiff, Nat.reduceAdd, Nat.reduceMul, Nat.reduceSub, Nat.reduceLT, Nat.reduceLeDiff, ↓reduceIte, reduceCtorEq, Int.reduceToNat, hm1])
            | refine Stp.go ?_
            | with_reducible first | refine it_pos rfl ?_ | refine it_neg (by decide) ?_ | refine st_nil rfl ?_ | refine s_op ?_ ?_ | exact True.intro
            | ((with_reducible first | refine dw_reg0 ?_ | refine dw_regB ?_); (conv => arg 3; whnf))
            | (refine Spl.go (fun hq he => ?_) (fun hq he => ?_) <;> first | (exfalso; clear hq; omega) | ((try (first | (conv => arg 8; simp only [hq]) | (conv => arg 4; simp only [hq]))); clear hq))
            | ((with_reducible first | refine c_split (fun hq => ?_) (fun hq => ?_) | refine q_split (fun hq => ?_) (fun hq => ?_)) <;> (try (first | (conv => arg 8; simp only [hq]) | (conv => arg 4; simp only [hq]))))
            | (with_reducible refine fin_0 ?_ (by first | rfl | (conv => lhs; simp only [go_sem, hm1])) ?_)
            | exact Sub.refl _
            | omega)
          refine c_doesR [1000000] (x2) (callOK_of rfl (Nat.le_of_ble_eq_true rfl) rfl ?_ ?_) ?_ ?_
          · repeat' (first | (conv in hold _ => simp (disch := omega) only [go_sem, Nat.reduceEqDiff, Nat.reduceAdd, Nat.reduceMul, Nat.reduceSub, Nat.reduceLT, Nat.reduceLeDiff, ↓reduceIte, reduceCtorEq, Int.reduceToNat, hb1]) | exact True.intro | exact Sub.refl _ | omega)
          · repeat' (first | (conv in hold _ => simp (disch := omega) only [go_sem, Nat.reduceEqDiff, Nat.reduceAdd, Nat.reduceMul, Nat.reduceSub, Nat.reduceLT, Nat.reduceLeDiff, ↓reduceIte, reduceCtorEq, Int.reduceToNat, hb1]) | exact True.intro | exact Sub.refl _ | omega)
          · ((conv => rhs; simp (disch := omega) only [go_sem, Nat.reduceEqDiff, Nat.reduceAdd, Nat.reduceMul, Nat.reduceSub, Nat.reduceLT, Nat.reduceLeDiff, ↓reduceIte, reduceCtorEq, Int.reduceToNat, hb1]); try rfl)
          repeat' (first
            | with_reducible refine acc_none ?_
            | (conv in hold _ => simp (disch := omega) only [go_sem, Nat.reduceEqDiff, Nat.reduceAdd, Nat.reduceMul, Nat.reduceSub, Nat.reduceLT, Nat.reduceLeDiff, ↓reduceIte, reduceCtorEq, Int.reduceToNat, hb1])
            | refine Stp.go ?_
            | with_reducible first | refine it_pos rfl ?_ | refine it_neg (by decide) ?_ | refine st_nil rfl ?_ | refine s_op ?_ ?_ | exact True.intro
            | ((with_reducible first | refine dw_reg0 ?_ | refine dw_regB ?_); (conv => arg 3; whnf))
            | (refine Spl.go (fun hq he => ?_) (fun hq he => ?_) <;> first | (exfalso; clear hq; omega) | ((try (first | (conv => arg 8; simp only [hq]) | (conv => arg 4; simp only [hq]))); clear hq))
            | ((with_reducible first | refine c_split (fun hq => ?_) (fun hq => ?_) | refine q_split (fun hq => ?_) (fun hq => ?_)) <;> (try (first | (conv => arg 8; simp only [hq]) | (conv => arg 4; simp only [hq]))))
            | (with_reducible refine fin_0 ?_ (by first | rfl | (conv => lhs; simp only [go_sem, hb1])) ?_)
            | exact Sub.refl _
            | omega)
          refine c_doesR [1000000] (x3) (callOK_of rfl (Nat.le_of_ble_eq_true rfl) rfl ?_ ?_) ?_ ?_
          · repeat' (first | (conv in hold _ => simp (disch := omega) only [go_sem, Nat.reduceEqDiff, Nat.reduceAdd, Nat.reduceMul, Nat.reduceSub, Nat.reduceLT, Nat.reduceLeDiff, ↓reduceIte, reduceCtorEq, Int.reduceToNat]) | exact True.intro | exact Sub.refl _ | omega)
          · repeat' (first | (conv in hold _ => simp (disch := omega) only [go_sem, Nat.reduceEqDiff, Nat.reduceAdd, Nat.reduceMul, Nat.reduceSub, Nat.reduceLT, Nat.reduceLeDiff, ↓reduceIte, reduceCtorEq, Int.reduceToNat]) | exact True.intro | exact Sub.refl _ | omega)
          · ((conv => rhs; simp (disch := omega) only [go_sem, Nat.reduceEqDiff, Nat.reduceAdd, Nat.reduceMul, Nat.reduceSub, Nat.reduceLT, Nat.reduceLeDiff, ↓reduceIte, reduceCtorEq, Int.reduceToNat]); try rfl)
          repeat' (first
            | with_reducible refine acc_none ?_
            | (conv in hold _ => simp (disch := omega) only [go_sem, Nat.reduceEqDiff, Nat.reduceAdd, Nat.reduceMul, Nat.reduceSub, Nat.reduceLT, Nat.reduceLeDiff, ↓reduceIte, reduceCtorEq, Int.reduceToNat])
            | refine Stp.go ?_
            | with_reducible first | refine it_pos rfl ?_ | refine it_neg (by decide) ?_ | refine st_nil rfl ?_ | refine s_op ?_ ?_ | exact True.intro
            | ((with_reducible first | refine dw_reg0 ?_ | refine dw_regB ?_); (conv => arg 3; whnf))
            | (refine Spl.go (fun hq he => ?_) (fun hq he => ?_) <;> first | (exfalso; clear hq; omega) | ((try (first | (conv => arg 8; simp only [hq]) | (conv => arg 4; simp only [hq]))); clear hq))
            | ((with_reducible first | refine c_split (fun hq => ?_) (fun hq => ?_) | refine q_split (fun hq => ?_) (fun hq => ?_)) <;> (try (first | (conv => arg 8; simp only [hq]) | (conv => arg 4; simp only [hq]))))
            | (with_reducible refine fin_0 ?_ (by first | rfl | (conv => lhs; simp only [go_sem])) ?_)
            | exact Sub.refl _
            | omega)
          refine c_doesR [1000000] (x4) (callOK_of rfl (Nat.le_of_ble_eq_true rfl) rfl ?_ ?_) ?_ ?_
          · repeat' (first | (conv in hold _ => simp (disch := omega) only [go_sem, Nat.reduceEqDiff, Nat.reduceAdd, Nat.reduceMul, Nat.reduceSub, Nat.reduceLT, Nat.reduceLeDiff, ↓reduceIte, reduceCtorEq, Int.reduceToNat]) | exact True.intro | exact Sub.refl _ | omega)
          · repeat' (first | (conv in hold _ => simp (disch := omega) only [go_sem, Nat.reduceEqDiff, Nat.reduceAdd, Nat.reduceMul, Nat.reduceSub, Nat.reduceLT, Nat.reduceLeDiff, ↓reduceIte, reduceCtorEq, Int.reduceToNat]) | exact True.intro | exact Sub.refl _ | omega)
          · ((conv => rhs; simp (disch := omega) only [go_sem, Nat.reduceEqDiff, Nat.reduceAdd, Nat.reduceMul, Nat.reduceSub, Nat.reduceLT, Nat.reduceLeDiff, ↓reduceIte, reduceCtorEq, Int.reduceToNat]); try rfl)
          repeat' (first
            | with_reducible refine acc_none ?_
            | (conv in hold _ => simp (disch := omega) only [go_sem, Nat.reduceEqDiff, Nat.reduceAdd, Nat.reduceMul, Nat.reduceSub, Nat.reduceLT, Nat.reduceLeDiff, ↓reduceIte, reduceCtorEq, Int.reduceToNat])
            | refine Stp.go ?_
            | with_reducible first | refine it_pos rfl ?_ | refine it_neg (by decide) ?_ | refine st_nil rfl ?_ | refine s_op ?_ ?_ | exact True.intro
            | ((with_reducible first | refine dw_reg0 ?_ | refine dw_regB ?_); (conv => arg 3; whnf))
            | (refine Spl.go (fun hq he => ?_) (fun hq he => ?_) <;> first | (exfalso; clear hq; omega) | ((try (first | (conv => arg 8; simp only [hq]) | (conv => arg 4; simp only [hq]))); clear hq))
            | ((with_reducible first | refine c_split (fun hq => ?_) (fun hq => ?_) | refine q_split (fun hq => ?_) (fun hq => ?_)) <;> (try (first | (conv => arg 8; simp only [hq]) | (conv => arg 4; simp only [hq]))))
            | (with_reducible refine fin_0 ?_ (by first | rfl | (conv => lhs; simp only [go_sem])) ?_)
            | exact Sub.refl _
            | omega)
          refine ⟨hil, trivial, Wk.list [1000000, 1000001, 1000002, 1000003, 2000051] rfl rfl ?_⟩
          repeat' (first | (conv in hold _ => simp (disch := omega) only [go_sem, Nat.reduceEqDiff, Nat.reduceAdd, Nat.reduceMul, Nat.reduceSub, Nat.reduceLT, Nat.reduceLeDiff, ↓reduceIte, reduceCtorEq, Int.reduceToNat, List.length_map, htl2, x1]) | exact True.intro | exact Sub.refl _ | omega)
          refine ⟨congrArg (fun n => D.v (Value.int .i64 n)) (by omega), ?_⟩
          rw [hmk2, hnx, List.map_append]
          rfl
        · obtain rfl : i = M := by omega
          have e2 : es.take i = es := List.take_of_length_le (by omega)
          repeat' (first
            | with_reducible refine acc_none ?_
            | (conv in hold _ => simp (disch := omega) only [go_sem, Nat.reduceEqDiff, Nat.reduceAdd, Nat.reduceMul, Nat.reduceSub, Nat.reduceLT, Nat.reduceLeDiff, ↓reduceIte, reduceCtorEq, Int.reduceToNat, e2])
            | refine Stp.go ?_
            | with_reducible first | refine it_pos rfl ?_ | refine it_neg (by decide) ?_ | refine st_nil rfl ?_ | refine s_op ?_ ?_ | exact True.intro
            | ((with_reducible first | refine dw_reg0 ?_ | refine dw_regB ?_); (conv => arg 3; whnf))
            | (refine Spl.go (fun hq he => ?_) (fun hq he => ?_) <;> first | (exfalso; clear hq; omega) | ((try (first | (conv => arg 8; simp only [hq]) | (conv => arg 4; simp only [hq]))); clear hq))
            | ((with_reducible first | refine c_split (fun hq => ?_) (fun hq => ?_) | refine q_split (fun hq => ?_) (fun hq => ?_)) <;> (try (first | (conv => arg 8; simp only [hq]) | (conv => arg 4; simp only [hq]))))
            | (with_reducible refine fin_0 ?_ (by first | rfl | (conv => lhs; simp only [go_sem, e2])) ?_)
            | exact Sub.refl _
            | omega)
          all_goals
            refine fin_L [1000000, 1000003, 1000004] ?_ ?_ rfl ?_
            repeat' (first | (conv in hold _ => simp (disch := omega) only [go_sem, Nat.reduceEqDiff, Nat.reduceAdd, Nat.reduceMul, Nat.reduceSub, Nat.reduceLT, Nat.reduceLeDiff, ↓reduceIte, reduceCtorEq, Int.reduceToNat]) | exact True.intro | exact Sub.refl _ | omega)
          all_goals exact Sub.of_eq (by rw [hl1, el])
theorem set_I0 (l : List Int) (x : Int) : (l.map I).set 0 (I x) = (l.set 0 x).map I := by rw [List.map_set]
theorem anyGraph_ok {bs : List Nat} (hs : Src bs) (p : Nat) (hp : p < 600000000) : ∃ (g : Gr) (q : Nat), (Does Try.prog 8 [rdD bs p] [.ref 1000000 0] (grD g) [rdD bs q] ∧ Near g) ∧ p ≤ q ∧ q ≤ p + 110 := by
  obtain ⟨g, q, ⟨hg, hrl, hel, hrs, hes⟩, hq0, hq1⟩ := randomGraph_ok hs p (by omega)
  obtain ⟨k, hk, k0, k1, _⟩ := pick_ok hs q (by omega) 18 (by omega)
  have t1 : (g.rs.map I).take g.rs.length = g.rs.map I := List.take_of_length_le (by rw [List.length_map]; exact Nat.le_refl _)
  have t2 : (g.es.map edD).take g.es.length = g.es.map edD := List.take_of_length_le (by rw [List.length_map]; exact Nat.le_refl _)
  by_cases hk0 : k = 0
  · obtain ⟨x, hx, hm⟩ := one_ok hs (q + 1) (by omega) [0, 1001] (by decide) (by decide)
    simp only [List.mem_cons, List.not_mem_nil, or_false] at hm
    have hpos : (g.rs.map I)[0]? = some (I (g.rs[0]'(by omega))) := by
      rw [List.getElem?_map, List.getElem?_eq_getElem (by omega)]
      rfl
    have t3 : ((g.rs.set 0 x).map I).take g.rs.length = (g.rs.set 0 x).map I := List.take_of_length_le (by rw [List.length_map, List.length_set]; exact Nat.le_refl _)
    refine ⟨⟨g.rs.set 0 x, g.es⟩, q + 2, ⟨?_, ⟨by show (g.rs.set 0 x).length ≤ 10; rw [List.length_set]; omega, by show g.es.length ≤ 6; omega, fun y hy => ?_, hes⟩⟩, by omega, by omega⟩
    · refine does c_spec_anyGraph mixed (Nat.le_of_ble_eq_true rfl) 1 rfl ?_
      conv => arg 3; whnf
      repeat' (first
        | with_reducible refine acc_none ?_
        | (conv in hold _ => simp (disch := omega) only [go_sem, Nat.reduceEqDiff, Nat.reduceAdd, Nat.reduceMul, Nat.reduceSub, Nat.reduceLT, Nat.reduceLeDiff, ↓reduceIte, reduceCtorEq, Int.reduceToNat])
        | refine Stp.go ?_
        | with_reducible first | refine it_pos rfl ?_ | refine it_neg (by decide) ?_ | refine st_nil rfl ?_ | refine s_op ?_ ?_ | exact True.intro
        | ((with_reducible first | refine dw_reg0 ?_ | refine dw_regB ?_); (conv => arg 3; whnf))
        | (refine Spl.go (fun hq he => ?_) (fun hq he => ?_) <;> first | (exfalso; clear hq; omega) | ((try (first | (conv => arg 8; simp only [hq]) | (conv => arg 4; simp only [hq]))); clear hq))
        | ((with_reducible first | refine c_split (fun hq => ?_) (fun hq => ?_) | refine q_split (fun hq => ?_) (fun hq => ?_)) <;> (try (first | (conv => arg 8; simp only [hq]) | (conv => arg 4; simp only [hq]))))
        | exact Sub.refl _
        | omega)
      refine c_doesR [1000000, 3000001, 3000002] (hg) (callOK_of rfl (Nat.le_of_ble_eq_true rfl) rfl ?_ ?_) ?_ ?_
      · repeat' (first | (conv in hold _ => simp (disch := omega) only [go_sem, Nat.reduceEqDiff, Nat.reduceAdd, Nat.reduceMul, Nat.reduceSub, Nat.reduceLT, Nat.reduceLeDiff, ↓reduceIte, reduceCtorEq, Int.reduceToNat]) | exact True.intro | exact Sub.refl _ | omega)
      · repeat' (first | (conv in hold _ => simp (disch := omega) only [go_sem, Nat.reduceEqDiff, Nat.reduceAdd, Nat.reduceMul, Nat.reduceSub, Nat.reduceLT, Nat.reduceLeDiff, ↓reduceIte, reduceCtorEq, Int.reduceToNat]) | exact True.intro | exact Sub.refl _ | omega)
      · ((conv => rhs; simp (disch := omega) only [go_sem, Nat.reduceEqDiff, Nat.reduceAdd, Nat.reduceMul, Nat.reduceSub, Nat.reduceLT, Nat.reduceLeDiff, ↓reduceIte, reduceCtorEq, Int.reduceToNat]); try rfl)
      repeat' (first
        | with_reducible refine acc_none ?_
        | (conv in hold _ => simp (disch := omega) only [go_sem, Nat.reduceEqDiff, Nat.reduceAdd, Nat.reduceMul, Nat.reduceSub, Nat.reduceLT, Nat.reduceLeDiff, ↓reduceIte, reduceCtorEq, Int.reduceToNat])
        | refine Stp.go ?_
        | with_reducible first | refine it_pos rfl ?_ | refine it_neg (by decide) ?_ | refine st_nil rfl ?_ | refine s_op ?_ ?_ | exact True.intro
        | ((with_reducible first | refine dw_reg0 ?_ | refine dw_regB ?_); (conv => arg 3; whnf))
        | (refine Spl.go (fun hq he => ?_) (fun hq he => ?_) <;> first | (exfalso; clear hq; omega) | ((try (first | (conv => arg 8; simp only [hq]) | (conv => arg 4; simp only [hq]))); clear hq))
        | ((with_reducible first | refine c_split (fun hq => ?_) (fun hq => ?_) | refine q_split (fun hq => ?_) (fun hq => ?_)) <;> (try (first | (conv => arg 8; simp only [hq]) | (conv => arg 4; simp only [hq]))))
        | exact Sub.refl _
        | omega)
      refine c_doesR [1000000] (hk) (callOK_of rfl (Nat.le_of_ble_eq_true rfl) rfl ?_ ?_) ?_ ?_
      · repeat' (first | (conv in hold _ => simp (disch := omega) only [go_sem, Nat.reduceEqDiff, Nat.reduceAdd, Nat.reduceMul, Nat.reduceSub, Nat.reduceLT, Nat.reduceLeDiff, ↓reduceIte, reduceCtorEq, Int.reduceToNat]) | exact True.intro | exact Sub.refl _ | omega)
      · repeat' (first | (conv in hold _ => simp (disch := omega) only [go_sem, Nat.reduceEqDiff, Nat.reduceAdd, Nat.reduceMul, Nat.reduceSub, Nat.reduceLT, Nat.reduceLeDiff, ↓reduceIte, reduceCtorEq, Int.reduceToNat]) | exact True.intro | exact Sub.refl _ | omega)
      · ((conv => rhs; simp (disch := omega) only [go_sem, Nat.reduceEqDiff, Nat.reduceAdd, Nat.reduceMul, Nat.reduceSub, Nat.reduceLT, Nat.reduceLeDiff, ↓reduceIte, reduceCtorEq, Int.reduceToNat]); try rfl)
      repeat' (first
        | with_reducible refine acc_none ?_
        | (conv in hold _ => simp (disch := omega) only [go_sem, Nat.reduceEqDiff, Nat.reduceAdd, Nat.reduceMul, Nat.reduceSub, Nat.reduceLT, Nat.reduceLeDiff, ↓reduceIte, reduceCtorEq, Int.reduceToNat])
        | refine Stp.go ?_
        | with_reducible first | refine it_pos rfl ?_ | refine it_neg (by decide) ?_ | refine st_nil rfl ?_ | refine s_op ?_ ?_ | exact True.intro
        | ((with_reducible first | refine dw_reg0 ?_ | refine dw_regB ?_); (conv => arg 3; whnf))
        | (refine Spl.go (fun hq he => ?_) (fun hq he => ?_) <;> first | (exfalso; clear hq; omega) | ((try (first | (conv => arg 8; simp only [hq]) | (conv => arg 4; simp only [hq]))); clear hq))
        | ((with_reducible first | refine c_split (fun hq => ?_) (fun hq => ?_) | refine q_split (fun hq => ?_) (fun hq => ?_)) <;> (try (first | (conv => arg 8; simp only [hq]) | (conv => arg 4; simp only [hq]))))
        | exact Sub.refl _
        | omega)
      refine c_doesR [1000000] (hx) (callOK_of rfl (Nat.le_of_ble_eq_true rfl) rfl ?_ ?_) ?_ ?_
      · repeat' (first | (conv in hold _ => simp (disch := omega) only [go_sem, Nat.reduceEqDiff, Nat.reduceAdd, Nat.reduceMul, Nat.reduceSub, Nat.reduceLT, Nat.reduceLeDiff, ↓reduceIte, reduceCtorEq, Int.reduceToNat, hpos]) | exact True.intro | exact Sub.refl _ | omega)
      · repeat' (first | (conv in hold _ => simp (disch := omega) only [go_sem, Nat.reduceEqDiff, Nat.reduceAdd, Nat.reduceMul, Nat.reduceSub, Nat.reduceLT, Nat.reduceLeDiff, ↓reduceIte, reduceCtorEq, Int.reduceToNat, hpos]) | exact True.intro | exact Sub.refl _ | omega)
      · ((conv => rhs; simp (disch := omega) only [go_sem, Nat.reduceEqDiff, Nat.reduceAdd, Nat.reduceMul, Nat.reduceSub, Nat.reduceLT, Nat.reduceLeDiff, ↓reduceIte, reduceCtorEq, Int.reduceToNat, hpos]); try rfl)
      repeat' (first
        | with_reducible refine acc_none ?_
        | (conv in hold _ => simp (disch := omega) only [go_sem, Nat.reduceEqDiff, Nat.reduceAdd, Nat.reduceMul, Nat.reduceSub, Nat.reduceLT, Nat.reduceLeDiff, ↓reduceIte, reduceCtorEq, Int.reduceToNat, hpos])
        | refine Stp.go ?_
        | with_reducible first | refine it_pos rfl ?_ | refine it_neg (by decide) ?_ | refine st_nil rfl ?_ | refine s_op ?_ ?_ | exact True.intro
        | ((with_reducible first | refine dw_reg0 ?_ | refine dw_regB ?_); (conv => arg 3; whnf))
        | (refine Spl.go (fun hq he => ?_) (fun hq he => ?_) <;> first | (exfalso; clear hq; omega) | ((try (first | (conv => arg 8; simp only [hq]) | (conv => arg 4; simp only [hq]))); clear hq))
        | ((with_reducible first | refine c_split (fun hq => ?_) (fun hq => ?_) | refine q_split (fun hq => ?_) (fun hq => ?_)) <;> (try (first | (conv => arg 8; simp only [hq]) | (conv => arg 4; simp only [hq]))))
        | exact Sub.refl _
        | omega)
      refine fin_wk (wk_frzO 2000002 3000001 (by decide) (by decide) rfl (by decide) rfl ?_) ?_
      rotate_left
      (conv in hold _ => simp (disch := omega) only [go_sem, Nat.reduceEqDiff, Nat.reduceAdd, Nat.reduceMul, Nat.reduceSub, Nat.reduceLT, Nat.reduceLeDiff, ↓reduceIte, reduceCtorEq, Int.reduceToNat, set_I0, t3, List.length_set, Nat.le_refl])
      refine fin_wk (wk_frzO 2000002 3000002 (by decide) (by decide) rfl (by decide) rfl ?_) ?_
      rotate_left
      (conv in hold _ => simp (disch := omega) only [go_sem, Nat.reduceEqDiff, Nat.reduceAdd, Nat.reduceMul, Nat.reduceSub, Nat.reduceLT, Nat.reduceLeDiff, ↓reduceIte, reduceCtorEq, Int.reduceToNat, t2, Nat.le_refl])
      all_goals first
        | exact eds_pur _
        | exact ints_pur _
        | (show D.purL ((g.rs.map I).set 0 (I x)) = true; rw [set_I0]; exact ints_pur _)
        | skip
      refine fin_L [1000000] ?_ ?_ rfl ?_
      repeat' (first | (conv in hold _ => simp (disch := omega) only [go_sem, Nat.reduceEqDiff, Nat.reduceAdd, Nat.reduceMul, Nat.reduceSub, Nat.reduceLT, Nat.reduceLeDiff, ↓reduceIte, reduceCtorEq, Int.reduceToNat]) | exact True.intro | exact Sub.refl _ | omega)
    · rcases List.mem_or_eq_of_mem_set hy with hy | rfl
      · exact hrs y hy
      · omega
  · by_cases hk1 : k = 1
    · obtain ⟨x, hx, hm⟩ := one_ok hs (q + 1) (by omega) [0, (g.rs.length : Int)] (by simp) (by simp)
      simp only [List.mem_cons, List.not_mem_nil, or_false] at hm
      have t4 : (g.es.map edD ++ [D.agg [I 0, I x, I 1]]) = (g.es ++ [(⟨0, x, 1⟩ : Ed)]).map edD := by rw [List.map_append]; rfl
      have t5 : ((g.es ++ [(⟨0, x, 1⟩ : Ed)]).map edD).take (g.es.length + 1) = (g.es ++ [(⟨0, x, 1⟩ : Ed)]).map edD := List.take_of_length_le (by rw [List.length_map, List.length_append]; exact Nat.le_refl _)
      refine ⟨⟨g.rs, g.es ++ [(⟨0, x, 1⟩ : Ed)]⟩, q + 2, ⟨?_, ⟨by show g.rs.length ≤ 10; omega, by show (g.es ++ [(⟨0, x, 1⟩ : Ed)]).length ≤ 6; rw [List.length_append, List.length_singleton]; omega, hrs, fun y hy => ?_⟩⟩, by omega, by omega⟩
      · refine does c_spec_anyGraph mixed (Nat.le_of_ble_eq_true rfl) 1 rfl ?_
        conv => arg 3; whnf
        repeat' (first
          | with_reducible refine acc_none ?_
          | (conv in hold _ => simp (disch := omega) only [go_sem, Nat.reduceEqDiff, Nat.reduceAdd, Nat.reduceMul, Nat.reduceSub, Nat.reduceLT, Nat.reduceLeDiff, ↓reduceIte, reduceCtorEq, Int.reduceToNat])
          | refine Stp.go ?_
          | with_reducible first | refine it_pos rfl ?_ | refine it_neg (by decide) ?_ | refine st_nil rfl ?_ | refine s_op ?_ ?_ | exact True.intro
          | ((with_reducible first | refine dw_reg0 ?_ | refine dw_regB ?_); (conv => arg 3; whnf))
          | (refine Spl.go (fun hq he => ?_) (fun hq he => ?_) <;> first | (exfalso; clear hq; omega) | ((try (first | (conv => arg 8; simp only [hq]) | (conv => arg 4; simp only [hq]))); clear hq))
          | ((with_reducible first | refine c_split (fun hq => ?_) (fun hq => ?_) | refine q_split (fun hq => ?_) (fun hq => ?_)) <;> (try (first | (conv => arg 8; simp only [hq]) | (conv => arg 4; simp only [hq]))))
          | exact Sub.refl _
          | omega)
        refine c_doesR [1000000, 3000001, 3000002] (hg) (callOK_of rfl (Nat.le_of_ble_eq_true rfl) rfl ?_ ?_) ?_ ?_
        · repeat' (first | (conv in hold _ => simp (disch := omega) only [go_sem, Nat.reduceEqDiff, Nat.reduceAdd, Nat.reduceMul, Nat.reduceSub, Nat.reduceLT, Nat.reduceLeDiff, ↓reduceIte, reduceCtorEq, Int.reduceToNat]) | exact True.intro | exact Sub.refl _ | omega)
        · repeat' (first | (conv in hold _ => simp (disch := omega) only [go_sem, Nat.reduceEqDiff, Nat.reduceAdd, Nat.reduceMul, Nat.reduceSub, Nat.reduceLT, Nat.reduceLeDiff, ↓reduceIte, reduceCtorEq, Int.reduceToNat]) | exact True.intro | exact Sub.refl _ | omega)
        · ((conv => rhs; simp (disch := omega) only [go_sem, Nat.reduceEqDiff, Nat.reduceAdd, Nat.reduceMul, Nat.reduceSub, Nat.reduceLT, Nat.reduceLeDiff, ↓reduceIte, reduceCtorEq, Int.reduceToNat]); try rfl)
        repeat' (first
          | with_reducible refine acc_none ?_
          | (conv in hold _ => simp (disch := omega) only [go_sem, Nat.reduceEqDiff, Nat.reduceAdd, Nat.reduceMul, Nat.reduceSub, Nat.reduceLT, Nat.reduceLeDiff, ↓reduceIte, reduceCtorEq, Int.reduceToNat])
          | refine Stp.go ?_
          | with_reducible first | refine it_pos rfl ?_ | refine it_neg (by decide) ?_ | refine st_nil rfl ?_ | refine s_op ?_ ?_ | exact True.intro
          | ((with_reducible first | refine dw_reg0 ?_ | refine dw_regB ?_); (conv => arg 3; whnf))
          | (refine Spl.go (fun hq he => ?_) (fun hq he => ?_) <;> first | (exfalso; clear hq; omega) | ((try (first | (conv => arg 8; simp only [hq]) | (conv => arg 4; simp only [hq]))); clear hq))
          | ((with_reducible first | refine c_split (fun hq => ?_) (fun hq => ?_) | refine q_split (fun hq => ?_) (fun hq => ?_)) <;> (try (first | (conv => arg 8; simp only [hq]) | (conv => arg 4; simp only [hq]))))
          | exact Sub.refl _
          | omega)
        refine c_doesR [1000000] (hk) (callOK_of rfl (Nat.le_of_ble_eq_true rfl) rfl ?_ ?_) ?_ ?_
        · repeat' (first | (conv in hold _ => simp (disch := omega) only [go_sem, Nat.reduceEqDiff, Nat.reduceAdd, Nat.reduceMul, Nat.reduceSub, Nat.reduceLT, Nat.reduceLeDiff, ↓reduceIte, reduceCtorEq, Int.reduceToNat]) | exact True.intro | exact Sub.refl _ | omega)
        · repeat' (first | (conv in hold _ => simp (disch := omega) only [go_sem, Nat.reduceEqDiff, Nat.reduceAdd, Nat.reduceMul, Nat.reduceSub, Nat.reduceLT, Nat.reduceLeDiff, ↓reduceIte, reduceCtorEq, Int.reduceToNat]) | exact True.intro | exact Sub.refl _ | omega)
        · ((conv => rhs; simp (disch := omega) only [go_sem, Nat.reduceEqDiff, Nat.reduceAdd, Nat.reduceMul, Nat.reduceSub, Nat.reduceLT, Nat.reduceLeDiff, ↓reduceIte, reduceCtorEq, Int.reduceToNat]); try rfl)
        repeat' (first
          | with_reducible refine acc_none ?_
          | (conv in hold _ => simp (disch := omega) only [go_sem, Nat.reduceEqDiff, Nat.reduceAdd, Nat.reduceMul, Nat.reduceSub, Nat.reduceLT, Nat.reduceLeDiff, ↓reduceIte, reduceCtorEq, Int.reduceToNat])
          | refine Stp.go ?_
          | with_reducible first | refine it_pos rfl ?_ | refine it_neg (by decide) ?_ | refine st_nil rfl ?_ | refine s_op ?_ ?_ | exact True.intro
          | ((with_reducible first | refine dw_reg0 ?_ | refine dw_regB ?_); (conv => arg 3; whnf))
          | (refine Spl.go (fun hq he => ?_) (fun hq he => ?_) <;> first | (exfalso; clear hq; omega) | ((try (first | (conv => arg 8; simp only [hq]) | (conv => arg 4; simp only [hq]))); clear hq))
          | ((with_reducible first | refine c_split (fun hq => ?_) (fun hq => ?_) | refine q_split (fun hq => ?_) (fun hq => ?_)) <;> (try (first | (conv => arg 8; simp only [hq]) | (conv => arg 4; simp only [hq]))))
          | exact Sub.refl _
          | omega)
        refine c_doesR [1000000] (hx) (callOK_of rfl (Nat.le_of_ble_eq_true rfl) rfl ?_ ?_) ?_ ?_
        · repeat' (first | (conv in hold _ => simp (disch := omega) only [go_sem, Nat.reduceEqDiff, Nat.reduceAdd, Nat.reduceMul, Nat.reduceSub, Nat.reduceLT, Nat.reduceLeDiff, ↓reduceIte, reduceCtorEq, Int.reduceToNat, t2]) | exact True.intro | exact Sub.refl _ | omega)
        · repeat' (first | (conv in hold _ => simp (disch := omega) only [go_sem, Nat.reduceEqDiff, Nat.reduceAdd, Nat.reduceMul, Nat.reduceSub, Nat.reduceLT, Nat.reduceLeDiff, ↓reduceIte, reduceCtorEq, Int.reduceToNat, t2]) | exact True.intro | exact Sub.refl _ | omega)
        · ((conv => rhs; simp (disch := omega) only [go_sem, Nat.reduceEqDiff, Nat.reduceAdd, Nat.reduceMul, Nat.reduceSub, Nat.reduceLT, Nat.reduceLeDiff, ↓reduceIte, reduceCtorEq, Int.reduceToNat, t2]); try rfl)
        repeat' (first
          | with_reducible refine acc_none ?_
          | (conv in hold _ => simp (disch := omega) only [go_sem, Nat.reduceEqDiff, Nat.reduceAdd, Nat.reduceMul, Nat.reduceSub, Nat.reduceLT, Nat.reduceLeDiff, ↓reduceIte, reduceCtorEq, Int.reduceToNat, t2])
          | refine Stp.go ?_
          | with_reducible first | refine it_pos rfl ?_ | refine it_neg (by decide) ?_ | refine st_nil rfl ?_ | refine s_op ?_ ?_ | exact True.intro
          | ((with_reducible first | refine dw_reg0 ?_ | refine dw_regB ?_); (conv => arg 3; whnf))
          | (refine Spl.go (fun hq he => ?_) (fun hq he => ?_) <;> first | (exfalso; clear hq; omega) | ((try (first | (conv => arg 8; simp only [hq]) | (conv => arg 4; simp only [hq]))); clear hq))
          | ((with_reducible first | refine c_split (fun hq => ?_) (fun hq => ?_) | refine q_split (fun hq => ?_) (fun hq => ?_)) <;> (try (first | (conv => arg 8; simp only [hq]) | (conv => arg 4; simp only [hq]))))
          | exact Sub.refl _
          | omega)
        refine fin_wk (wk_frzO 2000002 3000001 (by decide) (by decide) rfl (by decide) rfl ?_) ?_
        rotate_left
        (conv in hold _ => simp (disch := omega) only [go_sem, Nat.reduceEqDiff, Nat.reduceAdd, Nat.reduceMul, Nat.reduceSub, Nat.reduceLT, Nat.reduceLeDiff, ↓reduceIte, reduceCtorEq, Int.reduceToNat, t1, Nat.le_refl])
        refine fin_wk (wk_frzO 2000002 2000028 (by decide) (by decide) rfl (by decide) rfl ?_) ?_
        rotate_left
        (conv in hold _ => simp (disch := omega) only [go_sem, Nat.reduceEqDiff, Nat.reduceAdd, Nat.reduceMul, Nat.reduceSub, Nat.reduceLT, Nat.reduceLeDiff, ↓reduceIte, reduceCtorEq, Int.reduceToNat, t2, t4, t5, Nat.le_refl])
        all_goals first
          | exact eds_pur _
          | exact ints_pur _
          | (show D.purL (g.es.map edD ++ [D.agg [I 0, I x, I 1]]) = true; rw [t4]; exact eds_pur _)
          | skip
        refine fin_L [1000000] ?_ ?_ rfl ?_
        repeat' (first | (conv in hold _ => simp (disch := omega) only [go_sem, Nat.reduceEqDiff, Nat.reduceAdd, Nat.reduceMul, Nat.reduceSub, Nat.reduceLT, Nat.reduceLeDiff, ↓reduceIte, reduceCtorEq, Int.reduceToNat]) | exact True.intro | exact Sub.refl _ | omega)
      · rcases List.mem_append.1 hy with hy | hy
        · exact hes y hy
        · obtain rfl : y = (⟨0, x, 1⟩ : Ed) := by simpa using hy
          show (0 ≤ (0 : Int) ∧ (0 : Int) ≤ 10) ∧ (0 ≤ x ∧ x ≤ 10) ∧ (0 ≤ (1 : Int) ∧ (1 : Int) ≤ 1001)
          omega
    · by_cases hk2 : k = 2
      · have t4 : (g.rs.map I ++ [I 5, I 5, I 5, I 5, I 5]) = (g.rs ++ [5, 5, 5, 5, 5]).map I := by rw [List.map_append]; rfl
        have t5 : ((g.rs ++ [5, 5, 5, 5, 5]).map I).take (g.rs.length + 5) = (g.rs ++ [5, 5, 5, 5, 5]).map I := List.take_of_length_le (by rw [List.length_map, List.length_append]; exact Nat.le_refl _)
        refine ⟨⟨g.rs ++ [5, 5, 5, 5, 5], g.es⟩, q + 1, ⟨?_, ⟨by show (g.rs ++ [5, 5, 5, 5, 5]).length ≤ 10; rw [List.length_append]; show g.rs.length + 5 ≤ 10; omega, by show g.es.length ≤ 6; omega, fun y hy => ?_, hes⟩⟩, by omega, by omega⟩
        · refine does c_spec_anyGraph mixed (Nat.le_of_ble_eq_true rfl) 1 rfl ?_
          conv => arg 3; whnf
          repeat' (first
            | with_reducible refine acc_none ?_
            | (conv in hold _ => simp (disch := omega) only [go_sem, Nat.reduceEqDiff, Nat.reduceAdd, Nat.reduceMul, Nat.reduceSub, Nat.reduceLT, Nat.reduceLeDiff, ↓reduceIte, reduceCtorEq, Int.reduceToNat])
            | refine Stp.go ?_
            | with_reducible first | refine it_pos rfl ?_ | refine it_neg (by decide) ?_ | refine st_nil rfl ?_ | refine s_op ?_ ?_ | exact True.intro
            | ((with_reducible first | refine dw_reg0 ?_ | refine dw_regB ?_); (conv => arg 3; whnf))
            | (refine Spl.go (fun hq he => ?_) (fun hq he => ?_) <;> first | (exfalso; clear hq; omega) | ((try (first | (conv => arg 8; simp only [hq]) | (conv => arg 4; simp only [hq]))); clear hq))
            | ((with_reducible first | refine c_split (fun hq => ?_) (fun hq => ?_) | refine q_split (fun hq => ?_) (fun hq => ?_)) <;> (try (first | (conv => arg 8; simp only [hq]) | (conv => arg 4; simp only [hq]))))
            | exact Sub.refl _
            | omega)
          refine c_doesR [1000000, 3000001, 3000002] (hg) (callOK_of rfl (Nat.le_of_ble_eq_true rfl) rfl ?_ ?_) ?_ ?_
          · repeat' (first | (conv in hold _ => simp (disch := omega) only [go_sem, Nat.reduceEqDiff, Nat.reduceAdd, Nat.reduceMul, Nat.reduceSub, Nat.reduceLT, Nat.reduceLeDiff, ↓reduceIte, reduceCtorEq, Int.reduceToNat]) | exact True.intro | exact Sub.refl _ | omega)
          · repeat' (first | (conv in hold _ => simp (disch := omega) only [go_sem, Nat.reduceEqDiff, Nat.reduceAdd, Nat.reduceMul, Nat.reduceSub, Nat.reduceLT, Nat.reduceLeDiff, ↓reduceIte, reduceCtorEq, Int.reduceToNat]) | exact True.intro | exact Sub.refl _ | omega)
          · ((conv => rhs; simp (disch := omega) only [go_sem, Nat.reduceEqDiff, Nat.reduceAdd, Nat.reduceMul, Nat.reduceSub, Nat.reduceLT, Nat.reduceLeDiff, ↓reduceIte, reduceCtorEq, Int.reduceToNat]); try rfl)
          repeat' (first
            | with_reducible refine acc_none ?_
            | (conv in hold _ => simp (disch := omega) only [go_sem, Nat.reduceEqDiff, Nat.reduceAdd, Nat.reduceMul, Nat.reduceSub, Nat.reduceLT, Nat.reduceLeDiff, ↓reduceIte, reduceCtorEq, Int.reduceToNat])
            | refine Stp.go ?_
            | with_reducible first | refine it_pos rfl ?_ | refine it_neg (by decide) ?_ | refine st_nil rfl ?_ | refine s_op ?_ ?_ | exact True.intro
            | ((with_reducible first | refine dw_reg0 ?_ | refine dw_regB ?_); (conv => arg 3; whnf))
            | (refine Spl.go (fun hq he => ?_) (fun hq he => ?_) <;> first | (exfalso; clear hq; omega) | ((try (first | (conv => arg 8; simp only [hq]) | (conv => arg 4; simp only [hq]))); clear hq))
            | ((with_reducible first | refine c_split (fun hq => ?_) (fun hq => ?_) | refine q_split (fun hq => ?_) (fun hq => ?_)) <;> (try (first | (conv => arg 8; simp only [hq]) | (conv => arg 4; simp only [hq]))))
            | exact Sub.refl _
            | omega)
          refine c_doesR [1000000] (hk) (callOK_of rfl (Nat.le_of_ble_eq_true rfl) rfl ?_ ?_) ?_ ?_
          · repeat' (first | (conv in hold _ => simp (disch := omega) only [go_sem, Nat.reduceEqDiff, Nat.reduceAdd, Nat.reduceMul, Nat.reduceSub, Nat.reduceLT, Nat.reduceLeDiff, ↓reduceIte, reduceCtorEq, Int.reduceToNat, t1]) | exact True.intro | exact Sub.refl _ | omega)
          · repeat' (first | (conv in hold _ => simp (disch := omega) only [go_sem, Nat.reduceEqDiff, Nat.reduceAdd, Nat.reduceMul, Nat.reduceSub, Nat.reduceLT, Nat.reduceLeDiff, ↓reduceIte, reduceCtorEq, Int.reduceToNat, t1]) | exact True.intro | exact Sub.refl _ | omega)
          · ((conv => rhs; simp (disch := omega) only [go_sem, Nat.reduceEqDiff, Nat.reduceAdd, Nat.reduceMul, Nat.reduceSub, Nat.reduceLT, Nat.reduceLeDiff, ↓reduceIte, reduceCtorEq, Int.reduceToNat, t1]); try rfl)
          repeat' (first
            | with_reducible refine acc_none ?_
            | (conv in hold _ => simp (disch := omega) only [go_sem, Nat.reduceEqDiff, Nat.reduceAdd, Nat.reduceMul, Nat.reduceSub, Nat.reduceLT, Nat.reduceLeDiff, ↓reduceIte, reduceCtorEq, Int.reduceToNat, t1])
            | refine Stp.go ?_
            | with_reducible first | refine it_pos rfl ?_ | refine it_neg (by decide) ?_ | refine st_nil rfl ?_ | refine s_op ?_ ?_ | exact True.intro
            | ((with_reducible first | refine dw_reg0 ?_ | refine dw_regB ?_); (conv => arg 3; whnf))
            | (refine Spl.go (fun hq he => ?_) (fun hq he => ?_) <;> first | (exfalso; clear hq; omega) | ((try (first | (conv => arg 8; simp only [hq]) | (conv => arg 4; simp only [hq]))); clear hq))
            | ((with_reducible first | refine c_split (fun hq => ?_) (fun hq => ?_) | refine q_split (fun hq => ?_) (fun hq => ?_)) <;> (try (first | (conv => arg 8; simp only [hq]) | (conv => arg 4; simp only [hq]))))
            | exact Sub.refl _
            | omega)
          refine fin_wk (wk_frzO 2000002 2000035 (by decide) (by decide) rfl (by decide) rfl ?_) ?_
          rotate_left
          (conv in hold _ => simp (disch := omega) only [go_sem, Nat.reduceEqDiff, Nat.reduceAdd, Nat.reduceMul, Nat.reduceSub, Nat.reduceLT, Nat.reduceLeDiff, ↓reduceIte, reduceCtorEq, Int.reduceToNat, t1, t4, t5, Nat.le_refl])
          refine fin_wk (wk_frzO 2000002 3000002 (by decide) (by decide) rfl (by decide) rfl ?_) ?_
          rotate_left
          (conv in hold _ => simp (disch := omega) only [go_sem, Nat.reduceEqDiff, Nat.reduceAdd, Nat.reduceMul, Nat.reduceSub, Nat.reduceLT, Nat.reduceLeDiff, ↓reduceIte, reduceCtorEq, Int.reduceToNat, t2, Nat.le_refl])
          all_goals first
            | exact eds_pur _
            | exact ints_pur _
            | (show D.purL (g.rs.map I ++ [I 5, I 5, I 5, I 5, I 5]) = true; rw [t4]; exact ints_pur _)
            | skip
          refine fin_L [1000000] ?_ ?_ rfl ?_
          repeat' (first | (conv in hold _ => simp (disch := omega) only [go_sem, Nat.reduceEqDiff, Nat.reduceAdd, Nat.reduceMul, Nat.reduceSub, Nat.reduceLT, Nat.reduceLeDiff, ↓reduceIte, reduceCtorEq, Int.reduceToNat]) | exact True.intro | exact Sub.refl _ | omega)
        · rcases List.mem_append.1 hy with hy | hy
          · exact hrs y hy
          · simp at hy
            omega
      · refine ⟨g, q + 1, ⟨?_, ⟨by omega, by omega, hrs, hes⟩⟩, by omega, by omega⟩
        refine does c_spec_anyGraph mixed (Nat.le_of_ble_eq_true rfl) 1 rfl ?_
        conv => arg 3; whnf
        repeat' (first
          | with_reducible refine acc_none ?_
          | (conv in hold _ => simp (disch := omega) only [go_sem, Nat.reduceEqDiff, Nat.reduceAdd, Nat.reduceMul, Nat.reduceSub, Nat.reduceLT, Nat.reduceLeDiff, ↓reduceIte, reduceCtorEq, Int.reduceToNat])
          | refine Stp.go ?_
          | with_reducible first | refine it_pos rfl ?_ | refine it_neg (by decide) ?_ | refine st_nil rfl ?_ | refine s_op ?_ ?_ | exact True.intro
          | ((with_reducible first | refine dw_reg0 ?_ | refine dw_regB ?_); (conv => arg 3; whnf))
          | (refine Spl.go (fun hq he => ?_) (fun hq he => ?_) <;> first | (exfalso; clear hq; omega) | ((try (first | (conv => arg 8; simp only [hq]) | (conv => arg 4; simp only [hq]))); clear hq))
          | ((with_reducible first | refine c_split (fun hq => ?_) (fun hq => ?_) | refine q_split (fun hq => ?_) (fun hq => ?_)) <;> (try (first | (conv => arg 8; simp only [hq]) | (conv => arg 4; simp only [hq]))))
          | exact Sub.refl _
          | omega)
        refine c_doesR [1000000, 3000001, 3000002] (hg) (callOK_of rfl (Nat.le_of_ble_eq_true rfl) rfl ?_ ?_) ?_ ?_
        · repeat' (first | (conv in hold _ => simp (disch := omega) only [go_sem, Nat.reduceEqDiff, Nat.reduceAdd, Nat.reduceMul, Nat.reduceSub, Nat.reduceLT, Nat.reduceLeDiff, ↓reduceIte, reduceCtorEq, Int.reduceToNat]) | exact True.intro | exact Sub.refl _ | omega)
        · repeat' (first | (conv in hold _ => simp (disch := omega) only [go_sem, Nat.reduceEqDiff, Nat.reduceAdd, Nat.reduceMul, Nat.reduceSub, Nat.reduceLT, Nat.reduceLeDiff, ↓reduceIte, reduceCtorEq, Int.reduceToNat]) | exact True.intro | exact Sub.refl _ | omega)
        · ((conv => rhs; simp (disch := omega) only [go_sem, Nat.reduceEqDiff, Nat.reduceAdd, Nat.reduceMul, Nat.reduceSub, Nat.reduceLT, Nat.reduceLeDiff, ↓reduceIte, reduceCtorEq, Int.reduceToNat]); try rfl)
        repeat' (first
          | with_reducible refine acc_none ?_
          | (conv in hold _ => simp (disch := omega) only [go_sem, Nat.reduceEqDiff, Nat.reduceAdd, Nat.reduceMul, Nat.reduceSub, Nat.reduceLT, Nat.reduceLeDiff, ↓reduceIte, reduceCtorEq, Int.reduceToNat])
          | refine Stp.go ?_
          | with_reducible first | refine it_pos rfl ?_ | refine it_neg (by decide) ?_ | refine st_nil rfl ?_ | refine s_op ?_ ?_ | exact True.intro
          | ((with_reducible first | refine dw_reg0 ?_ | refine dw_regB ?_); (conv => arg 3; whnf))
          | (refine Spl.go (fun hq he => ?_) (fun hq he => ?_) <;> first | (exfalso; clear hq; omega) | ((try (first | (conv => arg 8; simp only [hq]) | (conv => arg 4; simp only [hq]))); clear hq))
          | ((with_reducible first | refine c_split (fun hq => ?_) (fun hq => ?_) | refine q_split (fun hq => ?_) (fun hq => ?_)) <;> (try (first | (conv => arg 8; simp only [hq]) | (conv => arg 4; simp only [hq]))))
          | exact Sub.refl _
          | omega)
        refine c_doesR [1000000] (hk) (callOK_of rfl (Nat.le_of_ble_eq_true rfl) rfl ?_ ?_) ?_ ?_
        · repeat' (first | (conv in hold _ => simp (disch := omega) only [go_sem, Nat.reduceEqDiff, Nat.reduceAdd, Nat.reduceMul, Nat.reduceSub, Nat.reduceLT, Nat.reduceLeDiff, ↓reduceIte, reduceCtorEq, Int.reduceToNat]) | exact True.intro | exact Sub.refl _ | omega)
        · repeat' (first | (conv in hold _ => simp (disch := omega) only [go_sem, Nat.reduceEqDiff, Nat.reduceAdd, Nat.reduceMul, Nat.reduceSub, Nat.reduceLT, Nat.reduceLeDiff, ↓reduceIte, reduceCtorEq, Int.reduceToNat]) | exact True.intro | exact Sub.refl _ | omega)
        · ((conv => rhs; simp (disch := omega) only [go_sem, Nat.reduceEqDiff, Nat.reduceAdd, Nat.reduceMul, Nat.reduceSub, Nat.reduceLT, Nat.reduceLeDiff, ↓reduceIte, reduceCtorEq, Int.reduceToNat]); try rfl)
        repeat' (first
          | with_reducible refine acc_none ?_
          | (conv in hold _ => simp (disch := omega) only [go_sem, Nat.reduceEqDiff, Nat.reduceAdd, Nat.reduceMul, Nat.reduceSub, Nat.reduceLT, Nat.reduceLeDiff, ↓reduceIte, reduceCtorEq, Int.reduceToNat])
          | refine Stp.go ?_
          | with_reducible first | refine it_pos rfl ?_ | refine it_neg (by decide) ?_ | refine st_nil rfl ?_ | refine s_op ?_ ?_ | exact True.intro
          | ((with_reducible first | refine dw_reg0 ?_ | refine dw_regB ?_); (conv => arg 3; whnf))
          | (refine Spl.go (fun hq he => ?_) (fun hq he => ?_) <;> first | (exfalso; clear hq; omega) | ((try (first | (conv => arg 8; simp only [hq]) | (conv => arg 4; simp only [hq]))); clear hq))
          | ((with_reducible first | refine c_split (fun hq => ?_) (fun hq => ?_) | refine q_split (fun hq => ?_) (fun hq => ?_)) <;> (try (first | (conv => arg 8; simp only [hq]) | (conv => arg 4; simp only [hq]))))
          | exact Sub.refl _
          | omega)
        refine fin_wk (wk_frzO 2000002 3000001 (by decide) (by decide) rfl (by decide) rfl ?_) ?_
        rotate_left
        (conv in hold _ => simp (disch := omega) only [go_sem, Nat.reduceEqDiff, Nat.reduceAdd, Nat.reduceMul, Nat.reduceSub, Nat.reduceLT, Nat.reduceLeDiff, ↓reduceIte, reduceCtorEq, Int.reduceToNat, t1, Nat.le_refl])
        refine fin_wk (wk_frzO 2000002 3000002 (by decide) (by decide) rfl (by decide) rfl ?_) ?_
        rotate_left
        (conv in hold _ => simp (disch := omega) only [go_sem, Nat.reduceEqDiff, Nat.reduceAdd, Nat.reduceMul, Nat.reduceSub, Nat.reduceLT, Nat.reduceLeDiff, ↓reduceIte, reduceCtorEq, Int.reduceToNat, t2, Nat.le_refl])
        all_goals first
          | exact eds_pur _
          | exact ints_pur _
          | skip
        refine fin_L [1000000] ?_ ?_ rfl ?_
        repeat' (first | (conv in hold _ => simp (disch := omega) only [go_sem, Nat.reduceEqDiff, Nat.reduceAdd, Nat.reduceMul, Nat.reduceSub, Nat.reduceLT, Nat.reduceLeDiff, ↓reduceIte, reduceCtorEq, Int.reduceToNat]) | exact True.intro | exact Sub.refl _ | omega)
theorem DrawSubsetSize_ok (cs : List Nat) (hc : ∀ b, b ∈ cs → b < 256) : ∃ (g : Gr) (m : Int), Does Try.prog 4 [] [bytesD cs] (.tup [grD g, I m]) [] ∧ Near g ∧ -1 ≤ m ∧ m ≤ 33 := by
  have hs : Src (cs.take 2000) := ⟨fun b hb => hc b (List.mem_of_mem_take hb), by rw [List.length_take]; omega⟩
  have hr := newReader_ok cs
  obtain ⟨g, q, ⟨hg, hn⟩, hq0, hq1⟩ := anyGraph_ok hs 0 (by omega)
  obtain ⟨k, hk, k0, k1, _⟩ := pick_ok hs q (by omega) 34 (by omega)
  obtain ⟨j, hj, j0, j1, _⟩ := pick_ok hs (q + 1) (by omega) 2 (by omega)
  have hk1 := k1 (by omega)
  have hj1 := j1 (by omega)
  refine ⟨g, k - j, ?_, hn, by omega, by omega⟩
  refine does0 c_spec_DrawSubsetSize mixed (Nat.le_of_ble_eq_true rfl) ?_
  conv => arg 3; whnf
  repeat' (first
    | with_reducible refine acc_none ?_
    | (conv in hold _ => simp (disch := omega) only [go_sem, Nat.reduceEqDiff, Nat.reduceAdd, Nat.reduceMul, Nat.reduceSub, Nat.reduceLT, Nat.reduceLeDiff, ↓reduceIte, reduceCtorEq, Int.reduceToNat])
    | refine Stp.go ?_
    | with_reducible first | refine it_pos rfl ?_ | refine it_neg (by decide) ?_ | refine st_nil rfl ?_ | refine s_op ?_ ?_ | exact True.intro
    | ((with_reducible first | refine dw_reg0 ?_ | refine dw_regB ?_); (conv => arg 3; whnf))
    | (refine Spl.go (fun hq he => ?_) (fun hq he => ?_) <;> first | (exfalso; clear hq; omega) | ((try (first | (conv => arg 8; simp only [hq]) | (conv => arg 4; simp only [hq]))); clear hq))
    | ((with_reducible first | refine c_split (fun hq => ?_) (fun hq => ?_) | refine q_split (fun hq => ?_) (fun hq => ?_)) <;> (try (first | (conv => arg 8; simp only [hq]) | (conv => arg 4; simp only [hq]))))
    | (with_reducible refine fin_0 ?_ (by first | rfl | (conv => lhs; simp only [go_sem])) ?_)
    | exact Sub.refl _
    | omega)
  refine c_doesR [3000001] (hr) (callOK_of rfl (Nat.le_of_ble_eq_true rfl) rfl ?_ ?_) ?_ ?_
  · repeat' (first | (conv in hold _ => simp (disch := omega) only [go_sem, Nat.reduceEqDiff, Nat.reduceAdd, Nat.reduceMul, Nat.reduceSub, Nat.reduceLT, Nat.reduceLeDiff, ↓reduceIte, reduceCtorEq, Int.reduceToNat]) | exact True.intro | exact Sub.refl _ | omega)
  · repeat' (first | (conv in hold _ => simp (disch := omega) only [go_sem, Nat.reduceEqDiff, Nat.reduceAdd, Nat.reduceMul, Nat.reduceSub, Nat.reduceLT, Nat.reduceLeDiff, ↓reduceIte, reduceCtorEq, Int.reduceToNat]) | exact True.intro | exact Sub.refl _ | omega)
  · ((conv => rhs; simp (disch := omega) only [go_sem, Nat.reduceEqDiff, Nat.reduceAdd, Nat.reduceMul, Nat.reduceSub, Nat.reduceLT, Nat.reduceLeDiff, ↓reduceIte, reduceCtorEq, Int.reduceToNat]); try rfl)
  repeat' (first
    | with_reducible refine acc_none ?_
    | (conv in hold _ => simp (disch := omega) only [go_sem, Nat.reduceEqDiff, Nat.reduceAdd, Nat.reduceMul, Nat.reduceSub, Nat.reduceLT, Nat.reduceLeDiff, ↓reduceIte, reduceCtorEq, Int.reduceToNat])
    | refine Stp.go ?_
    | with_reducible first | refine it_pos rfl ?_ | refine it_neg (by decide) ?_ | refine st_nil rfl ?_ | refine s_op ?_ ?_ | exact True.intro
    | ((with_reducible first | refine dw_reg0 ?_ | refine dw_regB ?_); (conv => arg 3; whnf))
    | (refine Spl.go (fun hq he => ?_) (fun hq he => ?_) <;> first | (exfalso; clear hq; omega) | ((try (first | (conv => arg 8; simp only [hq]) | (conv => arg 4; simp only [hq]))); clear hq))
    | ((with_reducible first | refine c_split (fun hq => ?_) (fun hq => ?_) | refine q_split (fun hq => ?_) (fun hq => ?_)) <;> (try (first | (conv => arg 8; simp only [hq]) | (conv => arg 4; simp only [hq]))))
    | (with_reducible refine fin_0 ?_ (by first | rfl | (conv => lhs; simp only [go_sem])) ?_)
    | exact Sub.refl _
    | omega)
  refine c_doesR [3000001] (hg) (callOK_of rfl (Nat.le_of_ble_eq_true rfl) rfl ?_ ?_) ?_ ?_
  · repeat' (first | (conv in hold _ => simp (disch := omega) only [go_sem, Nat.reduceEqDiff, Nat.reduceAdd, Nat.reduceMul, Nat.reduceSub, Nat.reduceLT, Nat.reduceLeDiff, ↓reduceIte, reduceCtorEq, Int.reduceToNat]) | exact True.intro | exact Sub.refl _ | omega)
  · repeat' (first | (conv in hold _ => simp (disch := omega) only [go_sem, Nat.reduceEqDiff, Nat.reduceAdd, Nat.reduceMul, Nat.reduceSub, Nat.reduceLT, Nat.reduceLeDiff, ↓reduceIte, reduceCtorEq, Int.reduceToNat]) | exact True.intro | exact Sub.refl _ | omega)
  · ((conv => rhs; simp (disch := omega) only [go_sem, Nat.reduceEqDiff, Nat.reduceAdd, Nat.reduceMul, Nat.reduceSub, Nat.reduceLT, Nat.reduceLeDiff, ↓reduceIte, reduceCtorEq, Int.reduceToNat]); try rfl)
  repeat' (first
    | with_reducible refine acc_none ?_
    | (conv in hold _ => simp (disch := omega) only [go_sem, Nat.reduceEqDiff, Nat.reduceAdd, Nat.reduceMul, Nat.reduceSub, Nat.reduceLT, Nat.reduceLeDiff, ↓reduceIte, reduceCtorEq, Int.reduceToNat])
    | refine Stp.go ?_
    | with_reducible first | refine it_pos rfl ?_ | refine it_neg (by decide) ?_ | refine st_nil rfl ?_ | refine s_op ?_ ?_ | exact True.intro
    | ((with_reducible first | refine dw_reg0 ?_ | refine dw_regB ?_); (conv => arg 3; whnf))
    | (refine Spl.go (fun hq he => ?_) (fun hq he => ?_) <;> first | (exfalso; clear hq; omega) | ((try (first | (conv => arg 8; simp only [hq]) | (conv => arg 4; simp only [hq]))); clear hq))
    | ((with_reducible first | refine c_split (fun hq => ?_) (fun hq => ?_) | refine q_split (fun hq => ?_) (fun hq => ?_)) <;> (try (first | (conv => arg 8; simp only [hq]) | (conv => arg 4; simp only [hq]))))
    | (with_reducible refine fin_0 ?_ (by first | rfl | (conv => lhs; simp only [go_sem])) ?_)
    | exact Sub.refl _
    | omega)
  refine c_doesR [3000001] (hk) (callOK_of rfl (Nat.le_of_ble_eq_true rfl) rfl ?_ ?_) ?_ ?_
  · repeat' (first | (conv in hold _ => simp (disch := omega) only [go_sem, Nat.reduceEqDiff, Nat.reduceAdd, Nat.reduceMul, Nat.reduceSub, Nat.reduceLT, Nat.reduceLeDiff, ↓reduceIte, reduceCtorEq, Int.reduceToNat]) | exact True.intro | exact Sub.refl _ | omega)
  · repeat' (first | (conv in hold _ => simp (disch := omega) only [go_sem, Nat.reduceEqDiff, Nat.reduceAdd, Nat.reduceMul, Nat.reduceSub, Nat.reduceLT, Nat.reduceLeDiff, ↓reduceIte, reduceCtorEq, Int.reduceToNat]) | exact True.intro | exact Sub.refl _ | omega)
  · ((conv => rhs; simp (disch := omega) only [go_sem, Nat.reduceEqDiff, Nat.reduceAdd, Nat.reduceMul, Nat.reduceSub, Nat.reduceLT, Nat.reduceLeDiff, ↓reduceIte, reduceCtorEq, Int.reduceToNat]); try rfl)
  repeat' (first
    | with_reducible refine acc_none ?_
    | (conv in hold _ => simp (disch := omega) only [go_sem, Nat.reduceEqDiff, Nat.reduceAdd, Nat.reduceMul, Nat.reduceSub, Nat.reduceLT, Nat.reduceLeDiff, ↓reduceIte, reduceCtorEq, Int.reduceToNat])
    | refine Stp.go ?_
    | with_reducible first | refine it_pos rfl ?_ | refine it_neg (by decide) ?_ | refine st_nil rfl ?_ | refine s_op ?_ ?_ | exact True.intro
    | ((with_reducible first | refine dw_reg0 ?_ | refine dw_regB ?_); (conv => arg 3; whnf))
    | (refine Spl.go (fun hq he => ?_) (fun hq he => ?_) <;> first | (exfalso; clear hq; omega) | ((try (first | (conv => arg 8; simp only [hq]) | (conv => arg 4; simp only [hq]))); clear hq))
    | ((with_reducible first | refine c_split (fun hq => ?_) (fun hq => ?_) | refine q_split (fun hq => ?_) (fun hq => ?_)) <;> (try (first | (conv => arg 8; simp only [hq]) | (conv => arg 4; simp only [hq]))))
    | (with_reducible refine fin_0 ?_ (by first | rfl | (conv => lhs; simp only [go_sem])) ?_)
    | exact Sub.refl _
    | omega)
  refine c_doesR [3000001] (hj) (callOK_of rfl (Nat.le_of_ble_eq_true rfl) rfl ?_ ?_) ?_ ?_
  · repeat' (first | (conv in hold _ => simp (disch := omega) only [go_sem, Nat.reduceEqDiff, Nat.reduceAdd, Nat.reduceMul, Nat.reduceSub, Nat.reduceLT, Nat.reduceLeDiff, ↓reduceIte, reduceCtorEq, Int.reduceToNat]) | exact True.intro | exact Sub.refl _ | omega)
  · repeat' (first | (conv in hold _ => simp (disch := omega) only [go_sem, Nat.reduceEqDiff, Nat.reduceAdd, Nat.reduceMul, Nat.reduceSub, Nat.reduceLT, Nat.reduceLeDiff, ↓reduceIte, reduceCtorEq, Int.reduceToNat]) | exact True.intro | exact Sub.refl _ | omega)
  · ((conv => rhs; simp (disch := omega) only [go_sem, Nat.reduceEqDiff, Nat.reduceAdd, Nat.reduceMul, Nat.reduceSub, Nat.reduceLT, Nat.reduceLeDiff, ↓reduceIte, reduceCtorEq, Int.reduceToNat]); try rfl)
  repeat' (first
    | with_reducible refine acc_none ?_
    | (conv in hold _ => simp (disch := omega) only [go_sem, Nat.reduceEqDiff, Nat.reduceAdd, Nat.reduceMul, Nat.reduceSub, Nat.reduceLT, Nat.reduceLeDiff, ↓reduceIte, reduceCtorEq, Int.reduceToNat])
    | refine Stp.go ?_
    | with_reducible first | refine it_pos rfl ?_ | refine it_neg (by decide) ?_ | refine st_nil rfl ?_ | refine s_op ?_ ?_ | exact True.intro
    | ((with_reducible first | refine dw_reg0 ?_ | refine dw_regB ?_); (conv => arg 3; whnf))
    | (refine Spl.go (fun hq he => ?_) (fun hq he => ?_) <;> first | (exfalso; clear hq; omega) | ((try (first | (conv => arg 8; simp only [hq]) | (conv => arg 4; simp only [hq]))); clear hq))
    | ((with_reducible first | refine c_split (fun hq => ?_) (fun hq => ?_) | refine q_split (fun hq => ?_) (fun hq => ?_)) <;> (try (first | (conv => arg 8; simp only [hq]) | (conv => arg 4; simp only [hq]))))
    | (with_reducible refine fin_0 ?_ (by first | rfl | (conv => lhs; simp only [go_sem])) ?_)
    | exact Sub.refl _
    | omega)
end Go.Proofs.Ytijaejjocmbkhaa

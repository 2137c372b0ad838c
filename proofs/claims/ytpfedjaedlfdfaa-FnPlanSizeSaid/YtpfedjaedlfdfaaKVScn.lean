/-
  The tables that a plan scans. No condition.
-/
import Derived.Test.YtpfedjaedlfdfaaDca
import Derived.Test.YtpfedjaedlfdfaaDci
import Derived.Test.YtpfedjaedlfdfaaKVPn
import Derived.Test.YtpfedjaedlfdfaaKVWidF
set_option maxHeartbeats 4000000
set_option maxRecDepth 100000
set_option linter.unusedVariables false
set_option linter.unusedSimpArgs false
namespace Go.Proofs.Ytpfedjaedlfdfaa
open Go.RowKit

mutual
/-- Whether a plan scans a table. -/
def scn (t : Int) : Pl → Bool
  | .mk k tb _ _ ks => if k = 1 then tb == t else scnL t ks
def scnL (t : Int) : List Pl → Bool
  | [] => false
  | p :: l => scn t p || scnL t l
end
theorem scnL_any (t : Int) : ∀ l : List Pl, scnL t l = l.any (scn t)
  | [] => by rw [scnL]; rfl
  | p :: l => by rw [scnL, scnL_any t l, List.any_cons]
theorem scn_eq (t : Int) (p : Pl) : scn t p = if p.k = 1 then p.t == t else p.ks.any (scn t) := by
  cases p
  rw [scn, scnL_any]
  rfl
def placeL {α : Type} (p : α → Bool) (l : List α) : Int := if l.any p then (l.findIdx p : Int) else -1
theorem placeL_at {α : Type} {p : α → Bool} {l : List α} {i : Nat} {x : α} (hx : l[i]? = some x) (hp : p x = true) (h : ∀ (j : Nat) (u : α), j < i → l[j]? = some u → p u = false) : placeL p l = i := by
  have hlt := (List.getElem?_eq_some_iff.1 hx).1
  have hxe := (List.getElem?_eq_some_iff.1 hx).2
  have h1 : l.findIdx p = i := (List.findIdx_eq hlt).2 ⟨by rw [hxe]; exact hp, fun j hj => h j _ hj (List.getElem?_eq_getElem (by omega))⟩
  unfold placeL
  rw [if_pos (List.any_eq_true.2 ⟨x, List.mem_of_getElem? hx, hp⟩), h1]
theorem placeL_none {α : Type} {p : α → Bool} {l : List α} (h : ∀ u, u ∈ l → p u = false) : placeL p l = -1 := by
  unfold placeL
  rw [if_neg]
  intro ha
  obtain ⟨x, hx, hp⟩ := List.any_eq_true.1 ha
  rw [h x hx] at hp
  cases hp
theorem placeL_pos {α : Type} (p : α → Bool) (l : List α) : (0 ≤ placeL p l) ↔ l.any p = true := by
  unfold placeL
  by_cases h : l.any p = true
  · rw [if_pos h]; exact ⟨fun _ => h, fun _ => by omega⟩
  · rw [if_neg h]; exact ⟨fun h' => by omega, fun h' => absurd h' h⟩
theorem indexP_ok (l : List Pl) (hl : l.length < 2000000) (t : Int) (h : ∀ x, x ∈ l → Does Try.prog 60 [.obj [I t]] [pD x, .ref 1000000 0] (Bo (scn t x)) [.obj [I t]]) : Does Try.prog 88 [.obj [I t]] [.sl 5 (l.map pD), .fn 60 [.ref 1000000 0]] (I (placeL (scn t) l)) [.obj [I t]] := by
  refine does c_slices_IndexFunc___loop_example_queryoptimizer_impl_Plan_loop_example_queryoptimizer_impl_Plan_ mixed (Nat.le_of_ble_eq_true rfl) 1 rfl ?_
  conv => arg 3; whnf
  repeat' (first | with_reducible refine acc_none ?_ | (conv in hold _ => simp (disch := omega) only [go_sem]) | refine Stp.go ?_ | (with_reducible first | refine it_pos rfl ?_ | refine it_neg (by decide) ?_ | refine st_nil rfl ?_ | refine s_op ?_ ?_ | exact True.intro) | ((with_reducible first | refine dw_reg0 ?_ | refine dw_regB ?_); (conv => arg 3; whnf)) | (refine Spl.go (fun hq he => ?_) (fun hq he => ?_) <;> first | (exfalso; clear hq; omega) | ((try (first | (conv => arg 8; simp only [hq]) | (conv => arg 4; simp only [hq]))); clear hq)) | ((with_reducible first | refine c_split (fun hq => ?_) (fun hq => ?_) | refine q_split (fun hq => ?_) (fun hq => ?_)) <;> (try (first | (conv => arg 8; simp only [hq]) | (conv => arg 4; simp only [hq])))) | (with_reducible refine fin_0 ?_ (by first | rfl | (conv => lhs; simp only [go_sem])) ?_) | exact Sub.refl _ | omega)
  refine dw_for (c := 1) (l := fun i => [(0, .sl 5 (l.map pD)), (1, .fn 60 [.ref 1000000 0]), (7, I l.length), (8, I i), (1000000, .obj [I t])]) l.length (fun i => ∀ (j : Nat) (u : Pl), j < i → l[j]? = some u → scn t u = false) 0 (by omega) (Wk.list [1000000] rfl rfl ?_) (fun i hi hJ => ?_) (Nat.zero_le _)
  · repeat' (first | (conv in hold _ => simp (disch := omega) only [go_sem]) | exact True.intro | exact Sub.refl _ | omega)
    exact rfl
  · rcases at_or_end hi with ⟨x, hx, hlt⟩ | rfl
    · have hix := h x (List.mem_of_getElem? hx)
      cases hq : scn t x with
      | true =>
        rw [hq] at hix
        repeat' (first | with_reducible refine acc_none ?_ | (conv in hold _ => simp (disch := omega) only [go_sem, List.getElem?_map, hx, Option.map_some]) | refine Stp.go ?_ | (with_reducible first | refine it_pos rfl ?_ | refine it_neg (by decide) ?_ | refine st_nil rfl ?_ | refine s_op ?_ ?_ | exact True.intro) | ((with_reducible first | refine dw_reg0 ?_ | refine dw_regB ?_); (conv => arg 3; whnf)) | (refine Spl.go (fun hq he => ?_) (fun hq he => ?_) <;> first | (exfalso; clear hq; omega) | ((try (first | (conv => arg 8; simp only [hq]) | (conv => arg 4; simp only [hq]))); clear hq)) | ((with_reducible first | refine c_split (fun hq => ?_) (fun hq => ?_) | refine q_split (fun hq => ?_) (fun hq => ?_)) <;> (try (first | (conv => arg 8; simp only [hq]) | (conv => arg 4; simp only [hq])))) | (with_reducible refine fin_0 ?_ (by first | rfl | (conv => lhs; simp only [go_sem, List.getElem?_map, hx, Option.map_some])) ?_) | exact Sub.refl _ | omega)
        refine v_fn ((by kernel_rfl)) ?_
        refine c_doesR [1000000] (hix) (callOK_of rfl (Nat.le_of_ble_eq_true rfl) rfl ?_ ?_) ?_ ?_
        · repeat' (first | (conv in hold _ => simp (disch := omega) only [go_sem]) | exact True.intro | exact Sub.refl _ | omega)
        · repeat' (first | (conv in hold _ => simp (disch := omega) only [go_sem]) | exact True.intro | exact Sub.refl _ | omega)
        · ((conv => rhs; simp (disch := omega) only [go_sem]); try rfl)
        repeat' (first | with_reducible refine acc_none ?_ | (conv in hold _ => simp (disch := omega) only [go_sem]) | refine Stp.go ?_ | (with_reducible first | refine it_pos rfl ?_ | refine it_neg (by decide) ?_ | refine st_nil rfl ?_ | refine s_op ?_ ?_ | exact True.intro) | ((with_reducible first | refine dw_reg0 ?_ | refine dw_regB ?_); (conv => arg 3; whnf)) | (refine Spl.go (fun hq he => ?_) (fun hq he => ?_) <;> first | (exfalso; clear hq; omega) | ((try (first | (conv => arg 8; simp only [hq]) | (conv => arg 4; simp only [hq]))); clear hq)) | ((with_reducible first | refine c_split (fun hq => ?_) (fun hq => ?_) | refine q_split (fun hq => ?_) (fun hq => ?_)) <;> (try (first | (conv => arg 8; simp only [hq]) | (conv => arg 4; simp only [hq])))) | (with_reducible refine fin_0 ?_ (by first | rfl | (conv => lhs; simp only [go_sem])) ?_) | exact Sub.refl _ | omega)
        refine fin_L [1000000] ?_ ?_ rfl ?_
        repeat' (first | (conv in hold _ => simp (disch := omega) only [go_sem]) | exact True.intro | exact Sub.refl _ | omega)
        exact Sub.of_eq (by rw [placeL_at hx hq hJ])
      | false =>
        rw [hq] at hix
        repeat' (first | with_reducible refine acc_none ?_ | (conv in hold _ => simp (disch := omega) only [go_sem, List.getElem?_map, hx, Option.map_some]) | refine Stp.go ?_ | (with_reducible first | refine it_pos rfl ?_ | refine it_neg (by decide) ?_ | refine st_nil rfl ?_ | refine s_op ?_ ?_ | exact True.intro) | ((with_reducible first | refine dw_reg0 ?_ | refine dw_regB ?_); (conv => arg 3; whnf)) | (refine Spl.go (fun hq he => ?_) (fun hq he => ?_) <;> first | (exfalso; clear hq; omega) | ((try (first | (conv => arg 8; simp only [hq]) | (conv => arg 4; simp only [hq]))); clear hq)) | ((with_reducible first | refine c_split (fun hq => ?_) (fun hq => ?_) | refine q_split (fun hq => ?_) (fun hq => ?_)) <;> (try (first | (conv => arg 8; simp only [hq]) | (conv => arg 4; simp only [hq])))) | (with_reducible refine fin_0 ?_ (by first | rfl | (conv => lhs; simp only [go_sem, List.getElem?_map, hx, Option.map_some])) ?_) | exact Sub.refl _ | omega)
        refine v_fn ((by kernel_rfl)) ?_
        refine c_doesR [1000000] (hix) (callOK_of rfl (Nat.le_of_ble_eq_true rfl) rfl ?_ ?_) ?_ ?_
        · repeat' (first | (conv in hold _ => simp (disch := omega) only [go_sem]) | exact True.intro | exact Sub.refl _ | omega)
        · repeat' (first | (conv in hold _ => simp (disch := omega) only [go_sem]) | exact True.intro | exact Sub.refl _ | omega)
        · ((conv => rhs; simp (disch := omega) only [go_sem]); try rfl)
        repeat' (first | with_reducible refine acc_none ?_ | (conv in hold _ => simp (disch := omega) only [go_sem]) | refine Stp.go ?_ | (with_reducible first | refine it_pos rfl ?_ | refine it_neg (by decide) ?_ | refine st_nil rfl ?_ | refine s_op ?_ ?_ | exact True.intro) | ((with_reducible first | refine dw_reg0 ?_ | refine dw_regB ?_); (conv => arg 3; whnf)) | (refine Spl.go (fun hq he => ?_) (fun hq he => ?_) <;> first | (exfalso; clear hq; omega) | ((try (first | (conv => arg 8; simp only [hq]) | (conv => arg 4; simp only [hq]))); clear hq)) | ((with_reducible first | refine c_split (fun hq => ?_) (fun hq => ?_) | refine q_split (fun hq => ?_) (fun hq => ?_)) <;> (try (first | (conv => arg 8; simp only [hq]) | (conv => arg 4; simp only [hq])))) | (with_reducible refine fin_0 ?_ (by first | rfl | (conv => lhs; simp only [go_sem])) ?_) | exact Sub.refl _ | omega)
        refine ⟨hlt, upto_next (p := fun u => scn t u = false) hx hJ hq, Wk.list [1000000] rfl rfl ?_⟩
        repeat' (first | (conv in hold _ => simp (disch := omega) only [go_sem]) | exact True.intro | exact Sub.refl _ | omega)
    · repeat' (first | with_reducible refine acc_none ?_ | (conv in hold _ => simp (disch := omega) only [go_sem]) | refine Stp.go ?_ | (with_reducible first | refine it_pos rfl ?_ | refine it_neg (by decide) ?_ | refine st_nil rfl ?_ | refine s_op ?_ ?_ | exact True.intro) | ((with_reducible first | refine dw_reg0 ?_ | refine dw_regB ?_); (conv => arg 3; whnf)) | (refine Spl.go (fun hq he => ?_) (fun hq he => ?_) <;> first | (exfalso; clear hq; omega) | ((try (first | (conv => arg 8; simp only [hq]) | (conv => arg 4; simp only [hq]))); clear hq)) | ((with_reducible first | refine c_split (fun hq => ?_) (fun hq => ?_) | refine q_split (fun hq => ?_) (fun hq => ?_)) <;> (try (first | (conv => arg 8; simp only [hq]) | (conv => arg 4; simp only [hq])))) | (with_reducible refine fin_0 ?_ (by first | rfl | (conv => lhs; simp only [go_sem])) ?_) | exact Sub.refl _ | omega)
      refine fin_L [1000000] ?_ ?_ rfl ?_
      repeat' (first | (conv in hold _ => simp (disch := omega) only [go_sem]) | exact True.intro | exact Sub.refl _ | omega)
      exact Sub.of_eq (by rw [placeL_none (upto_all (p := fun u => scn t u = false) hJ)])
theorem containsP_ok (l : List Pl) (hl : l.length < 2000000) (t : Int) (h : ∀ x, x ∈ l → Does Try.prog 60 [.obj [I t]] [pD x, .ref 1000000 0] (Bo (scn t x)) [.obj [I t]]) : Does Try.prog 59 [.obj [I t]] [.sl 5 (l.map pD), .fn 60 [.ref 1000000 0]] (Bo (l.any (scn t))) [.obj [I t]] := by
  have h1 := indexP_ok l hl t h
  have h2 := placeL_pos (scn t) l
  refine does c_slices_ContainsFunc___loop_example_queryoptimizer_impl_Plan_loop_example_queryoptimizer_impl_Plan_ mixed (Nat.le_of_ble_eq_true rfl) 1 rfl ?_
  conv => arg 3; whnf
  repeat' (first
    | with_reducible refine acc_none ?_ | (conv in hold _ => simp (disch := omega) only [go_sem]) | refine Stp.go ?_ | (with_reducible first | refine it_pos rfl ?_ | refine it_neg (by decide) ?_ | refine st_nil rfl ?_ | refine s_op ?_ ?_ | exact True.intro) | ((with_reducible first | refine dw_reg0 ?_ | refine dw_regB ?_); (conv => arg 3; whnf)) | (refine Spl.go (fun hq he => ?_) (fun hq he => ?_) <;> first | (exfalso; clear hq; omega) | ((try (first | (conv => arg 8; simp only [hq]) | (conv => arg 4; simp only [hq]))); clear hq)) | ((with_reducible first | refine c_split (fun hq => ?_) (fun hq => ?_) | refine q_split (fun hq => ?_) (fun hq => ?_)) <;> (try (first | (conv => arg 8; simp only [hq]) | (conv => arg 4; simp only [hq])))) | (with_reducible refine fin_0 ?_ (by first | rfl | (conv => lhs; simp only [go_sem])) ?_)
    | (with_reducible show evC _ _ _ _ _ _ _ _ _ _ _ _
       first
       | (refine c_doesR [1000000] (h1) (callOK_of rfl (Nat.le_of_ble_eq_true rfl) rfl ?_ ?_) ?_ ?_
          iterate 2 · repeat' (first | (conv in hold _ => simp (disch := omega) only [go_sem]) | exact True.intro | exact Sub.refl _ | omega)
          · ((conv => rhs; simp (disch := omega) only [go_sem]); try rfl)))
    | exact Sub.refl _ | omega)
  have h3 : decide (0 ≤ placeL (scn t) l) = l.any (scn t) := by
    rw [Bool.eq_iff_iff, decide_eq_true_iff]
    exact h2
  refine fin_L [1000000] ?_ ?_ rfl ?_
  repeat' (first | (conv in hold _ => simp (disch := omega) only [go_sem]) | exact True.intro | exact Sub.refl _ | omega)
  rw [h3]
  exact Sub.refl _
theorem scans_ok (t : Int) : ∀ p : Pl, psz p ≤ 1048576 → Does Try.prog 37 [] [pD p, I t] (Bo (scn t p)) [] := by
  refine Pl.indA (fun p ih h => ?_)
  rw [psz_eq] at h
  have hlen := pszL_len p.ks
  rw [scn_eq]
  by_cases hk : p.k = 1
  · rw [if_pos hk]
    refine does0 c_impl_scans mixed (Nat.le_of_ble_eq_true rfl) ?_
    conv => arg 3; whnf
    repeat' (first | with_reducible refine acc_none ?_ | (conv in hold _ => simp (disch := omega) only [go_sem]) | refine Stp.go ?_ | (with_reducible first | refine it_pos rfl ?_ | refine it_neg (by decide) ?_ | refine st_nil rfl ?_ | refine s_op ?_ ?_ | exact True.intro) | ((with_reducible first | refine dw_reg0 ?_ | refine dw_regB ?_); (conv => arg 3; whnf)) | (refine Spl.go (fun hq he => ?_) (fun hq he => ?_) <;> first | (exfalso; clear hq; omega) | ((try (first | (conv => arg 8; simp only [hq]) | (conv => arg 4; simp only [hq]))); clear hq)) | ((with_reducible first | refine c_split (fun hq => ?_) (fun hq => ?_) | refine q_split (fun hq => ?_) (fun hq => ?_)) <;> (try (first | (conv => arg 8; simp only [hq]) | (conv => arg 4; simp only [hq])))) | (with_reducible refine fin_0 ?_ (by first | rfl | (conv => lhs; simp only [go_sem])) ?_) | exact Sub.refl _ | omega)
  · rw [if_neg hk]
    have hkid : ∀ x, x ∈ p.ks → Does Try.prog 60 [.obj [I t]] [pD x, .ref 1000000 0] (Bo (scn t x)) [.obj [I t]] := fun x hx => by
      have hix := ih x hx (by have := pszL_mem hx; omega)
      refine does c_impl_scans_1 mixed (Nat.le_of_ble_eq_true rfl) 1 rfl ?_
      conv => arg 3; whnf
      repeat' (first
        | with_reducible refine acc_none ?_ | (conv in hold _ => simp (disch := omega) only [go_sem]) | refine Stp.go ?_ | (with_reducible first | refine it_pos rfl ?_ | refine it_neg (by decide) ?_ | refine st_nil rfl ?_ | refine s_op ?_ ?_ | exact True.intro) | ((with_reducible first | refine dw_reg0 ?_ | refine dw_regB ?_); (conv => arg 3; whnf)) | (refine Spl.go (fun hq he => ?_) (fun hq he => ?_) <;> first | (exfalso; clear hq; omega) | ((try (first | (conv => arg 8; simp only [hq]) | (conv => arg 4; simp only [hq]))); clear hq)) | ((with_reducible first | refine c_split (fun hq => ?_) (fun hq => ?_) | refine q_split (fun hq => ?_) (fun hq => ?_)) <;> (try (first | (conv => arg 8; simp only [hq]) | (conv => arg 4; simp only [hq])))) | (with_reducible refine fin_0 ?_ (by first | rfl | (conv => lhs; simp only [go_sem])) ?_)
        | (with_reducible show evC _ _ _ _ _ _ _ _ _ _ _ _
           first
           | (refine c_doesE (hix) ?_ ?_ ?_
              · ((try (conv => rhs; simp (disch := omega) only [go_sem])); try rfl)
              · first | rfl | (conv => lhs; simp only [go_sem])))
        | exact Sub.refl _ | omega)
      refine fin_L [1000000] ?_ ?_ rfl ?_
      repeat' (first | (conv in hold _ => simp (disch := omega) only [go_sem]) | exact True.intro | exact Sub.refl _ | omega)
    have hc := containsP_ok p.ks (by omega) t hkid
    refine does0 c_impl_scans mixed (Nat.le_of_ble_eq_true rfl) ?_
    conv => arg 3; whnf
    repeat' (first
      | with_reducible refine acc_none ?_ | (conv in hold _ => simp (disch := omega) only [go_sem]) | refine Stp.go ?_ | (with_reducible first | refine it_pos rfl ?_ | refine it_neg (by decide) ?_ | refine st_nil rfl ?_ | refine s_op ?_ ?_ | exact True.intro) | ((with_reducible first | refine dw_reg0 ?_ | refine dw_regB ?_); (conv => arg 3; whnf)) | (refine Spl.go (fun hq he => ?_) (fun hq he => ?_) <;> first | (exfalso; clear hq; omega) | ((try (first | (conv => arg 8; simp only [hq]) | (conv => arg 4; simp only [hq]))); clear hq)) | ((with_reducible first | refine c_split (fun hq => ?_) (fun hq => ?_) | refine q_split (fun hq => ?_) (fun hq => ?_)) <;> (try (first | (conv => arg 8; simp only [hq]) | (conv => arg 4; simp only [hq])))) | (with_reducible refine fin_0 ?_ (by first | rfl | (conv => lhs; simp only [go_sem])) ?_)
      | (with_reducible show evC _ _ _ _ _ _ _ _ _ _ _ _
         first
         | (refine c_doesR [2000003] (hc) (callOK_of rfl (Nat.le_of_ble_eq_true rfl) rfl ?_ ?_) ?_ ?_
            iterate 2 · repeat' (first | (conv in hold _ => simp (disch := omega) only [go_sem]) | exact True.intro | exact Sub.refl _ | omega)
            · ((conv => rhs; simp (disch := omega) only [go_sem]); try rfl)))
      | exact Sub.refl _ | omega)
def tbs (p : Pl) (i : Nat) : List Int := ((List.range i).filter (fun t : Nat => scn (t : Int) p)).map (fun t : Nat => (t : Int))
theorem tbs_t {p : Pl} {i : Nat} (h : scn (i : Int) p = true) : tbs p (i + 1) = tbs p i ++ [(i : Int)] := by
  unfold tbs
  rw [List.range_succ, List.filter_append, List.map_append, List.filter_cons, if_pos h]
  rfl
theorem tbs_f {p : Pl} {i : Nat} (h : scn (i : Int) p = false) : tbs p (i + 1) = tbs p i := by
  unfold tbs
  rw [List.range_succ, List.filter_append, List.map_append, List.filter_cons, if_neg (by rw [h]; decide)]
  exact List.append_nil _
theorem tbs_le (p : Pl) (i : Nat) : (tbs p i).length ≤ i := by
  unfold tbs
  rw [List.length_map]
  exact Nat.le_trans (List.length_filter_le ..) (by rw [List.length_range]; exact Nat.le_refl _)
theorem or_le {α : Type} (f g : α → Bool) : ∀ l : List α, (l.filter (fun a => f a || g a)).length ≤ (l.filter f).length + (l.filter g).length
  | [] => Nat.le_refl _
  | a :: l => by
    have ih := or_le f g l
    rw [List.filter_cons, List.filter_cons, List.filter_cons]
    cases f a <;> cases g a <;> simp only [Bool.or_self, Bool.or_true, Bool.true_or, Bool.false_or, Bool.or_false, if_true, Bool.false_eq_true, if_false, List.length_cons] <;> omega
theorem single_le (a : Int) : ∀ m : Nat, ((List.range m).filter (fun t : Nat => a == (t : Int))).length ≤ 1 ∧ (0 < ((List.range m).filter (fun t : Nat => a == (t : Int))).length → a < m)
  | 0 => ⟨Nat.zero_le _, fun h => absurd h (Nat.lt_irrefl 0)⟩
  | m + 1 => by
    obtain ⟨h1, h2⟩ := single_le a m
    rw [List.range_succ, List.filter_append, List.length_append, List.filter_cons]
    by_cases h : a = (m : Int)
    · rw [if_pos (beq_iff_eq.2 h)]
      simp only [List.filter_nil, List.length_cons, List.length_nil]
      generalize ((List.range m).filter (fun t : Nat => a == (t : Int))).length = n at *
      omega
    · rw [if_neg (by rw [beq_iff_eq]; exact h)]
      simp only [List.filter_nil, List.length_nil]
      generalize ((List.range m).filter (fun t : Nat => a == (t : Int))).length = n at *
      omega
theorem cntL_le (m : Nat) : ∀ l : List Pl, (∀ x, x ∈ l → ((List.range m).filter (fun t : Nat => scn (t : Int) x)).length ≤ pn x) → ((List.range m).filter (fun t : Nat => l.any (scn (t : Int)))).length ≤ pnL l
  | [], _ => by
    have : (List.range m).filter (fun t : Nat => ([] : List Pl).any (scn (t : Int))) = [] := List.filter_eq_nil_iff.2 (fun a _ => by rw [List.any_nil]; decide)
    rw [this]
    exact Nat.zero_le _
  | x :: l, h => by
    have h1 := h x (List.mem_cons_self ..)
    have h2 := cntL_le m l (fun y hy => h y (List.mem_cons_of_mem _ hy))
    have h3 := or_le (fun t : Nat => scn (t : Int) x) (fun t : Nat => l.any (scn (t : Int))) (List.range m)
    have e : (fun t : Nat => (x :: l).any (scn (t : Int))) = fun t : Nat => scn (t : Int) x || l.any (scn (t : Int)) := funext fun t => List.any_cons
    rw [e, pnL]
    omega
theorem cnt_le (m : Nat) : ∀ p : Pl, ((List.range m).filter (fun t : Nat => scn (t : Int) p)).length ≤ pn p := by
  refine Pl.indA (fun p ih => ?_)
  rw [pn_eq]
  by_cases hk : p.k = 1
  · have e : (fun t : Nat => scn (t : Int) p) = fun t : Nat => p.t == (t : Int) := funext fun t => by rw [scn_eq, if_pos hk]
    rw [e]
    have := (single_le p.t m).1
    omega
  · have e : (fun t : Nat => scn (t : Int) p) = fun t : Nat => p.ks.any (scn (t : Int)) := funext fun t => by rw [scn_eq, if_neg hk]
    rw [e]
    have := cntL_le m p.ks ih
    omega
theorem scn_some {ws : List Int} : ∀ p : Pl, FineE ws p → ∃ t : Nat, t < ws.length ∧ scn (t : Int) p = true := by
  refine Pl.indA (fun p ih hp => ?_)
  by_cases hk : p.k = 1
  · have hsc := hp.scan hk
    refine ⟨p.t.toNat, by omega, ?_⟩
    rw [scn_eq, if_pos hk, beq_iff_eq]
    omega
  · have hf := hp.fields
    obtain ⟨x, hx⟩ : ∃ x, p.ks[0]? = some x := ⟨_, List.getElem?_eq_getElem (by unfold fields at hf; omega)⟩
    have hm := List.mem_of_getElem? hx
    obtain ⟨t, ht, hs⟩ := ih x hm (hp.kid hm)
    refine ⟨t, ht, ?_⟩
    rw [scn_eq, if_neg hk, List.any_eq_true]
    exact ⟨x, hm, hs⟩
theorem tbs_bound {ws : List Int} {p : Pl} (hp : FineE ws p) : 0 < (tbs p ws.length).length ∧ (tbs p ws.length).length ≤ pn p := by
  unfold tbs
  rw [List.length_map]
  refine ⟨?_, cnt_le _ p⟩
  obtain ⟨t, ht, hs⟩ := scn_some p hp
  exact List.length_pos_of_mem (List.mem_filter.2 ⟨List.mem_range.2 ht, hs⟩)
theorem TablesOf_impl {ws : List Int} (hl : ws.length ≤ 1048576) {p : Pl} (hs : psz p ≤ 1048576) (hw : PV ws p ≠ 0) : Does Try.prog 14 [] [pD p, intsD ws] (intsD (tbs p ws.length)) [] := by
  obtain ⟨_, _, h2⟩ := PlanWidth_fn p hs ws hl
  have e0 : (PV ws p == 0) = false := beq_eq_false_iff_ne.2 hw
  generalize PV ws p = w at *
  have t4 : ((tbs p ws.length).map I).take (tbs p ws.length).length = (tbs p ws.length).map I := List.take_of_length_le (by rw [List.length_map]; exact Nat.le_refl _)
  refine does0 c_impl_TablesOf mixed (Nat.le_of_ble_eq_true rfl) ?_
  conv => arg 3; whnf
  repeat' (first
    | with_reducible refine acc_none ?_ | (conv in hold _ => simp (disch := omega) only [go_sem, e0]) | refine Stp.go ?_ | (with_reducible first | refine it_pos rfl ?_ | refine it_neg (by decide) ?_ | refine st_nil rfl ?_ | refine s_op ?_ ?_ | exact True.intro) | ((with_reducible first | refine dw_reg0 ?_ | refine dw_regB ?_); (conv => arg 3; whnf)) | (refine Spl.go (fun hq he => ?_) (fun hq he => ?_) <;> first | (exfalso; clear hq; omega) | ((try (first | (conv => arg 8; simp only [hq]) | (conv => arg 4; simp only [hq]))); clear hq)) | ((with_reducible first | refine c_split (fun hq => ?_) (fun hq => ?_) | refine q_split (fun hq => ?_) (fun hq => ?_)) <;> (try (first | (conv => arg 8; simp only [hq]) | (conv => arg 4; simp only [hq])))) | (with_reducible refine fin_0 ?_ (by first | rfl | (conv => lhs; simp only [go_sem, e0])) ?_)
    | (with_reducible show evC _ _ _ _ _ _ _ _ _ _ _ _
       first
       | (refine c_doesE (h2) ?_ ?_ ?_
          · ((try (conv => rhs; simp (disch := omega) only [go_sem, e0])); try rfl)
          · first | rfl | (conv => lhs; simp only [go_sem, e0])))
    | exact Sub.refl _ | omega)
  refine dw_for (c := 2) (l := fun i => [(1, intsD ws), (2, .ref 1000000 0), (5, .own 1000001 1 (tbs p i).length), (12, I ws.length), (13, I i), (1000000, .obj [I p.k, I p.t, .sl 5 (p.es.map eD), intsD p.cs, .sl 5 (p.ks.map pD)]), (1000001, .row 1 ((tbs p i).map I))]) ws.length (fun _ => True) 0 trivial ((wk_row 5 2000099 1 (by decide) (by decide) rfl rfl).trans (Wk.list [2000002, 2000099] rfl rfl ?_)) (fun i hi _ => ?_) (Nat.zero_le _)
  · repeat' (first | (conv in hold _ => simp (disch := omega) only [go_sem]) | exact True.intro | exact Sub.refl _ | omega)
    exact ⟨rfl, rfl, rfl⟩
  · have hle := tbs_le p i
    have hix := scans_ok (i : Int) p hs
    by_cases hil : i < ws.length
    · cases hq : scn (i : Int) p with
      | true =>
        rw [hq] at hix
        have hnx := tbs_t hq
        repeat' (first
          | with_reducible refine acc_none ?_ | (conv in hold _ => simp (disch := omega) only [go_sem, List.length_map]) | refine Stp.go ?_ | (with_reducible first | refine it_pos rfl ?_ | refine it_neg (by decide) ?_ | refine st_nil rfl ?_ | refine s_op ?_ ?_ | exact True.intro) | ((with_reducible first | refine dw_reg0 ?_ | refine dw_regB ?_); (conv => arg 3; whnf)) | (refine Spl.go (fun hq he => ?_) (fun hq he => ?_) <;> first | (exfalso; clear hq; omega) | ((try (first | (conv => arg 8; simp only [hq]) | (conv => arg 4; simp only [hq]))); clear hq)) | ((with_reducible first | refine c_split (fun hq => ?_) (fun hq => ?_) | refine q_split (fun hq => ?_) (fun hq => ?_)) <;> (try (first | (conv => arg 8; simp only [hq]) | (conv => arg 4; simp only [hq])))) | (with_reducible refine fin_0 ?_ (by first | rfl | (conv => lhs; simp only [go_sem, List.length_map])) ?_)
          | (with_reducible show evC _ _ _ _ _ _ _ _ _ _ _ _
             first
             | (refine c_doesE (hix) ?_ ?_ ?_
                · ((try (conv => rhs; simp (disch := omega) only [go_sem, List.length_map])); try rfl)
                · first | rfl | (conv => lhs; simp only [go_sem, List.length_map])))
          | exact Sub.refl _ | omega)
        refine ⟨hil, trivial, Wk.list [1000000, 2000022] rfl rfl ?_⟩
        repeat' (first | (conv in hold _ => simp (disch := omega) only [go_sem, List.length_map]) | exact True.intro | exact Sub.refl _ | omega)
        rw [hnx, List.map_append, List.length_append]
        exact ⟨rfl, rfl⟩
      | false =>
        rw [hq] at hix
        have hnx := tbs_f hq
        repeat' (first
          | with_reducible refine acc_none ?_ | (conv in hold _ => simp (disch := omega) only [go_sem]) | refine Stp.go ?_ | (with_reducible first | refine it_pos rfl ?_ | refine it_neg (by decide) ?_ | refine st_nil rfl ?_ | refine s_op ?_ ?_ | exact True.intro) | ((with_reducible first | refine dw_reg0 ?_ | refine dw_regB ?_); (conv => arg 3; whnf)) | (refine Spl.go (fun hq he => ?_) (fun hq he => ?_) <;> first | (exfalso; clear hq; omega) | ((try (first | (conv => arg 8; simp only [hq]) | (conv => arg 4; simp only [hq]))); clear hq)) | ((with_reducible first | refine c_split (fun hq => ?_) (fun hq => ?_) | refine q_split (fun hq => ?_) (fun hq => ?_)) <;> (try (first | (conv => arg 8; simp only [hq]) | (conv => arg 4; simp only [hq])))) | (with_reducible refine fin_0 ?_ (by first | rfl | (conv => lhs; simp only [go_sem])) ?_)
          | (with_reducible show evC _ _ _ _ _ _ _ _ _ _ _ _
             first
             | (refine c_doesE (hix) ?_ ?_ ?_
                · ((try (conv => rhs; simp (disch := omega) only [go_sem])); try rfl)
                · first | rfl | (conv => lhs; simp only [go_sem])))
          | exact Sub.refl _ | omega)
        refine ⟨hil, trivial, Wk.list [1000000, 1000001] rfl rfl ?_⟩
        repeat' (first | (conv in hold _ => simp (disch := omega) only [go_sem]) | exact True.intro | exact Sub.refl _ | omega)
        rw [hnx]
        exact ⟨rfl, rfl⟩
    · obtain rfl : i = ws.length := by omega
      repeat' (first | with_reducible refine acc_none ?_ | (conv in hold _ => simp (disch := omega) only [go_sem]) | refine Stp.go ?_ | (with_reducible first | refine it_pos rfl ?_ | refine it_neg (by decide) ?_ | refine st_nil rfl ?_ | refine s_op ?_ ?_ | exact True.intro) | ((with_reducible first | refine dw_reg0 ?_ | refine dw_regB ?_); (conv => arg 3; whnf)) | (refine Spl.go (fun hq he => ?_) (fun hq he => ?_) <;> first | (exfalso; clear hq; omega) | ((try (first | (conv => arg 8; simp only [hq]) | (conv => arg 4; simp only [hq]))); clear hq)) | ((with_reducible first | refine c_split (fun hq => ?_) (fun hq => ?_) | refine q_split (fun hq => ?_) (fun hq => ?_)) <;> (try (first | (conv => arg 8; simp only [hq]) | (conv => arg 4; simp only [hq])))) | exact Sub.refl _ | omega)
      refine fin_wk (wk_frz 4 1000001 (by decide) (by decide) rfl ?_) ?_
      rotate_left
      (conv in hold _ => simp (disch := omega) only [go_sem, t4, Nat.le_refl, List.length_map])
      · refine fin_L [] ?_ ?_ rfl ?_
        repeat' (first | (conv in hold _ => simp (disch := omega) only [go_sem]) | exact True.intro | exact Sub.refl _ | omega)
      · exact ints_pur _
end Go.Proofs.Ytpfedjaedlfdfaa

/-
  Indexes of a column, as the model makes them. No condition.
-/
import Derived.Test.YtabcmmhmpfplpaaDca
import Derived.Test.YtabcmmhmpfplpaaDci
import Derived.Test.YtabcmmhmpfplpaaKVIdx
set_option maxHeartbeats 4000000
set_option maxRecDepth 100000
set_option linter.unusedVariables false
set_option linter.unusedSimpArgs false
namespace Go.Proofs.Ytabcmmhmpfplpaa
open Go.RowKit

theorem IndexOf_spec_t {t : Ta} (hsz : rsz t.rows ≤ 1048576) (ht : tOk t) {c : Nat} (hc : (c : Int) < t.w) {s : List Int} (hp : s.Perm (nnl t.rows c t.rows.length)) (hs : s.Pairwise (ltI t.rows c)) : Does Try.prog 24 [] [taD t, I c] (intsD s) [] := by
  obtain ⟨w, hw, hw6, hr, _, hl4⟩ := tOk_nat ht
  have h1 := validTable_ok t hsz
  rw [decide_eq_true ht] at h1
  have h2 := inRange_ok (c : Int) 0 (t.w - 1)
  rw [decide_eq_true (by omega)] at h2
  have hcl : ∀ r, r ∈ t.rows → c < r.length ∧ r.length < 1000 := fun r hm => by have := (hr r hm).1; omega
  refine does0 c_spec_IndexOf mixed (Nat.le_of_ble_eq_true rfl) ?_
  conv => arg 3; whnf
  repeat' (first | with_reducible refine acc_none ?_ | (conv in hold _ => simp (disch := omega) only [go_sem]) | refine Stp.go ?_ | (with_reducible first | refine it_pos rfl ?_ | refine it_neg (by decide) ?_ | refine st_nil rfl ?_ | refine s_op ?_ ?_ | exact True.intro) | ((with_reducible first | refine dw_reg0 ?_ | refine dw_regB ?_); (conv => arg 3; whnf)) | (refine Spl.go (fun hq he => ?_) (fun hq he => ?_) <;> first | (exfalso; clear hq; omega) | ((try (first | (conv => arg 8; simp only [hq]) | (conv => arg 4; simp only [hq]))); clear hq)) | ((with_reducible first | refine c_split (fun hq => ?_) (fun hq => ?_) | refine q_split (fun hq => ?_) (fun hq => ?_)) <;> (try (first | (conv => arg 8; simp only [hq]) | (conv => arg 4; simp only [hq])))) | (with_reducible refine fin_0 ?_ (by first | rfl | (conv => lhs; simp only [go_sem])) ?_) | exact Sub.refl _ | omega)
  refine c_doesE (h1) ?_ ?_ ?_
  · ((try (conv => rhs; simp (disch := omega) only [go_sem])); try rfl)
  · first | rfl | (conv => lhs; simp only [go_sem])
  repeat' (first | with_reducible refine acc_none ?_ | (conv in hold _ => simp (disch := omega) only [go_sem]) | refine Stp.go ?_ | (with_reducible first | refine it_pos rfl ?_ | refine it_neg (by decide) ?_ | refine st_nil rfl ?_ | refine s_op ?_ ?_ | exact True.intro) | ((with_reducible first | refine dw_reg0 ?_ | refine dw_regB ?_); (conv => arg 3; whnf)) | (refine Spl.go (fun hq he => ?_) (fun hq he => ?_) <;> first | (exfalso; clear hq; omega) | ((try (first | (conv => arg 8; simp only [hq]) | (conv => arg 4; simp only [hq]))); clear hq)) | ((with_reducible first | refine c_split (fun hq => ?_) (fun hq => ?_) | refine q_split (fun hq => ?_) (fun hq => ?_)) <;> (try (first | (conv => arg 8; simp only [hq]) | (conv => arg 4; simp only [hq])))) | (with_reducible refine fin_0 ?_ (by first | rfl | (conv => lhs; simp only [go_sem])) ?_) | exact Sub.refl _ | omega)
  refine c_doesE (h2) ?_ ?_ ?_
  · ((try (conv => rhs; simp (disch := omega) only [go_sem])); try rfl)
  · first | rfl | (conv => lhs; simp only [go_sem])
  repeat' (first | with_reducible refine acc_none ?_ | (conv in hold _ => simp (disch := omega) only [go_sem]) | refine Stp.go ?_ | (with_reducible first | refine it_pos rfl ?_ | refine it_neg (by decide) ?_ | refine st_nil rfl ?_ | refine s_op ?_ ?_ | exact True.intro) | ((with_reducible first | refine dw_reg0 ?_ | refine dw_regB ?_); (conv => arg 3; whnf)) | (refine Spl.go (fun hq he => ?_) (fun hq he => ?_) <;> first | (exfalso; clear hq; omega) | ((try (first | (conv => arg 8; simp only [hq]) | (conv => arg 4; simp only [hq]))); clear hq)) | ((with_reducible first | refine c_split (fun hq => ?_) (fun hq => ?_) | refine q_split (fun hq => ?_) (fun hq => ?_)) <;> (try (first | (conv => arg 8; simp only [hq]) | (conv => arg 4; simp only [hq])))) | (with_reducible refine fin_0 ?_ (by first | rfl | (conv => lhs; simp only [go_sem])) ?_) | exact Sub.refl _ | omega)
  refine dw_any (c := 1) (l := fun q : Nat × List Int => [(1, I c), (2, .ref 1000000 0), (5, intsD q.2), (6, I q.1), (1000000, .obj [I t.w, rowsD t.rows])]) (fun q => q.1 ≤ t.rows.length ∧ q.2.Perm (nnl t.rows c q.1) ∧ q.2.Pairwise (ltI t.rows c)) (fun q => t.rows.length - q.1) (0, []) ⟨Nat.zero_le _, List.Perm.refl _, List.Pairwise.nil⟩ ((wk_nul 5 1 (by decide) rfl).trans (Wk.list [2000002] rfl rfl ?_)) (fun q hq => ?_)
  · repeat' (first | (conv in hold _ => simp (disch := omega) only [go_sem]) | exact True.intro | exact Sub.refl _ | omega)
    first | exact rfl | exact ⟨rfl, rfl⟩ | skip
  · obtain ⟨i, P⟩ := q
    obtain ⟨hi, hpm, hpw⟩ := hq
    simp only at hi hpm hpw
    have hPl : P.length ≤ i := by rw [hpm.length_eq]; exact nnl_len t.rows c i
    rcases at_or_end hi with ⟨x, hx, hlt⟩ | rfl
    · have hxl := hcl x (List.mem_of_getElem? hx)
      have hv := colV_at hxl.1
      have e := nnl_next (rs := t.rows) (c := c) (i := i)
      have ex := vAt_at (c := c) hx
      rw [ex] at e
      cases hb : (colV c x).b with
      | true =>
        rw [hb, if_pos rfl, List.append_nil] at e
        repeat' (first | with_reducible refine acc_none ?_ | (conv in hold _ => simp (disch := omega) only [go_sem, List.getElem?_map, hx, hv, hb, Option.map_some]) | refine Stp.go ?_ | (with_reducible first | refine it_pos rfl ?_ | refine it_neg (by decide) ?_ | refine st_nil rfl ?_ | refine s_op ?_ ?_ | exact True.intro) | ((with_reducible first | refine dw_reg0 ?_ | refine dw_regB ?_); (conv => arg 3; whnf)) | (refine Spl.go (fun hq he => ?_) (fun hq he => ?_) <;> first | (exfalso; clear hq; omega) | ((try (first | (conv => arg 8; simp only [hq]) | (conv => arg 4; simp only [hq]))); clear hq)) | ((with_reducible first | refine c_split (fun hq => ?_) (fun hq => ?_) | refine q_split (fun hq => ?_) (fun hq => ?_)) <;> (try (first | (conv => arg 8; simp only [hq]) | (conv => arg 4; simp only [hq])))) | (with_reducible refine fin_0 ?_ (by first | rfl | (conv => lhs; simp only [go_sem, List.getElem?_map, hx, hv, hb, Option.map_some])) ?_) | exact Sub.refl _ | omega)
        refine ⟨(i + 1, P), ⟨by show i + 1 ≤ t.rows.length; omega, by show P.Perm (nnl t.rows c (i + 1)); rw [e]; exact hpm, hpw⟩, by show t.rows.length - (i + 1) < t.rows.length - i; omega, Wk.list [1000000] rfl rfl ?_⟩
        repeat' (first | (conv in hold _ => simp (disch := omega) only [go_sem]) | exact True.intro | exact Sub.refl _ | omega)
      | false =>
        rw [hb, if_neg (by decide)] at e
        -- what the next list is
        have hnext : ∀ k : Nat, k ≤ P.length → (∀ b, b ∈ P.drop k → (colV c x).n < (vAt t.rows c b).n) → (∀ a, a ∈ P.take k → ltI t.rows c a (i : Int)) → (P.take k ++ (i : Int) :: P.drop k).Perm (nnl t.rows c (i + 1)) ∧ (P.take k ++ (i : Int) :: P.drop k).Pairwise (ltI t.rows c) := fun k hk hB hA => by
          have e1 := List.take_append_drop k P
          refine ⟨?_, ins_pw (by rw [e1]; exact hpw) hA (fun b hb => Or.inl (by rw [ex]; exact hB b hb))⟩
          have h3 : (P.take k ++ (i : Int) :: P.drop k).Perm ((i : Int) :: (P.take k ++ P.drop k)) := List.perm_middle
          rw [e1] at h3
          rw [e]
          exact h3.trans ((hpm.cons (i : Int)).trans (List.perm_append_singleton (i : Int) _).symm)
        repeat' (first | with_reducible refine acc_none ?_ | (conv in hold _ => simp (disch := omega) only [go_sem, List.getElem?_map, hx, hv, hb, Option.map_some]) | refine Stp.go ?_ | (with_reducible first | refine it_pos rfl ?_ | refine it_neg (by decide) ?_ | refine st_nil rfl ?_ | refine s_op ?_ ?_ | exact True.intro) | ((with_reducible first | refine dw_reg0 ?_ | refine dw_regB ?_); (conv => arg 3; whnf)) | (refine Spl.go (fun hq he => ?_) (fun hq he => ?_) <;> first | (exfalso; clear hq; omega) | ((try (first | (conv => arg 8; simp only [hq]) | (conv => arg 4; simp only [hq]))); clear hq)) | ((with_reducible first | refine c_split (fun hq => ?_) (fun hq => ?_) | refine q_split (fun hq => ?_) (fun hq => ?_)) <;> (try (first | (conv => arg 8; simp only [hq]) | (conv => arg 4; simp only [hq])))) | (with_reducible refine fin_0 ?_ (by first | rfl | (conv => lhs; simp only [go_sem, List.getElem?_map, hx, hv, hb, Option.map_some])) ?_) | exact Sub.refl _ | omega)
        refine dw_for (c := 1) (l := fun d => [(1, I c), (2, .ref 1000000 0), (5, intsD P), (6, I i), (7, I ((P.length : Int) - d)), (1000000, .obj [I t.w, rowsD t.rows])]) P.length (fun d => ∀ b, b ∈ P.drop (P.length - d) → (colV c x).n < (vAt t.rows c b).n) 0 (fun b hb => by simp at hb) (Wk.list [1000000] rfl rfl ?_) (fun d hd hJ => ?_) (Nat.zero_le _)
        · repeat' (first | (conv in hold _ => simp (disch := omega) only [go_sem]) | exact True.intro | exact Sub.refl _ | omega)
          first | exact rfl | exact congrArg (fun n => D.v (Value.int .i64 n)) (by omega) | skip
        · -- at the place found
          have hdone : ∀ k : Nat, P.length - d = k → (∀ a, a ∈ P.take k → ltI t.rows c a (i : Int)) → ((P.map I).take k = (P.take k).map I ∧ (P.map I).drop k = (P.drop k).map I) ∧ (P.take k).length = k ∧ (P.drop k).length = P.length - k ∧ (P.length : Int) - (d : Int) = (k : Int) ∧ k ≤ P.length ∧ (((P.take k).map I ++ [I (i : Int)] ++ (P.drop k).map I).take (k + 1 + (P.length - k)) = (P.take k ++ (i : Int) :: P.drop k).map I) ∧ ((P.take k).map I).take k = (P.take k).map I ∧ ((P.take k).map I ++ [I (i : Int)]).take (k + 1) = (P.take k).map I ++ [I (i : Int)] ∧ (P.take k).map I ++ [I (i : Int)] ++ (P.drop k).map I = (P.take k ++ (i : Int) :: P.drop k).map I := fun k hk _ => by
            have l1 : (P.take k).length = k := take_len (by omega)
            refine ⟨⟨List.map_take.symm, List.map_drop.symm⟩, l1, List.length_drop .., by omega, by omega, ?_, ?_, ?_, by rw [List.map_append, List.map_cons, List.append_assoc]; rfl⟩
            · have e2 : (P.take k).map I ++ [I (i : Int)] ++ (P.drop k).map I = (P.take k ++ (i : Int) :: P.drop k).map I := by rw [List.map_append, List.map_cons, List.append_assoc]; rfl
              rw [e2]
              exact List.take_of_length_le (by rw [List.length_map, List.length_append, List.length_cons, List.length_take, List.length_drop]; omega)
            · exact List.take_of_length_le (by rw [List.length_map, l1]; exact Nat.le_refl _)
            · exact List.take_of_length_le (by rw [List.length_append, List.length_map, l1]; exact Nat.le_refl _)
          by_cases hd0 : d = P.length
          · obtain ⟨n1, n2⟩ := hnext 0 (by omega) (by rw [show P.length - d = 0 by omega] at hJ; exact hJ) (fun a ha => by simp at ha)
            obtain ⟨⟨a1, a2⟩, a3, a4, a5, a6, a7, a8, a9, a0⟩ := hdone 0 (by omega) (fun a ha => by simp at ha)
            rw [Nat.zero_add] at a7 a9
            have a5 : (P.length : Int) - (d : Int) = 0 := a5
            repeat' (first | with_reducible refine acc_none ?_ | (conv in hold _ => simp (disch := omega) only [go_sem, a5, a1, a2, a3, a4, List.length_map, List.length_append]) | refine Stp.go ?_ | (with_reducible first | refine it_pos rfl ?_ | refine it_neg (by decide) ?_ | refine st_nil rfl ?_ | refine s_op ?_ ?_ | exact True.intro) | ((with_reducible first | refine dw_reg0 ?_ | refine dw_regB ?_); (conv => arg 3; whnf)) | (refine Spl.go (fun hq he => ?_) (fun hq he => ?_) <;> first | (exfalso; clear hq; omega) | ((try (first | (conv => arg 8; simp only [hq]) | (conv => arg 4; simp only [hq]))); clear hq)) | ((with_reducible first | refine c_split (fun hq => ?_) (fun hq => ?_) | refine q_split (fun hq => ?_) (fun hq => ?_)) <;> (try (first | (conv => arg 8; simp only [hq]) | (conv => arg 4; simp only [hq])))) | (with_reducible refine fin_0 ?_ (by first | rfl | (conv => lhs; simp only [go_sem, a5, a1, a2, a3, a4, List.length_map, List.length_append])) ?_) | exact Sub.refl _ | omega)
            refine ⟨(i + 1, P.take 0 ++ (i : Int) :: P.drop 0), ⟨by show i + 1 ≤ t.rows.length; omega, n1, n2⟩, by show t.rows.length - (i + 1) < t.rows.length - i; omega, (wk_frz 5 2000081 (by decide) (by decide) rfl ?_).trans (Wk.list [1000000] rfl rfl ?_)⟩
            · exact ints_pur ((i : Int) :: P)
            · have b1 : (I (i : Int) :: P.map I).take (P.length + 1) = ((i : Int) :: P).map I := List.take_of_length_le (by simp)
              repeat' (first | (conv in hold _ => simp (disch := omega) only [go_sem, b1, a7, List.length_map, List.length_append, List.length_cons]) | exact True.intro | exact Sub.refl _ | omega)
              exact (by rw [if_pos (by omega), Nat.add_comm 1, b1]; rfl)
          · obtain ⟨k, hk⟩ : ∃ k, P.length - d = k + 1 := ⟨P.length - d - 1, by omega⟩
            obtain ⟨y, hy⟩ : ∃ y, P[k]? = some y := ⟨_, List.getElem?_eq_getElem (by omega)⟩
            have hym := nnl_mem.1 (hpm.mem_iff.1 (List.mem_of_getElem? hy))
            obtain ⟨y, rfl⟩ := Int.eq_ofNat_of_zero_le hym.1.1
            obtain ⟨r, hry⟩ : ∃ r, t.rows[y]? = some r := ⟨_, List.getElem?_eq_getElem (by omega)⟩
            have ey := vAt_at (c := c) hry
            have hrl := hcl r (List.mem_of_getElem? hry)
            have hu := colV_at hrl.1
            have hdk : (P.length : Int) - (d : Int) = (k : Int) + 1 := by omega
            have hk1 : ((k : Int) + 1 - 1).toNat = k := by omega
            by_cases hgt : (colV c r).n > (colV c x).n
            · repeat' (first | with_reducible refine acc_none ?_ | (conv in hold _ => simp (disch := omega) only [go_sem, hdk, hk1, List.getElem?_map, hy, hry, hu, hx, hv, Option.map_some]) | refine Stp.go ?_ | (with_reducible first | refine it_pos rfl ?_ | refine it_neg (by decide) ?_ | refine st_nil rfl ?_ | refine s_op ?_ ?_ | exact True.intro) | ((with_reducible first | refine dw_reg0 ?_ | refine dw_regB ?_); (conv => arg 3; whnf)) | (refine Spl.go (fun hq he => ?_) (fun hq he => ?_) <;> first | (exfalso; clear hq; omega) | ((try (first | (conv => arg 8; simp only [hq]) | (conv => arg 4; simp only [hq]))); clear hq)) | ((with_reducible first | refine c_split (fun hq => ?_) (fun hq => ?_) | refine q_split (fun hq => ?_) (fun hq => ?_)) <;> (try (first | (conv => arg 8; simp only [hq]) | (conv => arg 4; simp only [hq])))) | (with_reducible refine fin_0 ?_ (by first | rfl | (conv => lhs; simp only [go_sem, hdk, hk1, List.getElem?_map, hy, hry, hu, hx, hv, Option.map_some])) ?_) | exact Sub.refl _ | omega)
              refine ⟨by omega, fun b hb' => ?_, Wk.list [1000000] rfl rfl ?_⟩
              · have hdr : P.drop k = (y : Int) :: P.drop (k + 1) := by
                  obtain ⟨hh, hy2⟩ := List.getElem?_eq_some_iff.1 hy
                  rw [← hy2]
                  exact List.drop_eq_getElem_cons hh
                rw [show P.length - (d + 1) = k by omega, hdr] at hb'
                rcases List.mem_cons.1 hb' with rfl | hb'
                · rw [ey]; exact hgt
                · rw [hk] at hJ
                  exact hJ b hb'
              · repeat' (first | (conv in hold _ => simp (disch := omega) only [go_sem]) | exact True.intro | exact Sub.refl _ | omega)
                first | exact rfl | exact congrArg (fun n => D.v (Value.int .i64 n)) (by omega) | skip
            · have hA : ∀ a, a ∈ P.take (k + 1) → ltI t.rows c a (i : Int) := fun a ha => by
                have hyi : ltI t.rows c (y : Int) (i : Int) := by
                  unfold ltI
                  rw [ey, ex]
                  omega
                rw [take_next hy] at ha
                rcases List.mem_append.1 ha with ha | ha
                · have hdr : P.drop k = (y : Int) :: P.drop (k + 1) := by
                    obtain ⟨hh, hy2⟩ := List.getElem?_eq_some_iff.1 hy
                    rw [← hy2]
                    exact List.drop_eq_getElem_cons hh
                  have hp2 := List.take_append_drop k P
                  rw [hdr] at hp2
                  rw [← hp2] at hpw
                  exact ltI_tr ((List.pairwise_append.1 hpw).2.2 a ha (y : Int) (List.mem_cons_self ..)) hyi
                · rw [List.mem_singleton.1 ha]
                  exact hyi
              rw [hk] at hJ
              obtain ⟨n1, n2⟩ := hnext (k + 1) (by omega) hJ hA
              obtain ⟨⟨a1, a2⟩, a3, a4, a5, a6, a7, a8, a9, a0⟩ := hdone (k + 1) hk hA
              have hk2 : ((k : Int) + 1).toNat = k + 1 := by omega
              repeat' (first | with_reducible refine acc_none ?_ | (conv in hold _ => simp (disch := omega) only [go_sem, hdk, hk1, hk2, a1, a2, a3, a4, a8, a9, List.length_map, List.length_append, List.getElem?_map, hy, hry, hu, hx, hv, Option.map_some]) | refine Stp.go ?_ | (with_reducible first | refine it_pos rfl ?_ | refine it_neg (by decide) ?_ | refine st_nil rfl ?_ | refine s_op ?_ ?_ | exact True.intro) | ((with_reducible first | refine dw_reg0 ?_ | refine dw_regB ?_); (conv => arg 3; whnf)) | (refine Spl.go (fun hq he => ?_) (fun hq he => ?_) <;> first | (exfalso; clear hq; omega) | ((try (first | (conv => arg 8; simp only [hq]) | (conv => arg 4; simp only [hq]))); clear hq)) | ((with_reducible first | refine c_split (fun hq => ?_) (fun hq => ?_) | refine q_split (fun hq => ?_) (fun hq => ?_)) <;> (try (first | (conv => arg 8; simp only [hq]) | (conv => arg 4; simp only [hq])))) | (with_reducible refine fin_0 ?_ (by first | rfl | (conv => lhs; simp only [go_sem, hdk, hk1, hk2, a1, a2, a3, a4, a8, a9, List.length_map, List.length_append, List.getElem?_map, hy, hry, hu, hx, hv, Option.map_some])) ?_) | exact Sub.refl _ | omega)
              refine ⟨(i + 1, P.take (k + 1) ++ (i : Int) :: P.drop (k + 1)), ⟨by show i + 1 ≤ t.rows.length; omega, n1, n2⟩, by show t.rows.length - (i + 1) < t.rows.length - i; omega, (wk_frz 5 2000081 (by decide) (by decide) rfl ?_).trans (Wk.list [1000000] rfl rfl ?_)⟩
              · exact (by rw [a0]; exact ints_pur _)
              · repeat' (first | (conv in hold _ => simp (disch := omega) only [go_sem, a7, a3, a4, List.length_map, List.length_append, List.length_cons]) | exact True.intro | exact Sub.refl _ | omega)
                done
    · have hfin : P = s := ltI_unique (hpm.trans hp.symm) hpw hs
      rw [hfin]
      repeat' (first | with_reducible refine acc_none ?_ | (conv in hold _ => simp (disch := omega) only [go_sem]) | refine Stp.go ?_ | (with_reducible first | refine it_pos rfl ?_ | refine it_neg (by decide) ?_ | refine st_nil rfl ?_ | refine s_op ?_ ?_ | exact True.intro) | ((with_reducible first | refine dw_reg0 ?_ | refine dw_regB ?_); (conv => arg 3; whnf)) | (refine Spl.go (fun hq he => ?_) (fun hq he => ?_) <;> first | (exfalso; clear hq; omega) | ((try (first | (conv => arg 8; simp only [hq]) | (conv => arg 4; simp only [hq]))); clear hq)) | ((with_reducible first | refine c_split (fun hq => ?_) (fun hq => ?_) | refine q_split (fun hq => ?_) (fun hq => ?_)) <;> (try (first | (conv => arg 8; simp only [hq]) | (conv => arg 4; simp only [hq])))) | (with_reducible refine fin_0 ?_ (by first | rfl | (conv => lhs; simp only [go_sem])) ?_) | exact Sub.refl _ | omega)
theorem IndexOf_spec_f {t : Ta} (hsz : rsz t.rows ≤ 1048576) {c : Int} (h : ¬ (tOk t ∧ 0 ≤ c ∧ c < t.w)) (hc : -1000 ≤ c ∧ c ≤ 1000) (hw : -1000 ≤ t.w ∧ t.w ≤ 1000) : Does Try.prog 24 [] [taD t, I c] (intsD []) [] := by
  have h1 := validTable_ok t hsz
  by_cases ht : tOk t
  · rw [decide_eq_true ht] at h1
    have h2 := inRange_ok c 0 (t.w - 1)
    rw [decide_eq_false (fun x => h ⟨ht, x.1, by omega⟩)] at h2
    refine does0 c_spec_IndexOf mixed (Nat.le_of_ble_eq_true rfl) ?_
    conv => arg 3; whnf
    repeat' (first | with_reducible refine acc_none ?_ | (conv in hold _ => simp (disch := omega) only [go_sem]) | refine Stp.go ?_ | (with_reducible first | refine it_pos rfl ?_ | refine it_neg (by decide) ?_ | refine st_nil rfl ?_ | refine s_op ?_ ?_ | exact True.intro) | ((with_reducible first | refine dw_reg0 ?_ | refine dw_regB ?_); (conv => arg 3; whnf)) | (refine Spl.go (fun hq he => ?_) (fun hq he => ?_) <;> first | (exfalso; clear hq; omega) | ((try (first | (conv => arg 8; simp only [hq]) | (conv => arg 4; simp only [hq]))); clear hq)) | ((with_reducible first | refine c_split (fun hq => ?_) (fun hq => ?_) | refine q_split (fun hq => ?_) (fun hq => ?_)) <;> (try (first | (conv => arg 8; simp only [hq]) | (conv => arg 4; simp only [hq])))) | (with_reducible refine fin_0 ?_ (by first | rfl | (conv => lhs; simp only [go_sem])) ?_) | exact Sub.refl _ | omega)
    refine c_doesE (h1) ?_ ?_ ?_
    · ((try (conv => rhs; simp (disch := omega) only [go_sem])); try rfl)
    · first | rfl | (conv => lhs; simp only [go_sem])
    repeat' (first | with_reducible refine acc_none ?_ | (conv in hold _ => simp (disch := omega) only [go_sem]) | refine Stp.go ?_ | (with_reducible first | refine it_pos rfl ?_ | refine it_neg (by decide) ?_ | refine st_nil rfl ?_ | refine s_op ?_ ?_ | exact True.intro) | ((with_reducible first | refine dw_reg0 ?_ | refine dw_regB ?_); (conv => arg 3; whnf)) | (refine Spl.go (fun hq he => ?_) (fun hq he => ?_) <;> first | (exfalso; clear hq; omega) | ((try (first | (conv => arg 8; simp only [hq]) | (conv => arg 4; simp only [hq]))); clear hq)) | ((with_reducible first | refine c_split (fun hq => ?_) (fun hq => ?_) | refine q_split (fun hq => ?_) (fun hq => ?_)) <;> (try (first | (conv => arg 8; simp only [hq]) | (conv => arg 4; simp only [hq])))) | (with_reducible refine fin_0 ?_ (by first | rfl | (conv => lhs; simp only [go_sem])) ?_) | exact Sub.refl _ | omega)
    refine c_doesE (h2) ?_ ?_ ?_
    · ((try (conv => rhs; simp (disch := omega) only [go_sem])); try rfl)
    · first | rfl | (conv => lhs; simp only [go_sem])
    repeat' (first | with_reducible refine acc_none ?_ | (conv in hold _ => simp (disch := omega) only [go_sem]) | refine Stp.go ?_ | (with_reducible first | refine it_pos rfl ?_ | refine it_neg (by decide) ?_ | refine st_nil rfl ?_ | refine s_op ?_ ?_ | exact True.intro) | ((with_reducible first | refine dw_reg0 ?_ | refine dw_regB ?_); (conv => arg 3; whnf)) | (refine Spl.go (fun hq he => ?_) (fun hq he => ?_) <;> first | (exfalso; clear hq; omega) | ((try (first | (conv => arg 8; simp only [hq]) | (conv => arg 4; simp only [hq]))); clear hq)) | ((with_reducible first | refine c_split (fun hq => ?_) (fun hq => ?_) | refine q_split (fun hq => ?_) (fun hq => ?_)) <;> (try (first | (conv => arg 8; simp only [hq]) | (conv => arg 4; simp only [hq])))) | (with_reducible refine fin_0 ?_ (by first | rfl | (conv => lhs; simp only [go_sem])) ?_) | exact Sub.refl _ | omega)
    exact Sub.nul 1
  · rw [decide_eq_false ht] at h1
    refine does0 c_spec_IndexOf mixed (Nat.le_of_ble_eq_true rfl) ?_
    conv => arg 3; whnf
    repeat' (first | with_reducible refine acc_none ?_ | (conv in hold _ => simp (disch := omega) only [go_sem]) | refine Stp.go ?_ | (with_reducible first | refine it_pos rfl ?_ | refine it_neg (by decide) ?_ | refine st_nil rfl ?_ | refine s_op ?_ ?_ | exact True.intro) | ((with_reducible first | refine dw_reg0 ?_ | refine dw_regB ?_); (conv => arg 3; whnf)) | (refine Spl.go (fun hq he => ?_) (fun hq he => ?_) <;> first | (exfalso; clear hq; omega) | ((try (first | (conv => arg 8; simp only [hq]) | (conv => arg 4; simp only [hq]))); clear hq)) | ((with_reducible first | refine c_split (fun hq => ?_) (fun hq => ?_) | refine q_split (fun hq => ?_) (fun hq => ?_)) <;> (try (first | (conv => arg 8; simp only [hq]) | (conv => arg 4; simp only [hq])))) | (with_reducible refine fin_0 ?_ (by first | rfl | (conv => lhs; simp only [go_sem])) ?_) | exact Sub.refl _ | omega)
    refine c_doesE (h1) ?_ ?_ ?_
    · ((try (conv => rhs; simp (disch := omega) only [go_sem])); try rfl)
    · first | rfl | (conv => lhs; simp only [go_sem])
    repeat' (first | with_reducible refine acc_none ?_ | (conv in hold _ => simp (disch := omega) only [go_sem]) | refine Stp.go ?_ | (with_reducible first | refine it_pos rfl ?_ | refine it_neg (by decide) ?_ | refine st_nil rfl ?_ | refine s_op ?_ ?_ | exact True.intro) | ((with_reducible first | refine dw_reg0 ?_ | refine dw_regB ?_); (conv => arg 3; whnf)) | (refine Spl.go (fun hq he => ?_) (fun hq he => ?_) <;> first | (exfalso; clear hq; omega) | ((try (first | (conv => arg 8; simp only [hq]) | (conv => arg 4; simp only [hq]))); clear hq)) | ((with_reducible first | refine c_split (fun hq => ?_) (fun hq => ?_) | refine q_split (fun hq => ?_) (fun hq => ?_)) <;> (try (first | (conv => arg 8; simp only [hq]) | (conv => arg 4; simp only [hq])))) | (with_reducible refine fin_0 ?_ (by first | rfl | (conv => lhs; simp only [go_sem])) ?_) | exact Sub.refl _ | omega)
    exact Sub.nul 1
end Go.Proofs.Ytabcmmhmpfplpaa

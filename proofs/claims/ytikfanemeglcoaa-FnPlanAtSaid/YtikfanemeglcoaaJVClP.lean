/-
  Copies of expressions and plans, and filters, in the model's draws. No condition.
-/
import Derived.Test.YtikfanemeglcoaaDca
import Derived.Test.YtikfanemeglcoaaJVDrawE
import Derived.Test.YtikfanemeglcoaaJVPa
import Derived.Test.YtikfanemeglcoaaVLib
import Derived.Test.YtikfanemeglcoaaVClD
set_option maxHeartbeats 4000000
set_option maxRecDepth 100000
set_option linter.unusedVariables false
set_option linter.unusedSimpArgs false
namespace Go.Proofs.Ytikfanemeglcoaa
open Go.RowKit

theorem copyExpr_ok : ∀ e : E, esz e < 1000000 → Does Try.prog 40 [] [eD e] (eD e) [] := by
  refine E.ind (fun e ih h => ?_)
  rw [esz_eq] at h
  have hlen := eszL_len e.ks
  refine does0 c_spec_copyExpr mixed (Nat.le_of_ble_eq_true rfl) ?_
  conv => arg 3; whnf
  repeat' (first | with_reducible refine acc_none ?_ | (conv in hold _ => simp (disch := omega) only [go_sem]) | refine Stp.go ?_ | (with_reducible first | refine it_pos rfl ?_ | refine it_neg (by decide) ?_ | refine st_nil rfl ?_ | refine s_op ?_ ?_ | exact True.intro) | ((with_reducible first | refine dw_reg0 ?_ | refine dw_regB ?_); (conv => arg 3; whnf)) | (refine Spl.go (fun hq he => ?_) (fun hq he => ?_) <;> first | (exfalso; clear hq; omega) | ((try (first | (conv => arg 8; simp only [hq]) | (conv => arg 4; simp only [hq]))); clear hq)) | ((with_reducible first | refine c_split (fun hq => ?_) (fun hq => ?_) | refine q_split (fun hq => ?_) (fun hq => ?_)) <;> (try (first | (conv => arg 8; simp only [hq]) | (conv => arg 4; simp only [hq])))) | (with_reducible refine fin_0 ?_ (by first | rfl | (conv => lhs; simp only [go_sem])) ?_) | exact Sub.refl _ | omega)
  refine dw_for (c := 4) (l := fun i => [(1, .ref 1000000 0), (2, .ref 1000001 0), (3, .ref 1000002 0), (4, I i), (1000000, .obj [I e.k, I e.c, Bo e.v.b, I e.v.n, .sl 5 (e.ks.map eD)]), (1000001, .obj [I 0, I 0, Bo false, I 0, .nul]), (1000002, .obj [I e.k, I e.c, Bo e.v.b, I e.v.n, .own 1000003 5 i]), (1000003, .row 5 ((e.ks.take i).map eD))]) e.ks.length (fun _ => True) 0 trivial ((wk_rowO 2000003 2000028 5 4 (by decide) (by decide) (by decide) rfl rfl rfl).trans (Wk.list [2000001, 2000002, 2000003, 2000028] rfl rfl ?_)) (fun i hi _ => ?_) (Nat.zero_le _)
  · repeat' (first | (conv in hold _ => simp (disch := omega) only [go_sem]) | exact True.intro | exact Sub.refl _ | omega)
    exact rfl
  · have hlt := take_len (vs := e.ks) (i := i) (by omega)
    have hmt := take_map eD (vs := e.ks) (i := i) (by omega)
    rcases at_or_end hi with ⟨x, hx, hlt1⟩ | rfl
    · have hix := ih x (List.mem_of_getElem? hx) (by have := eszL_mem (List.mem_of_getElem? hx); omega)
      have hnx := take_next hx
      repeat' (first
        | with_reducible refine acc_none ?_ | (conv in hold _ => simp (disch := omega) only [go_sem, List.getElem?_map, hx, Option.map_some]) | refine Stp.go ?_ | (with_reducible first | refine it_pos rfl ?_ | refine it_neg (by decide) ?_ | refine st_nil rfl ?_ | refine s_op ?_ ?_ | exact True.intro) | ((with_reducible first | refine dw_reg0 ?_ | refine dw_regB ?_); (conv => arg 3; whnf)) | (refine Spl.go (fun hq he => ?_) (fun hq he => ?_) <;> first | (exfalso; clear hq; omega) | ((try (first | (conv => arg 8; simp only [hq]) | (conv => arg 4; simp only [hq]))); clear hq)) | ((with_reducible first | refine c_split (fun hq => ?_) (fun hq => ?_) | refine q_split (fun hq => ?_) (fun hq => ?_)) <;> (try (first | (conv => arg 8; simp only [hq]) | (conv => arg 4; simp only [hq])))) | (with_reducible refine fin_0 ?_ (by first | rfl | (conv => lhs; simp only [go_sem, List.getElem?_map, hx, Option.map_some])) ?_)
        | (with_reducible show evC _ _ _ _ _ _ _ _ _ _ _ _
           first
           | (refine c_doesE (hix) ?_ ?_ ?_
              · ((try (conv => rhs; simp (disch := omega) only [go_sem, List.getElem?_map, hx, Option.map_some])); try rfl)
              · first | rfl | (conv => lhs; simp only [go_sem, List.getElem?_map, hx, Option.map_some])))
        | exact Sub.refl _ | omega)
      refine ⟨hlt1, trivial, Wk.list [1000000, 1000001, 1000002, 2000028] rfl rfl ?_⟩
      repeat' (first | (conv in hold _ => simp (disch := omega) only [go_sem]) | exact True.intro | exact Sub.refl _ | omega)
      rw [hmt, hnx, List.map_append, List.map_cons, List.map_nil, eD_eq x]
    · have e1 : e.ks.take e.ks.length = e.ks := List.take_length
      have e2 : (e.ks.map eD).take e.ks.length = e.ks.map eD := List.take_of_length_le (by rw [List.length_map]; exact Nat.le_refl _)
      repeat' (first | with_reducible refine acc_none ?_ | (conv in hold _ => simp (disch := omega) only [go_sem, e1]) | refine Stp.go ?_ | (with_reducible first | refine it_pos rfl ?_ | refine it_neg (by decide) ?_ | refine st_nil rfl ?_ | refine s_op ?_ ?_ | exact True.intro) | ((with_reducible first | refine dw_reg0 ?_ | refine dw_regB ?_); (conv => arg 3; whnf)) | (refine Spl.go (fun hq he => ?_) (fun hq he => ?_) <;> first | (exfalso; clear hq; omega) | ((try (first | (conv => arg 8; simp only [hq]) | (conv => arg 4; simp only [hq]))); clear hq)) | ((with_reducible first | refine c_split (fun hq => ?_) (fun hq => ?_) | refine q_split (fun hq => ?_) (fun hq => ?_)) <;> (try (first | (conv => arg 8; simp only [hq]) | (conv => arg 4; simp only [hq])))) | exact Sub.refl _ | omega)
      refine fin_wk (wk_frzO 1000001 1000003 (by decide) (by decide) rfl (by decide) rfl ?_) ?_
      rotate_left
      (conv in hold _ => simp (disch := omega) only [go_sem, e2])
      · refine fin_L [] ?_ ?_ rfl ?_
        repeat' (first | (conv in hold _ => simp (disch := omega) only [go_sem]) | exact True.intro | exact Sub.refl _ | omega)
      · exact exprs_pur _
theorem copyPlan_ok : ∀ p : Pl, psz p ≤ 900000 → Does Try.prog 20 [] [pD p] (pD p) [] := by
  refine Pl.indA (fun p ih h => ?_)
  rw [psz_eq] at h
  have hle := eszL_len p.es
  have hlk := pszL_len p.ks
  have hc := take_all I p.cs
  refine does0 c_spec_copyPlan mixed (Nat.le_of_ble_eq_true rfl) ?_
  conv => arg 3; whnf
  repeat' (first | with_reducible refine acc_none ?_ | (conv in hold _ => simp (disch := omega) only [go_sem]) | refine Stp.go ?_ | (with_reducible first | refine it_pos rfl ?_ | refine it_neg (by decide) ?_ | refine st_nil rfl ?_ | refine s_op ?_ ?_ | exact True.intro) | ((with_reducible first | refine dw_reg0 ?_ | refine dw_regB ?_); (conv => arg 3; whnf)) | (refine Spl.go (fun hq he => ?_) (fun hq he => ?_) <;> first | (exfalso; clear hq; omega) | ((try (first | (conv => arg 8; simp only [hq]) | (conv => arg 4; simp only [hq]))); clear hq)) | ((with_reducible first | refine c_split (fun hq => ?_) (fun hq => ?_) | refine q_split (fun hq => ?_) (fun hq => ?_)) <;> (try (first | (conv => arg 8; simp only [hq]) | (conv => arg 4; simp only [hq])))) | (with_reducible refine fin_0 ?_ (by first | rfl | (conv => lhs; simp only [go_sem])) ?_) | exact Sub.refl _ | omega)
  refine dw_for (c := 5) (l := fun i => [(1, .ref 1000000 0), (2, .ref 1000001 0), (3, .ref 1000002 0), (4, I i), (1000000, .obj [I p.k, I p.t, .sl 5 (p.es.map eD), .sl 1 (p.cs.map I), .sl 5 (p.ks.map pD)]), (1000001, .obj [I 0, I 0, .nul, .nul, .nul]), (1000002, .obj [I p.k, I p.t, .own 1000004 5 i, .own 1000003 1 p.cs.length, .nul]), (1000003, .row 1 (p.cs.map I)), (1000004, .row 5 ((p.es.take i).map eD))]) p.es.length (fun _ => True) 0 trivial ((wk_rowO 2000003 2000099 5 2 (by decide) (by decide) (by decide) rfl rfl rfl).trans (Wk.list [2000001, 2000002, 2000003, 2000013, 2000099] rfl rfl ?_)) (fun i hi _ => ?_) (Nat.zero_le _)
  · repeat' (first | (conv in hold _ => simp (disch := omega) only [go_sem, hc]) | exact True.intro | exact Sub.refl _ | omega)
    exact rfl
  · have hlt := take_len (vs := p.es) (i := i) (by omega)
    have hmt := take_map eD (vs := p.es) (i := i) (by omega)
    rcases at_or_end hi with ⟨x, hx, hlt1⟩ | rfl
    · have hix := copyExpr_ok x (by have := eszL_mem (List.mem_of_getElem? hx); omega)
      have hnx := take_next hx
      repeat' (first
        | with_reducible refine acc_none ?_ | (conv in hold _ => simp (disch := omega) only [go_sem, List.getElem?_map, hx, Option.map_some, hc]) | refine Stp.go ?_ | (with_reducible first | refine it_pos rfl ?_ | refine it_neg (by decide) ?_ | refine st_nil rfl ?_ | refine s_op ?_ ?_ | exact True.intro) | ((with_reducible first | refine dw_reg0 ?_ | refine dw_regB ?_); (conv => arg 3; whnf)) | (refine Spl.go (fun hq he => ?_) (fun hq he => ?_) <;> first | (exfalso; clear hq; omega) | ((try (first | (conv => arg 8; simp only [hq]) | (conv => arg 4; simp only [hq]))); clear hq)) | ((with_reducible first | refine c_split (fun hq => ?_) (fun hq => ?_) | refine q_split (fun hq => ?_) (fun hq => ?_)) <;> (try (first | (conv => arg 8; simp only [hq]) | (conv => arg 4; simp only [hq])))) | (with_reducible refine fin_0 ?_ (by first | rfl | (conv => lhs; simp only [go_sem, List.getElem?_map, hx, Option.map_some, hc])) ?_)
        | (with_reducible show evC _ _ _ _ _ _ _ _ _ _ _ _
           first
           | (refine c_doesE (hix) ?_ ?_ ?_
              · ((try (conv => rhs; simp (disch := omega) only [go_sem, List.getElem?_map, hx, Option.map_some, hc])); try rfl)
              · first | rfl | (conv => lhs; simp only [go_sem, List.getElem?_map, hx, Option.map_some, hc])))
        | exact Sub.refl _ | omega)
      refine ⟨hlt1, trivial, Wk.list [1000000, 1000001, 1000002, 1000003, 2000031] rfl rfl ?_⟩
      repeat' (first | (conv in hold _ => simp (disch := omega) only [go_sem, hc]) | exact True.intro | exact Sub.refl _ | omega)
      rw [hmt, hnx, List.map_append, List.map_cons, List.map_nil, eD_eq x]
    · have e1 : p.es.take p.es.length = p.es := List.take_length
      have e2 : (p.es.map eD).take p.es.length = p.es.map eD := take_all eD p.es
      repeat' (first | with_reducible refine acc_none ?_ | (conv in hold _ => simp (disch := omega) only [go_sem, e1, hc]) | refine Stp.go ?_ | (with_reducible first | refine it_pos rfl ?_ | refine it_neg (by decide) ?_ | refine st_nil rfl ?_ | refine s_op ?_ ?_ | exact True.intro) | ((with_reducible first | refine dw_reg0 ?_ | refine dw_regB ?_); (conv => arg 3; whnf)) | (refine Spl.go (fun hq he => ?_) (fun hq he => ?_) <;> first | (exfalso; clear hq; omega) | ((try (first | (conv => arg 8; simp only [hq]) | (conv => arg 4; simp only [hq]))); clear hq)) | ((with_reducible first | refine c_split (fun hq => ?_) (fun hq => ?_) | refine q_split (fun hq => ?_) (fun hq => ?_)) <;> (try (first | (conv => arg 8; simp only [hq]) | (conv => arg 4; simp only [hq])))) | (with_reducible refine fin_0 ?_ (by first | rfl | (conv => lhs; simp only [go_sem, e1, hc])) ?_) | exact Sub.refl _ | omega)
      refine dw_for (c := 6) (l := fun i => [(1, .ref 1000000 0), (2, .ref 1000001 0), (3, .ref 1000002 0), (5, I i), (1000000, .obj [I p.k, I p.t, .sl 5 (p.es.map eD), .sl 1 (p.cs.map I), .sl 5 (p.ks.map pD)]), (1000001, .obj [I 0, I 0, .nul, .nul, .nul]), (1000002, .obj [I p.k, I p.t, .own 1000004 5 p.es.length, .own 1000003 1 p.cs.length, .own 1000005 5 i]), (1000003, .row 1 (p.cs.map I)), (1000004, .row 5 (p.es.map eD)), (1000005, .row 5 ((p.ks.take i).map pD))]) p.ks.length (fun _ => True) 0 trivial ((wk_rowO 1000002 2000099 5 4 (by decide) (by decide) (by decide) rfl rfl rfl).trans (Wk.list [1000000, 1000001, 1000002, 1000003, 1000004, 2000099] rfl rfl ?_)) (fun i hi _ => ?_) (Nat.zero_le _)
      · repeat' (first | (conv in hold _ => simp (disch := omega) only [go_sem, hc, e1, e2]) | exact True.intro | exact Sub.refl _ | omega)
        exact rfl
      · have hlt := take_len (vs := p.ks) (i := i) (by omega)
        have hmt := take_map pD (vs := p.ks) (i := i) (by omega)
        rcases at_or_end hi with ⟨x, hx, hlt1⟩ | rfl
        · have hix := ih x (List.mem_of_getElem? hx) (by have := pszL_mem (List.mem_of_getElem? hx); omega)
          have hnx := take_next hx
          repeat' (first
            | with_reducible refine acc_none ?_ | (conv in hold _ => simp (disch := omega) only [go_sem, List.getElem?_map, hx, Option.map_some, hc, e2]) | refine Stp.go ?_ | (with_reducible first | refine it_pos rfl ?_ | refine it_neg (by decide) ?_ | refine st_nil rfl ?_ | refine s_op ?_ ?_ | exact True.intro) | ((with_reducible first | refine dw_reg0 ?_ | refine dw_regB ?_); (conv => arg 3; whnf)) | (refine Spl.go (fun hq he => ?_) (fun hq he => ?_) <;> first | (exfalso; clear hq; omega) | ((try (first | (conv => arg 8; simp only [hq]) | (conv => arg 4; simp only [hq]))); clear hq)) | ((with_reducible first | refine c_split (fun hq => ?_) (fun hq => ?_) | refine q_split (fun hq => ?_) (fun hq => ?_)) <;> (try (first | (conv => arg 8; simp only [hq]) | (conv => arg 4; simp only [hq])))) | (with_reducible refine fin_0 ?_ (by first | rfl | (conv => lhs; simp only [go_sem, List.getElem?_map, hx, Option.map_some, hc, e2])) ?_)
            | (with_reducible show evC _ _ _ _ _ _ _ _ _ _ _ _
               first
               | (refine c_doesE (hix) ?_ ?_ ?_
                  · ((try (conv => rhs; simp (disch := omega) only [go_sem, List.getElem?_map, hx, Option.map_some, hc, e2])); try rfl)
                  · first | rfl | (conv => lhs; simp only [go_sem, List.getElem?_map, hx, Option.map_some, hc, e2])))
            | exact Sub.refl _ | omega)
          refine ⟨hlt1, trivial, Wk.list [1000000, 1000001, 1000002, 1000003, 1000004, 2000049] rfl rfl ?_⟩
          repeat' (first | (conv in hold _ => simp (disch := omega) only [go_sem, hc, e2]) | exact True.intro | exact Sub.refl _ | omega)
          rw [hmt, hnx, List.map_append, List.map_cons, List.map_nil, pD_eq x]
          rfl
        · have e3 : p.ks.take p.ks.length = p.ks := List.take_length
          have e4 : (p.ks.map pD).take p.ks.length = p.ks.map pD := take_all pD p.ks
          repeat' (first | with_reducible refine acc_none ?_ | (conv in hold _ => simp (disch := omega) only [go_sem, e3, hc, e2]) | refine Stp.go ?_ | (with_reducible first | refine it_pos rfl ?_ | refine it_neg (by decide) ?_ | refine st_nil rfl ?_ | refine s_op ?_ ?_ | exact True.intro) | ((with_reducible first | refine dw_reg0 ?_ | refine dw_regB ?_); (conv => arg 3; whnf)) | (refine Spl.go (fun hq he => ?_) (fun hq he => ?_) <;> first | (exfalso; clear hq; omega) | ((try (first | (conv => arg 8; simp only [hq]) | (conv => arg 4; simp only [hq]))); clear hq)) | ((with_reducible first | refine c_split (fun hq => ?_) (fun hq => ?_) | refine q_split (fun hq => ?_) (fun hq => ?_)) <;> (try (first | (conv => arg 8; simp only [hq]) | (conv => arg 4; simp only [hq])))) | exact Sub.refl _ | omega)
          refine fin_wk (wk_frzO 1000001 1000003 (by decide) (by decide) rfl (by decide) rfl ?_) ?_
          rotate_left
          (conv in hold _ => simp (disch := omega) only [go_sem, e2, hc, e4])
          refine fin_wk (wk_frzO 1000001 1000004 (by decide) (by decide) rfl (by decide) rfl ?_) ?_
          rotate_left
          (conv in hold _ => simp (disch := omega) only [go_sem, e2, hc, e4])
          refine fin_wk (wk_frzO 1000001 1000005 (by decide) (by decide) rfl (by decide) rfl ?_) ?_
          rotate_left
          (conv in hold _ => simp (disch := omega) only [go_sem, e2, hc, e4])
          all_goals first
            | exact ints_pur _
            | exact exprs_pur _
            | exact plans_pur _
            | skip
          refine fin_L [] ?_ ?_ rfl ?_
          repeat' (first | (conv in hold _ => simp (disch := omega) only [go_sem]) | exact True.intro | exact Sub.refl _ | omega)
theorem plS {k t : Int} {es : List E} {cs : List Int} {ks : List Pl} {des dcs dks : D} (h1 : Sub des (.sl 5 (es.map eD))) (h2 : Sub dcs (.sl 1 (cs.map I))) (h3 : Sub dks (.sl 5 (ks.map pD))) : Sub (.agg [I k, I t, des, dcs, dks]) (pD (.mk k t es cs ks)) := by
  rw [pD_eq]
  exact Sub.agg ⟨Sub.refl _, Sub.refl _, h1, h2, h3, trivial⟩
theorem filterOf_ok (e : E) (x : Pl) : Does Try.prog 64 [] [eD e, pD x] (pD (.mk 2 0 [e] [] [x])) [] := by
  refine does0 c_spec_filterOf mixed (Nat.le_of_ble_eq_true rfl) ?_
  conv => arg 3; whnf
  repeat' (first | with_reducible refine acc_none ?_ | (conv in hold _ => simp (disch := omega) only [go_sem]) | refine Stp.go ?_ | (with_reducible first | refine it_pos rfl ?_ | refine it_neg (by decide) ?_ | refine st_nil rfl ?_ | refine s_op ?_ ?_ | exact True.intro) | ((with_reducible first | refine dw_reg0 ?_ | refine dw_regB ?_); (conv => arg 3; whnf)) | (refine Spl.go (fun hq he => ?_) (fun hq he => ?_) <;> first | (exfalso; clear hq; omega) | ((try (first | (conv => arg 8; simp only [hq]) | (conv => arg 4; simp only [hq]))); clear hq)) | ((with_reducible first | refine c_split (fun hq => ?_) (fun hq => ?_) | refine q_split (fun hq => ?_) (fun hq => ?_)) <;> (try (first | (conv => arg 8; simp only [hq]) | (conv => arg 4; simp only [hq])))) | (with_reducible refine fin_0 ?_ (by first | rfl | (conv => lhs; simp only [go_sem])) ?_) | exact Sub.refl _ | omega)
  have h : Sub (.agg [I 2, I 0, .sl 5 [eD e], .nul, .sl 5 [pD x]]) (pD (.mk 2 0 [e] [] [x])) := plS (Sub.refl _) (Sub.nul 1) (Sub.refl _)
  simp only [go_sem] at h
  exact h
end Go.Proofs.Ytikfanemeglcoaa
set_option maxHeartbeats 4000000
set_option maxRecDepth 100000
set_option linter.unusedVariables false
set_option linter.unusedSimpArgs false
namespace Go.Proofs.Ytikfanemeglcoaa
open Go.RowKit

theorem pszL_sum : ∀ l : List Pl, pszL l = (l.map fun p => 1 + psz p).sum
  | [] => rfl
  | p :: l => by rw [pszL, pszL_sum l]; rfl
/-- A node whose kids are n elements of a row of one's own. -/
def holeP (p : Pl) (g n : Nat) : D := .agg [I p.k, I p.t, .sl 5 (p.es.map eD), intsD p.cs, .own g 5 n]
theorem holeP_ren (p : Pl) (g n : Nat) (L : List Nat) (g' : Nat) (h : nameOf L g = some g') : (holeP p g n).ren L = holeP p g' n := by
  unfold holeP intsD
  simp only [D.ren, D.renL, h]
def trP : Tr where
  α := Pl
  s := 5
  d := pD
  ks := Pl.ks
  hole := holeP
  size := fun p => 1 + psz p
  pur p := by rw [pD_eq]; rfl
  fr p g := by
    unfold holeP intsD
    simp only [D.frz, D.frzL, List.length_map, Nat.le_refl, and_self, if_true]
    rw [take_all, pD_eq]
    rfl
  ren := holeP_ren
  one p := Nat.le_add_right 1 _
  sum p := by rw [psz_eq, pszL_sum]; omega
theorem setP_ren (R : List Nat) (es : List Pl) (i : Nat) (d : D) : D.renL R ((es.map pD).set i d) = (es.map pD).set i (d.ren R) := by
  rw [D.renL_map, List.map_set, ← D.renL_map, plans_ren]
theorem clonePlans_ok (es : List Pl) (h0 : 0 < es.length) (hl : es.length < 1000000) : Does Try.prog 38 [] [.sl 5 (es.map pD)] (.own 1000000 5 es.length) [.row 5 (es.map pD)] := by
  refine does c_slices_Clone___loop_example_queryoptimizer_impl_Plan_loop_example_queryoptimizer_impl_Plan_ mixed (Nat.le_of_ble_eq_true rfl) 0 rfl ?_
  conv => arg 3; whnf
  repeat' (first | with_reducible refine acc_none ?_ | (conv in hold _ => simp (disch := omega) only [go_sem, List.length_map]) | refine Stp.go ?_ | (with_reducible first | refine it_pos rfl ?_ | refine it_neg (by decide) ?_ | refine st_nil rfl ?_ | refine s_op ?_ ?_ | exact True.intro) | ((with_reducible first | refine dw_reg0 ?_ | refine dw_regB ?_); (conv => arg 3; whnf)) | (refine Spl.go (fun hq he => ?_) (fun hq he => ?_) <;> first | (exfalso; clear hq; omega) | ((try (first | (conv => arg 8; simp only [hq]) | (conv => arg 4; simp only [hq]))); clear hq)) | ((with_reducible first | refine c_split (fun hq => ?_) (fun hq => ?_) | refine q_split (fun hq => ?_) (fun hq => ?_)) <;> (try (first | (conv => arg 8; simp only [hq]) | (conv => arg 4; simp only [hq])))) | (with_reducible refine fin_0 ?_ (by first | rfl | (conv => lhs; simp only [go_sem, List.length_map])) ?_) | exact Sub.refl _ | omega)
  refine fin_L [2000007] ?_ ?_ rfl ?_
  repeat' (first | (conv in hold _ => simp (disch := omega) only [go_sem]) | exact True.intro | exact Sub.refl _ | omega)
theorem clonePlansRaw_ok (a : Option Addr) (c : Nat) : Does Try.prog 38 [] [.v (.slice a 0 c)] (.sl 5 []) [] := by
  cases a with
  | none =>
    refine does0 c_slices_Clone___loop_example_queryoptimizer_impl_Plan_loop_example_queryoptimizer_impl_Plan_ mixed (Nat.le_of_ble_eq_true rfl) ?_
    conv => arg 3; whnf
    repeat' (first | with_reducible refine acc_none ?_ | (conv in hold _ => simp (disch := omega) only [go_sem, Option.isNone_none, bne_tf]) | refine Stp.go ?_ | (with_reducible first | refine it_pos rfl ?_ | refine it_neg (by decide) ?_ | refine st_nil rfl ?_ | refine s_op ?_ ?_ | exact True.intro) | ((with_reducible first | refine dw_reg0 ?_ | refine dw_regB ?_); (conv => arg 3; whnf)) | (refine Spl.go (fun hq he => ?_) (fun hq he => ?_) <;> first | (exfalso; clear hq; omega) | ((try (first | (conv => arg 8; simp only [hq]) | (conv => arg 4; simp only [hq]))); clear hq)) | ((with_reducible first | refine c_split (fun hq => ?_) (fun hq => ?_) | refine q_split (fun hq => ?_) (fun hq => ?_)) <;> (try (first | (conv => arg 8; simp only [hq]) | (conv => arg 4; simp only [hq])))) | (with_reducible refine fin_0 ?_ (by first | rfl | (conv => lhs; simp only [go_sem, Option.isNone_none, bne_tf])) ?_) | exact Sub.refl _ | omega)
    exact Sub.nul 5
  | some A =>
    refine does0 c_slices_Clone___loop_example_queryoptimizer_impl_Plan_loop_example_queryoptimizer_impl_Plan_ mixed (Nat.le_of_ble_eq_true rfl) ?_
    conv => arg 3; whnf
    repeat' ((fail_if_success (with_reducible first | refine dw_reg0 ?_ | refine dw_regB ?_)); first | with_reducible refine acc_none ?_ | (conv in hold _ => simp (disch := omega) only [go_sem]) | refine Stp.go ?_ | (with_reducible first | refine it_pos rfl ?_ | refine it_neg (by decide) ?_ | refine st_nil rfl ?_ | refine s_op ?_ ?_ | exact True.intro) | ((with_reducible first | refine dw_reg0 ?_ | refine dw_regB ?_); (conv => arg 3; whnf)) | (refine Spl.go (fun hq he => ?_) (fun hq he => ?_) <;> first | (exfalso; clear hq; omega) | ((try (first | (conv => arg 8; simp only [hq]) | (conv => arg 4; simp only [hq]))); clear hq)) | ((with_reducible first | refine c_split (fun hq => ?_) (fun hq => ?_) | refine q_split (fun hq => ?_) (fun hq => ?_)) <;> (try (first | (conv => arg 8; simp only [hq]) | (conv => arg 4; simp only [hq])))) | (with_reducible refine fin_0 ?_ (by first | rfl | (conv => lhs; simp only [go_sem])) ?_) | exact Sub.refl _ | omega)
    (with_reducible first | refine dw_reg0 ?_ | refine dw_regB ?_)
    conv => arg 3; whnf
    repeat' ((fail_if_success (with_reducible first | refine dw_reg0 ?_ | refine dw_regB ?_)); first | with_reducible refine acc_none ?_ | (conv in hold _ => simp (disch := omega) only [go_sem]) | refine Stp.go ?_ | (with_reducible first | refine it_pos rfl ?_ | refine it_neg (by decide) ?_ | refine st_nil rfl ?_ | refine s_op ?_ ?_ | exact True.intro) | ((with_reducible first | refine dw_reg0 ?_ | refine dw_regB ?_); (conv => arg 3; whnf)) | (refine Spl.go (fun hq he => ?_) (fun hq he => ?_) <;> first | (exfalso; clear hq; omega) | ((try (first | (conv => arg 8; simp only [hq]) | (conv => arg 4; simp only [hq]))); clear hq)) | ((with_reducible first | refine c_split (fun hq => ?_) (fun hq => ?_) | refine q_split (fun hq => ?_) (fun hq => ?_)) <;> (try (first | (conv => arg 8; simp only [hq]) | (conv => arg 4; simp only [hq])))) | (with_reducible refine fin_0 ?_ (by first | rfl | (conv => lhs; simp only [go_sem])) ?_) | exact Sub.refl _ | omega)
    (with_reducible first | refine dw_reg0 ?_ | refine dw_regB ?_)
    conv => arg 3; whnf
    repeat' ((fail_if_success (with_reducible first | refine dw_reg0 ?_ | refine dw_regB ?_)); first | with_reducible refine acc_none ?_ | (conv in hold _ => simp (disch := omega) only [go_sem, Option.isNone_some, bne_ff]) | refine Stp.go ?_ | (with_reducible first | refine it_pos rfl ?_ | refine it_neg (by decide) ?_ | refine st_nil rfl ?_ | refine s_op ?_ ?_ | exact True.intro) | ((with_reducible first | refine dw_reg0 ?_ | refine dw_regB ?_); (conv => arg 3; whnf)) | (refine Spl.go (fun hq he => ?_) (fun hq he => ?_) <;> first | (exfalso; clear hq; omega) | ((try (first | (conv => arg 8; simp only [hq]) | (conv => arg 4; simp only [hq]))); clear hq)) | ((with_reducible first | refine c_split (fun hq => ?_) (fun hq => ?_) | refine q_split (fun hq => ?_) (fun hq => ?_)) <;> (try (first | (conv => arg 8; simp only [hq]) | (conv => arg 4; simp only [hq])))) | (with_reducible refine fin_0 ?_ (by first | rfl | (conv => lhs; simp only [go_sem, Option.isNone_some, bne_ff])) ?_) | exact Sub.refl _ | omega)
    (with_reducible first | refine dw_reg0 ?_ | refine dw_regB ?_)
    conv => arg 3; whnf
    refine Stp.go ?_
    refine s_pre (pre_raw (t := 0) 5 (by decide) rfl) ?_
    repeat' (first | with_reducible refine acc_none ?_ | (conv in hold _ => simp (disch := omega) only [go_sem]) | refine Stp.go ?_ | (with_reducible first | refine it_pos rfl ?_ | refine it_neg (by decide) ?_ | refine st_nil rfl ?_ | refine s_op ?_ ?_ | exact True.intro) | ((with_reducible first | refine dw_reg0 ?_ | refine dw_regB ?_); (conv => arg 3; whnf)) | (refine Spl.go (fun hq he => ?_) (fun hq he => ?_) <;> first | (exfalso; clear hq; omega) | ((try (first | (conv => arg 8; simp only [hq]) | (conv => arg 4; simp only [hq]))); clear hq)) | ((with_reducible first | refine c_split (fun hq => ?_) (fun hq => ?_) | refine q_split (fun hq => ?_) (fun hq => ?_)) <;> (try (first | (conv => arg 8; simp only [hq]) | (conv => arg 4; simp only [hq])))) | exact Sub.refl _ | omega)
    refine fin_wk (wk_frz 2 2000007 (by decide) (by decide) rfl ?_) ?_
    rotate_left
    (conv in hold _ => simp (disch := omega) only [go_sem])
    · refine fin_L [] ?_ ?_ rfl ?_
      repeat' (first | (conv in hold _ => simp (disch := omega) only [go_sem]) | exact True.intro | exact Sub.refl _ | omega)
    · rfl
theorem clonePlansNone_ok : Does Try.prog 38 [] [.sl 5 []] (.sl 5 []) [] := by
  intro w F m xs hxl hHle hwf hfz hblk hnone hinj
  match xs, hxl with
  | [x], _ =>
    have h0 := hfz 0 _ x rfl rfl
    have hx : ∃ a c, x = .slice a 0 c := by
      cases h0 with
      | sl0 _ _ a c => exact ⟨_, _, rfl⟩
      | sl _ _ _ b off c => exact ⟨_, _, rfl⟩
    obtain ⟨a, c, rfl⟩ := hx
    refine clonePlansRaw_ok a c w F m [.slice a 0 c] rfl hHle hwf (fun i d y hd hy => ?_) hblk hnone hinj
    match i with
    | 0 =>
      obtain rfl : D.v (.slice a 0 c) = d := by simpa using hd
      obtain rfl : Value.slice a 0 c = y := by simpa using hy
      exact .v m _
    | i + 1 => simp at hd
theorem cloneInts_ok (es : List Int) (h0 : 0 < es.length) (hl : es.length < 1000000) : Does Try.prog 37 [] [.sl 1 (es.map I)] (.own 1000000 1 es.length) [.row 1 (es.map I)] := by
  refine does c_slices_Clone___int_int_ mixed (Nat.le_of_ble_eq_true rfl) 0 rfl ?_
  conv => arg 3; whnf
  repeat' (first | with_reducible refine acc_none ?_ | (conv in hold _ => simp (disch := omega) only [go_sem, List.length_map]) | refine Stp.go ?_ | (with_reducible first | refine it_pos rfl ?_ | refine it_neg (by decide) ?_ | refine st_nil rfl ?_ | refine s_op ?_ ?_ | exact True.intro) | ((with_reducible first | refine dw_reg0 ?_ | refine dw_regB ?_); (conv => arg 3; whnf)) | (refine Spl.go (fun hq he => ?_) (fun hq he => ?_) <;> first | (exfalso; clear hq; omega) | ((try (first | (conv => arg 8; simp only [hq]) | (conv => arg 4; simp only [hq]))); clear hq)) | ((with_reducible first | refine c_split (fun hq => ?_) (fun hq => ?_) | refine q_split (fun hq => ?_) (fun hq => ?_)) <;> (try (first | (conv => arg 8; simp only [hq]) | (conv => arg 4; simp only [hq])))) | (with_reducible refine fin_0 ?_ (by first | rfl | (conv => lhs; simp only [go_sem, List.length_map])) ?_) | exact Sub.refl _ | omega)
  refine fin_L [2000007] ?_ ?_ rfl ?_
  repeat' (first | (conv in hold _ => simp (disch := omega) only [go_sem]) | exact True.intro | exact Sub.refl _ | omega)
theorem cloneIntsRaw_ok (a : Option Addr) (c : Nat) : Does Try.prog 37 [] [.v (.slice a 0 c)] (.sl 1 []) [] := by
  cases a with
  | none =>
    refine does0 c_slices_Clone___int_int_ mixed (Nat.le_of_ble_eq_true rfl) ?_
    conv => arg 3; whnf
    repeat' (first | with_reducible refine acc_none ?_ | (conv in hold _ => simp (disch := omega) only [go_sem, Option.isNone_none, bne_tf]) | refine Stp.go ?_ | (with_reducible first | refine it_pos rfl ?_ | refine it_neg (by decide) ?_ | refine st_nil rfl ?_ | refine s_op ?_ ?_ | exact True.intro) | ((with_reducible first | refine dw_reg0 ?_ | refine dw_regB ?_); (conv => arg 3; whnf)) | (refine Spl.go (fun hq he => ?_) (fun hq he => ?_) <;> first | (exfalso; clear hq; omega) | ((try (first | (conv => arg 8; simp only [hq]) | (conv => arg 4; simp only [hq]))); clear hq)) | ((with_reducible first | refine c_split (fun hq => ?_) (fun hq => ?_) | refine q_split (fun hq => ?_) (fun hq => ?_)) <;> (try (first | (conv => arg 8; simp only [hq]) | (conv => arg 4; simp only [hq])))) | (with_reducible refine fin_0 ?_ (by first | rfl | (conv => lhs; simp only [go_sem, Option.isNone_none, bne_tf])) ?_) | exact Sub.refl _ | omega)
    exact Sub.nul 1
  | some A =>
    refine does0 c_slices_Clone___int_int_ mixed (Nat.le_of_ble_eq_true rfl) ?_
    conv => arg 3; whnf
    repeat' ((fail_if_success (with_reducible first | refine dw_reg0 ?_ | refine dw_regB ?_)); first | with_reducible refine acc_none ?_ | (conv in hold _ => simp (disch := omega) only [go_sem]) | refine Stp.go ?_ | (with_reducible first | refine it_pos rfl ?_ | refine it_neg (by decide) ?_ | refine st_nil rfl ?_ | refine s_op ?_ ?_ | exact True.intro) | ((with_reducible first | refine dw_reg0 ?_ | refine dw_regB ?_); (conv => arg 3; whnf)) | (refine Spl.go (fun hq he => ?_) (fun hq he => ?_) <;> first | (exfalso; clear hq; omega) | ((try (first | (conv => arg 8; simp only [hq]) | (conv => arg 4; simp only [hq]))); clear hq)) | ((with_reducible first | refine c_split (fun hq => ?_) (fun hq => ?_) | refine q_split (fun hq => ?_) (fun hq => ?_)) <;> (try (first | (conv => arg 8; simp only [hq]) | (conv => arg 4; simp only [hq])))) | (with_reducible refine fin_0 ?_ (by first | rfl | (conv => lhs; simp only [go_sem])) ?_) | exact Sub.refl _ | omega)
    (with_reducible first | refine dw_reg0 ?_ | refine dw_regB ?_)
    conv => arg 3; whnf
    repeat' ((fail_if_success (with_reducible first | refine dw_reg0 ?_ | refine dw_regB ?_)); first | with_reducible refine acc_none ?_ | (conv in hold _ => simp (disch := omega) only [go_sem]) | refine Stp.go ?_ | (with_reducible first | refine it_pos rfl ?_ | refine it_neg (by decide) ?_ | refine st_nil rfl ?_ | refine s_op ?_ ?_ | exact True.intro) | ((with_reducible first | refine dw_reg0 ?_ | refine dw_regB ?_); (conv => arg 3; whnf)) | (refine Spl.go (fun hq he => ?_) (fun hq he => ?_) <;> first | (exfalso; clear hq; omega) | ((try (first | (conv => arg 8; simp only [hq]) | (conv => arg 4; simp only [hq]))); clear hq)) | ((with_reducible first | refine c_split (fun hq => ?_) (fun hq => ?_) | refine q_split (fun hq => ?_) (fun hq => ?_)) <;> (try (first | (conv => arg 8; simp only [hq]) | (conv => arg 4; simp only [hq])))) | (with_reducible refine fin_0 ?_ (by first | rfl | (conv => lhs; simp only [go_sem])) ?_) | exact Sub.refl _ | omega)
    (with_reducible first | refine dw_reg0 ?_ | refine dw_regB ?_)
    conv => arg 3; whnf
    repeat' ((fail_if_success (with_reducible first | refine dw_reg0 ?_ | refine dw_regB ?_)); first | with_reducible refine acc_none ?_ | (conv in hold _ => simp (disch := omega) only [go_sem, Option.isNone_some, bne_ff]) | refine Stp.go ?_ | (with_reducible first | refine it_pos rfl ?_ | refine it_neg (by decide) ?_ | refine st_nil rfl ?_ | refine s_op ?_ ?_ | exact True.intro) | ((with_reducible first | refine dw_reg0 ?_ | refine dw_regB ?_); (conv => arg 3; whnf)) | (refine Spl.go (fun hq he => ?_) (fun hq he => ?_) <;> first | (exfalso; clear hq; omega) | ((try (first | (conv => arg 8; simp only [hq]) | (conv => arg 4; simp only [hq]))); clear hq)) | ((with_reducible first | refine c_split (fun hq => ?_) (fun hq => ?_) | refine q_split (fun hq => ?_) (fun hq => ?_)) <;> (try (first | (conv => arg 8; simp only [hq]) | (conv => arg 4; simp only [hq])))) | (with_reducible refine fin_0 ?_ (by first | rfl | (conv => lhs; simp only [go_sem, Option.isNone_some, bne_ff])) ?_) | exact Sub.refl _ | omega)
    (with_reducible first | refine dw_reg0 ?_ | refine dw_regB ?_)
    conv => arg 3; whnf
    refine Stp.go ?_
    refine s_pre (pre_raw (t := 0) 1 (by decide) rfl) ?_
    repeat' (first | with_reducible refine acc_none ?_ | (conv in hold _ => simp (disch := omega) only [go_sem]) | refine Stp.go ?_ | (with_reducible first | refine it_pos rfl ?_ | refine it_neg (by decide) ?_ | refine st_nil rfl ?_ | refine s_op ?_ ?_ | exact True.intro) | ((with_reducible first | refine dw_reg0 ?_ | refine dw_regB ?_); (conv => arg 3; whnf)) | (refine Spl.go (fun hq he => ?_) (fun hq he => ?_) <;> first | (exfalso; clear hq; omega) | ((try (first | (conv => arg 8; simp only [hq]) | (conv => arg 4; simp only [hq]))); clear hq)) | ((with_reducible first | refine c_split (fun hq => ?_) (fun hq => ?_) | refine q_split (fun hq => ?_) (fun hq => ?_)) <;> (try (first | (conv => arg 8; simp only [hq]) | (conv => arg 4; simp only [hq])))) | exact Sub.refl _ | omega)
    refine fin_wk (wk_frz 2 2000007 (by decide) (by decide) rfl ?_) ?_
    rotate_left
    (conv in hold _ => simp (disch := omega) only [go_sem])
    · refine fin_L [] ?_ ?_ rfl ?_
      repeat' (first | (conv in hold _ => simp (disch := omega) only [go_sem]) | exact True.intro | exact Sub.refl _ | omega)
    · rfl
theorem cloneIntsNone_ok : Does Try.prog 37 [] [.sl 1 []] (.sl 1 []) [] := by
  intro w F m xs hxl hHle hwf hfz hblk hnone hinj
  match xs, hxl with
  | [x], _ =>
    have h0 := hfz 0 _ x rfl rfl
    have hx : ∃ a c, x = .slice a 0 c := by
      cases h0 with
      | sl0 _ _ a c => exact ⟨_, _, rfl⟩
      | sl _ _ _ b off c => exact ⟨_, _, rfl⟩
    obtain ⟨a, c, rfl⟩ := hx
    refine cloneIntsRaw_ok a c w F m [.slice a 0 c] rfl hHle hwf (fun i d y hd hy => ?_) hblk hnone hinj
    match i with
    | 0 =>
      obtain rfl : D.v (.slice a 0 c) = d := by simpa using hd
      obtain rfl : Value.slice a 0 c = y := by simpa using hy
      exact .v m _
    | i + 1 => simp at hd
/-- Numbers copied. -/
theorem cloneNums_ok (cs : List Int) (hl : cs.length < 1000000) : Does Try.prog 37 [] [intsD cs] (intsD cs) [] := by
  cases cs with
  | nil => exact cloneIntsNone_ok
  | cons c r =>
    have htk := take_all I (c :: r)
    have h0 : 0 < (c :: r).length := by rw [List.length_cons]; omega
    obtain ⟨l, hl0⟩ : ∃ l, l = c :: r := ⟨_, rfl⟩
    rw [← hl0] at h0 hl htk ⊢
    refine does0 c_slices_Clone___int_int_ mixed (Nat.le_of_ble_eq_true rfl) ?_
    conv => arg 3; whnf
    repeat' (first | with_reducible refine acc_none ?_ | (conv in hold _ => simp (disch := omega) only [go_sem, intsD, List.length_map]) | refine Stp.go ?_ | (with_reducible first | refine it_pos rfl ?_ | refine it_neg (by decide) ?_ | refine st_nil rfl ?_ | refine s_op ?_ ?_ | exact True.intro) | ((with_reducible first | refine dw_reg0 ?_ | refine dw_regB ?_); (conv => arg 3; whnf)) | (refine Spl.go (fun hq he => ?_) (fun hq he => ?_) <;> first | (exfalso; clear hq; omega) | ((try (first | (conv => arg 8; simp only [hq]) | (conv => arg 4; simp only [hq]))); clear hq)) | ((with_reducible first | refine c_split (fun hq => ?_) (fun hq => ?_) | refine q_split (fun hq => ?_) (fun hq => ?_)) <;> (try (first | (conv => arg 8; simp only [hq]) | (conv => arg 4; simp only [hq])))) | exact Sub.refl _ | omega)
    refine fin_wk (wk_frz 2 2000007 (by decide) (by decide) rfl ?_) ?_
    rotate_left
    (conv in hold _ => simp (disch := omega) only [go_sem, htk, List.length_map, Nat.le_refl])
    · refine fin_L [] ?_ ?_ rfl ?_
      repeat' (first | (conv in hold _ => simp (disch := omega) only [go_sem, intsD]) | exact True.intro | exact Sub.refl _ | omega)
    · exact ints_pur _
end Go.Proofs.Ytikfanemeglcoaa

/-
  Copies of expressions and plans, and filters, in the model's draws. No condition.
-/
import Derived.Test.YtpfedjaedlfdfaaKSDca
import Derived.Test.YtpfedjaedlfdfaaKSDcd
import Derived.Test.YtpfedjaedlfdfaaKSVDrawE
import Derived.Test.YtpfedjaedlfdfaaJSVPl
import Derived.Test.YtpfedjaedlfdfaaJSVCall
set_option maxHeartbeats 4000000
set_option maxRecDepth 100000
set_option linter.unusedVariables false
set_option linter.unusedSimpArgs false
namespace Go.Proofs.Ytpfedjaedlfdfaa
open Go.RowKit
theorem copyExpr_ok : ∀ e : E, esz e < 1000000 → Does Try.prog 116 [] [eD e] (eD e) [] := by
  refine E.ind (fun e ih h => ?_)
  rw [esz_eq] at h
  have hlen := eszL_len e.ks
  refine does0 c_spec_copyExpr mixed (Nat.le_of_ble_eq_true rfl) ?_
  conv => arg 3; whnf
  repeat' (first|with_reducible refine acc_none ?_ | (conv in hold _=>simp (disch:=omega) only [go_sem])|refine Stp.go ?_|(with_reducible first|refine it_pos rfl ?_|refine it_neg (by decide) ?_|refine st_nil rfl ?_|refine s_op ?_ ?_|exact trivial)|((with_reducible first|refine dw_reg0 ?_|refine dw_regB ?_);(conv=>arg 3;whnf))|(refine Spl.go (fun hq he=>?_) (fun hq he=>?_)<;>first|(exfalso;clear hq;omega)|((try first|(conv=>arg 8;simp only [hq])|(conv=>arg 4;simp only [hq]));clear hq))|((with_reducible first|refine c_split (fun hq=>?_) (fun hq=>?_)|refine q_split (fun hq=>?_) (fun hq=>?_))<;>(try first|(conv=>arg 8;simp only [hq])|(conv=>arg 4;simp only [hq])))|(with_reducible refine fin_0 ?_ (by first|rfl|(conv=>lhs;simp only [go_sem])) ?_)|exact Sub.refl _|omega)
  refine dw_for (c := 4) (l := fun i => [(1, .ref 1000000 0), (2, .ref 1000001 0), (3, .ref 1000002 0), (4, I i), (1000000, .obj [I e.k, I e.c, Bo e.v.b, I e.v.n, .sl 5 (e.ks.map eD)]), (1000001, .obj [I 0, I 0, Bo false, I 0, .nul]), (1000002, .obj [I e.k, I e.c, Bo e.v.b, I e.v.n, .own 1000003 5 i]), (1000003, .row 5 ((e.ks.take i).map eD))]) e.ks.length (fun _ => True) 0 trivial ((wk_rowO 2000003 2000028 5 4 (by decide) (by decide) (by decide) rfl rfl rfl).trans (Wk.list [2000001, 2000002, 2000003, 2000028] rfl rfl ?_)) (fun i hi _ => ?_) (Nat.zero_le _)
  · repeat' (first|(conv in hold _=>simp (disch:=omega) only [go_sem])|exact trivial|exact Sub.refl _|omega)
    exact rfl
  · have hlt := take_len (vs := e.ks) (i := i) (by omega)
    have hmt := take_map eD (vs := e.ks) (i := i) (by omega)
    rcases at_or_end hi with ⟨x, hx, hlt1⟩ | rfl
    · have hix := ih x (List.mem_of_getElem? hx) (by have := eszL_mem (List.mem_of_getElem? hx); omega)
      have hnx := take_next hx
      repeat' (first
        | with_reducible refine acc_none ?_ | (conv in hold _=>simp (disch:=omega) only [go_sem, List.getElem?_map, hx, Option.map_some])|refine Stp.go ?_|(with_reducible first|refine it_pos rfl ?_|refine it_neg (by decide) ?_|refine st_nil rfl ?_|refine s_op ?_ ?_|exact trivial)|((with_reducible first|refine dw_reg0 ?_|refine dw_regB ?_);(conv=>arg 3;whnf))|(refine Spl.go (fun hq he=>?_) (fun hq he=>?_)<;>first|(exfalso;clear hq;omega)|((try first|(conv=>arg 8;simp only [hq])|(conv=>arg 4;simp only [hq]));clear hq))|((with_reducible first|refine c_split (fun hq=>?_) (fun hq=>?_)|refine q_split (fun hq=>?_) (fun hq=>?_))<;>(try first|(conv=>arg 8;simp only [hq])|(conv=>arg 4;simp only [hq])))|(with_reducible refine fin_0 ?_ (by first|rfl|(conv=>lhs;simp only [go_sem, List.getElem?_map, hx, Option.map_some])) ?_)
        | (with_reducible show evC _ _ _ _ _ _ _ _ _ _ _ _
           first
           | (refine c_doesE (hix) ?_ ?_ ?_
              · ((try (conv=>rhs;simp (disch:=omega) only [go_sem, List.getElem?_map, hx, Option.map_some])); try rfl)
              · first|rfl|(conv=>lhs;simp only [go_sem, List.getElem?_map, hx, Option.map_some])))|exact Sub.refl _|omega)
      refine ⟨hlt1, trivial, Wk.list [1000000, 1000001, 1000002, 2000028] rfl rfl ?_⟩
      repeat' (first|(conv in hold _=>simp (disch:=omega) only [go_sem])|exact trivial|exact Sub.refl _|omega)
      rw [hmt, hnx, List.map_append, List.map_cons, List.map_nil, eD_eq x]
    · have e1 : e.ks.take e.ks.length = e.ks := List.take_length
      have e2 : (e.ks.map eD).take e.ks.length = e.ks.map eD := List.take_of_length_le (by rw [List.length_map]; exact Nat.le_refl _)
      repeat' (first|with_reducible refine acc_none ?_ | (conv in hold _=>simp (disch:=omega) only [go_sem, e1])|refine Stp.go ?_|(with_reducible first|refine it_pos rfl ?_|refine it_neg (by decide) ?_|refine st_nil rfl ?_|refine s_op ?_ ?_|exact trivial)|((with_reducible first|refine dw_reg0 ?_|refine dw_regB ?_);(conv=>arg 3;whnf))|(refine Spl.go (fun hq he=>?_) (fun hq he=>?_)<;>first|(exfalso;clear hq;omega)|((try first|(conv=>arg 8;simp only [hq])|(conv=>arg 4;simp only [hq]));clear hq))|((with_reducible first|refine c_split (fun hq=>?_) (fun hq=>?_)|refine q_split (fun hq=>?_) (fun hq=>?_))<;>(try first|(conv=>arg 8;simp only [hq])|(conv=>arg 4;simp only [hq])))|exact Sub.refl _|omega)
      refine fin_wk (wk_frzO 1000001 1000003 (by decide) (by decide) rfl (by decide) rfl ?_) ?_
      rotate_left
      (conv in hold _=>simp (disch:=omega) only [go_sem, e2])
      · refine fin_L [] ?_ ?_ rfl ?_
        repeat' (first|(conv in hold _=>simp (disch:=omega) only [go_sem])|exact trivial|exact Sub.refl _|omega)
      · exact exprs_pur _
theorem copyPlan_ok : ∀ p : Pl, psz p ≤ 900000 → Does Try.prog 106 [] [pD p] (pD p) [] := by
  refine Pl.indA (fun p ih h => ?_)
  rw [psz_eq] at h
  have hle := eszL_len p.es
  have hlk := pszL_len p.ks
  have hc := take_all I p.cs
  refine does0 c_spec_copyPlan mixed (Nat.le_of_ble_eq_true rfl) ?_
  conv => arg 3; whnf
  repeat' (first|with_reducible refine acc_none ?_ | (conv in hold _=>simp (disch:=omega) only [go_sem])|refine Stp.go ?_|(with_reducible first|refine it_pos rfl ?_|refine it_neg (by decide) ?_|refine st_nil rfl ?_|refine s_op ?_ ?_|exact trivial)|((with_reducible first|refine dw_reg0 ?_|refine dw_regB ?_);(conv=>arg 3;whnf))|(refine Spl.go (fun hq he=>?_) (fun hq he=>?_)<;>first|(exfalso;clear hq;omega)|((try first|(conv=>arg 8;simp only [hq])|(conv=>arg 4;simp only [hq]));clear hq))|((with_reducible first|refine c_split (fun hq=>?_) (fun hq=>?_)|refine q_split (fun hq=>?_) (fun hq=>?_))<;>(try first|(conv=>arg 8;simp only [hq])|(conv=>arg 4;simp only [hq])))|(with_reducible refine fin_0 ?_ (by first|rfl|(conv=>lhs;simp only [go_sem])) ?_)|exact Sub.refl _|omega)
  refine dw_for (c := 5) (l := fun i => [(1, .ref 1000000 0), (2, .ref 1000001 0), (3, .ref 1000002 0), (4, I i), (1000000, .obj [I p.k, I p.t, .sl 5 (p.es.map eD), .sl 1 (p.cs.map I), .sl 5 (p.ks.map pD)]), (1000001, .obj [I 0, I 0, .nul, .nul, .nul]), (1000002, .obj [I p.k, I p.t, .own 1000004 5 i, .own 1000003 1 p.cs.length, .nul]), (1000003, .row 1 (p.cs.map I)), (1000004, .row 5 ((p.es.take i).map eD))]) p.es.length (fun _ => True) 0 trivial ((wk_rowO 2000003 2000099 5 2 (by decide) (by decide) (by decide) rfl rfl rfl).trans (Wk.list [2000001, 2000002, 2000003, 2000013, 2000099] rfl rfl ?_)) (fun i hi _ => ?_) (Nat.zero_le _)
  · repeat' (first|(conv in hold _=>simp (disch:=omega) only [go_sem, hc])|exact trivial|exact Sub.refl _|omega)
    exact rfl
  · have hlt := take_len (vs := p.es) (i := i) (by omega)
    have hmt := take_map eD (vs := p.es) (i := i) (by omega)
    rcases at_or_end hi with ⟨x, hx, hlt1⟩ | rfl
    · have hix := copyExpr_ok x (by have := eszL_mem (List.mem_of_getElem? hx); omega)
      have hnx := take_next hx
      repeat' (first
        | with_reducible refine acc_none ?_ | (conv in hold _=>simp (disch:=omega) only [go_sem, List.getElem?_map, hx, Option.map_some, hc])|refine Stp.go ?_|(with_reducible first|refine it_pos rfl ?_|refine it_neg (by decide) ?_|refine st_nil rfl ?_|refine s_op ?_ ?_|exact trivial)|((with_reducible first|refine dw_reg0 ?_|refine dw_regB ?_);(conv=>arg 3;whnf))|(refine Spl.go (fun hq he=>?_) (fun hq he=>?_)<;>first|(exfalso;clear hq;omega)|((try first|(conv=>arg 8;simp only [hq])|(conv=>arg 4;simp only [hq]));clear hq))|((with_reducible first|refine c_split (fun hq=>?_) (fun hq=>?_)|refine q_split (fun hq=>?_) (fun hq=>?_))<;>(try first|(conv=>arg 8;simp only [hq])|(conv=>arg 4;simp only [hq])))|(with_reducible refine fin_0 ?_ (by first|rfl|(conv=>lhs;simp only [go_sem, List.getElem?_map, hx, Option.map_some, hc])) ?_)
        | (with_reducible show evC _ _ _ _ _ _ _ _ _ _ _ _
           first
           | (refine c_doesE (hix) ?_ ?_ ?_
              · ((try (conv=>rhs;simp (disch:=omega) only [go_sem, List.getElem?_map, hx, Option.map_some, hc])); try rfl)
              · first|rfl|(conv=>lhs;simp only [go_sem, List.getElem?_map, hx, Option.map_some, hc])))|exact Sub.refl _|omega)
      refine ⟨hlt1, trivial, Wk.list [1000000, 1000001, 1000002, 1000003, 2000031] rfl rfl ?_⟩
      repeat' (first|(conv in hold _=>simp (disch:=omega) only [go_sem, hc])|exact trivial|exact Sub.refl _|omega)
      rw [hmt, hnx, List.map_append, List.map_cons, List.map_nil, eD_eq x]
    · have e1 : p.es.take p.es.length = p.es := List.take_length
      have e2 : (p.es.map eD).take p.es.length = p.es.map eD := take_all eD p.es
      repeat' (first|with_reducible refine acc_none ?_ | (conv in hold _=>simp (disch:=omega) only [go_sem, e1, hc])|refine Stp.go ?_|(with_reducible first|refine it_pos rfl ?_|refine it_neg (by decide) ?_|refine st_nil rfl ?_|refine s_op ?_ ?_|exact trivial)|((with_reducible first|refine dw_reg0 ?_|refine dw_regB ?_);(conv=>arg 3;whnf))|(refine Spl.go (fun hq he=>?_) (fun hq he=>?_)<;>first|(exfalso;clear hq;omega)|((try first|(conv=>arg 8;simp only [hq])|(conv=>arg 4;simp only [hq]));clear hq))|((with_reducible first|refine c_split (fun hq=>?_) (fun hq=>?_)|refine q_split (fun hq=>?_) (fun hq=>?_))<;>(try first|(conv=>arg 8;simp only [hq])|(conv=>arg 4;simp only [hq])))|(with_reducible refine fin_0 ?_ (by first|rfl|(conv=>lhs;simp only [go_sem, e1, hc])) ?_)|exact Sub.refl _|omega)
      refine dw_for (c := 6) (l := fun i => [(1, .ref 1000000 0), (2, .ref 1000001 0), (3, .ref 1000002 0), (5, I i), (1000000, .obj [I p.k, I p.t, .sl 5 (p.es.map eD), .sl 1 (p.cs.map I), .sl 5 (p.ks.map pD)]), (1000001, .obj [I 0, I 0, .nul, .nul, .nul]), (1000002, .obj [I p.k, I p.t, .own 1000004 5 p.es.length, .own 1000003 1 p.cs.length, .own 1000005 5 i]), (1000003, .row 1 (p.cs.map I)), (1000004, .row 5 (p.es.map eD)), (1000005, .row 5 ((p.ks.take i).map pD))]) p.ks.length (fun _ => True) 0 trivial ((wk_rowO 1000002 2000099 5 4 (by decide) (by decide) (by decide) rfl rfl rfl).trans (Wk.list [1000000, 1000001, 1000002, 1000003, 1000004, 2000099] rfl rfl ?_)) (fun i hi _ => ?_) (Nat.zero_le _)
      · repeat' (first|(conv in hold _=>simp (disch:=omega) only [go_sem, hc, e1, e2])|exact trivial|exact Sub.refl _|omega)
        exact rfl
      · have hlt := take_len (vs := p.ks) (i := i) (by omega)
        have hmt := take_map pD (vs := p.ks) (i := i) (by omega)
        rcases at_or_end hi with ⟨x, hx, hlt1⟩ | rfl
        · have hix := ih x (List.mem_of_getElem? hx) (by have := pszL_mem (List.mem_of_getElem? hx); omega)
          have hnx := take_next hx
          repeat' (first
            | with_reducible refine acc_none ?_ | (conv in hold _=>simp (disch:=omega) only [go_sem, List.getElem?_map, hx, Option.map_some, hc, e2])|refine Stp.go ?_|(with_reducible first|refine it_pos rfl ?_|refine it_neg (by decide) ?_|refine st_nil rfl ?_|refine s_op ?_ ?_|exact trivial)|((with_reducible first|refine dw_reg0 ?_|refine dw_regB ?_);(conv=>arg 3;whnf))|(refine Spl.go (fun hq he=>?_) (fun hq he=>?_)<;>first|(exfalso;clear hq;omega)|((try first|(conv=>arg 8;simp only [hq])|(conv=>arg 4;simp only [hq]));clear hq))|((with_reducible first|refine c_split (fun hq=>?_) (fun hq=>?_)|refine q_split (fun hq=>?_) (fun hq=>?_))<;>(try first|(conv=>arg 8;simp only [hq])|(conv=>arg 4;simp only [hq])))|(with_reducible refine fin_0 ?_ (by first|rfl|(conv=>lhs;simp only [go_sem, List.getElem?_map, hx, Option.map_some, hc, e2])) ?_)
            | (with_reducible show evC _ _ _ _ _ _ _ _ _ _ _ _
               first
               | (refine c_doesE (hix) ?_ ?_ ?_
                  · ((try (conv=>rhs;simp (disch:=omega) only [go_sem, List.getElem?_map, hx, Option.map_some, hc, e2])); try rfl)
                  · first|rfl|(conv=>lhs;simp only [go_sem, List.getElem?_map, hx, Option.map_some, hc, e2])))|exact Sub.refl _|omega)
          refine ⟨hlt1, trivial, Wk.list [1000000, 1000001, 1000002, 1000003, 1000004, 2000049] rfl rfl ?_⟩
          repeat' (first|(conv in hold _=>simp (disch:=omega) only [go_sem, hc, e2])|exact trivial|exact Sub.refl _|omega)
          rw [hmt, hnx, List.map_append, List.map_cons, List.map_nil, pD_eq x]
          rfl
        · have e3 : p.ks.take p.ks.length = p.ks := List.take_length
          have e4 : (p.ks.map pD).take p.ks.length = p.ks.map pD := take_all pD p.ks
          repeat' (first|with_reducible refine acc_none ?_ | (conv in hold _=>simp (disch:=omega) only [go_sem, e3, hc, e2])|refine Stp.go ?_|(with_reducible first|refine it_pos rfl ?_|refine it_neg (by decide) ?_|refine st_nil rfl ?_|refine s_op ?_ ?_|exact trivial)|((with_reducible first|refine dw_reg0 ?_|refine dw_regB ?_);(conv=>arg 3;whnf))|(refine Spl.go (fun hq he=>?_) (fun hq he=>?_)<;>first|(exfalso;clear hq;omega)|((try first|(conv=>arg 8;simp only [hq])|(conv=>arg 4;simp only [hq]));clear hq))|((with_reducible first|refine c_split (fun hq=>?_) (fun hq=>?_)|refine q_split (fun hq=>?_) (fun hq=>?_))<;>(try first|(conv=>arg 8;simp only [hq])|(conv=>arg 4;simp only [hq])))|exact Sub.refl _|omega)
          refine fin_wk (wk_frzO 1000001 1000003 (by decide) (by decide) rfl (by decide) rfl ?_) ?_
          rotate_left
          (conv in hold _=>simp (disch:=omega) only [go_sem, e2, hc, e4])
          refine fin_wk (wk_frzO 1000001 1000004 (by decide) (by decide) rfl (by decide) rfl ?_) ?_
          rotate_left
          (conv in hold _=>simp (disch:=omega) only [go_sem, e2, hc, e4])
          refine fin_wk (wk_frzO 1000001 1000005 (by decide) (by decide) rfl (by decide) rfl ?_) ?_
          rotate_left
          (conv in hold _=>simp (disch:=omega) only [go_sem, e2, hc, e4])
          all_goals first
            | exact ints_pur _
            | exact exprs_pur _
            | exact plans_pur _
            | skip
          refine fin_L [] ?_ ?_ rfl ?_
          repeat' (first|(conv in hold _=>simp (disch:=omega) only [go_sem])|exact trivial|exact Sub.refl _|omega)
theorem plS {k t : Int} {es : List E} {cs : List Int} {ks : List Pl} {des dcs dks : D} (h1 : Sub des (.sl 5 (es.map eD))) (h2 : Sub dcs (.sl 1 (cs.map I))) (h3 : Sub dks (.sl 5 (ks.map pD))) : Sub (.agg [I k, I t, des, dcs, dks]) (pD (.mk k t es cs ks)) := by
  rw [pD_eq]
  exact Sub.agg ⟨Sub.refl _, Sub.refl _, h1, h2, h3, trivial⟩
theorem filterOf_ok (e : E) (x : Pl) : Does Try.prog 97 [] [eD e, pD x] (pD (.mk 2 0 [e] [] [x])) [] := by
  refine does0 c_spec_filterOf mixed (Nat.le_of_ble_eq_true rfl) ?_
  conv => arg 3; whnf
  repeat' (first|with_reducible refine acc_none ?_ | (conv in hold _=>simp (disch:=omega) only [go_sem])|refine Stp.go ?_|(with_reducible first|refine it_pos rfl ?_|refine it_neg (by decide) ?_|refine st_nil rfl ?_|refine s_op ?_ ?_|exact trivial)|((with_reducible first|refine dw_reg0 ?_|refine dw_regB ?_);(conv=>arg 3;whnf))|(refine Spl.go (fun hq he=>?_) (fun hq he=>?_)<;>first|(exfalso;clear hq;omega)|((try first|(conv=>arg 8;simp only [hq])|(conv=>arg 4;simp only [hq]));clear hq))|((with_reducible first|refine c_split (fun hq=>?_) (fun hq=>?_)|refine q_split (fun hq=>?_) (fun hq=>?_))<;>(try first|(conv=>arg 8;simp only [hq])|(conv=>arg 4;simp only [hq])))|(with_reducible refine fin_0 ?_ (by first|rfl|(conv=>lhs;simp only [go_sem])) ?_)|exact Sub.refl _|omega)
  have h : Sub (.agg [I 2, I 0, .sl 5 [eD e], .nul, .sl 5 [pD x]]) (pD (.mk 2 0 [e] [] [x])) := plS (Sub.refl _) (Sub.nul 1) (Sub.refl _)
  simp only [go_sem] at h
  exact h
end Go.Proofs.Ytpfedjaedlfdfaa

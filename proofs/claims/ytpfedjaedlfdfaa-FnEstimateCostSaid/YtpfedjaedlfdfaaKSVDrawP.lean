/-
  The model's statistics of a table, and drawn statistics. No condition.
-/
import Derived.Test.YtpfedjaedlfdfaaKSDca
import Derived.Test.YtpfedjaedlfdfaaKSDcd
import Derived.Test.YtpfedjaedlfdfaaKSVDrawS
import Derived.Test.YtpfedjaedlfdfaaKSVLend
set_option maxHeartbeats 4000000
set_option maxRecDepth 100000
set_option linter.unusedVariables false
set_option linter.unusedSimpArgs false
namespace Go.Proofs.Ytpfedjaedlfdfaa
open Go.RowKit
/-- How often a row occurs. -/
def cnt1 (r : List V) (l : List (List V)) : Nat := (l.filter fun x => cmpR x r == 0).length
theorem cnt1_next {r : List V} {l : List (List V)} {i : Nat} {x : List V} (h : l[i]? = some x) : cnt1 r (l.take (i + 1)) = cnt1 r (l.take i) + if cmpR x r = 0 then 1 else 0 := by
  unfold cnt1
  rw [List.take_add_one, h, Option.toList_some, List.filter_append, List.length_append]
  by_cases h0 : cmpR x r = 0 <;> simp [h0]
theorem cnt1_len (r : List V) (l : List (List V)) : cnt1 r l ≤ l.length := List.length_filter_le ..
theorem countRow_own (rs : List (List V)) (r : List V) (hr : r.length ≤ 100) (hl : rs.length ≤ 1000) (hw : ∀ x, x ∈ rs → x.length ≤ 100) : Does Try.prog 89 [.row 1 (rs.map rowD)] [.own 1000000 1 rs.length, rowD r] (I (cnt1 r rs)) [.row 1 (rs.map rowD)] := by
  refine does c_spec_countRow mixed (Nat.le_of_ble_eq_true rfl) 1 rfl ?_
  conv => arg 3; whnf
  repeat' (first|with_reducible refine acc_none ?_ | (conv in hold _=>simp (disch:=omega) only [go_sem])|refine Stp.go ?_|(with_reducible first|refine it_pos rfl ?_|refine it_neg (by decide) ?_|refine st_nil rfl ?_|refine s_op ?_ ?_|exact trivial)|((with_reducible first|refine dw_reg0 ?_|refine dw_regB ?_);(conv=>arg 3;whnf))|(refine Spl.go (fun hq he=>?_) (fun hq he=>?_)<;>first|(exfalso;clear hq;omega)|((try first|(conv=>arg 8;simp only [hq])|(conv=>arg 4;simp only [hq]));clear hq))|((with_reducible first|refine c_split (fun hq=>?_) (fun hq=>?_)|refine q_split (fun hq=>?_) (fun hq=>?_))<;>(try first|(conv=>arg 8;simp only [hq])|(conv=>arg 4;simp only [hq])))|(with_reducible refine fin_0 ?_ (by first|rfl|(conv=>lhs;simp only [go_sem])) ?_)|exact Sub.refl _|omega)
  refine dw_for (c := 1) (l := fun i => [(0, .own 1000000 1 rs.length), (1, rowD r), (5, I (cnt1 r (rs.take i))), (6, I i), (1000000, .row 1 (rs.map rowD))]) rs.length (fun _ => True) 0 trivial (Wk.list [1000000] rfl rfl ?_) (fun i hi _ => ?_) (Nat.zero_le _)
  · repeat' (first|(conv in hold _=>simp (disch:=omega) only [go_sem])|exact trivial|exact Sub.refl _|omega)
    exact ⟨rfl, rfl⟩
  · have hc := cnt1_len r (rs.take i)
    rw [List.length_take] at hc
    rcases at_or_end hi with ⟨x, hx, hlt⟩ | rfl
    · have hxl := hw x (List.mem_of_getElem? hx)
      have hcr := compareRows_spec x r (by omega) (by omega)
      have hn := cnt1_next (r := r) hx
      by_cases h0 : cmpR x r = 0
      · rw [if_pos h0] at hn
        rw [h0] at hcr
        repeat' (first
          | with_reducible refine acc_none ?_ | (conv in hold _=>simp (disch:=omega) only [go_sem, List.getElem?_map, hx, Option.map_some])|refine Stp.go ?_|(with_reducible first|refine it_pos rfl ?_|refine it_neg (by decide) ?_|refine st_nil rfl ?_|refine s_op ?_ ?_|exact trivial)|((with_reducible first|refine dw_reg0 ?_|refine dw_regB ?_);(conv=>arg 3;whnf))|(refine Spl.go (fun hq he=>?_) (fun hq he=>?_)<;>first|(exfalso;clear hq;omega)|((try first|(conv=>arg 8;simp only [hq])|(conv=>arg 4;simp only [hq]));clear hq))|((with_reducible first|refine c_split (fun hq=>?_) (fun hq=>?_)|refine q_split (fun hq=>?_) (fun hq=>?_))<;>(try first|(conv=>arg 8;simp only [hq])|(conv=>arg 4;simp only [hq])))|(with_reducible refine fin_0 ?_ (by first|rfl|(conv=>lhs;simp only [go_sem, List.getElem?_map, hx, Option.map_some])) ?_)
          | (with_reducible show evC _ _ _ _ _ _ _ _ _ _ _ _
             first
             | (refine c_doesE (hcr) ?_ ?_ ?_
                · ((try (conv=>rhs;simp (disch:=omega) only [go_sem, List.getElem?_map, hx, Option.map_some])); try rfl)
                · first|rfl|(conv=>lhs;simp only [go_sem, List.getElem?_map, hx, Option.map_some])))|exact Sub.refl _|omega)
        refine ⟨hlt, trivial, Wk.list [1000000] rfl rfl ?_⟩
        repeat' (first|(conv in hold _=>simp (disch:=omega) only [go_sem, hn])|exact trivial|exact Sub.refl _|omega)
      · rw [if_neg h0] at hn
        repeat' (first
          | with_reducible refine acc_none ?_ | (conv in hold _=>simp (disch:=omega) only [go_sem, List.getElem?_map, hx, Option.map_some])|refine Stp.go ?_|(with_reducible first|refine it_pos rfl ?_|refine it_neg (by decide) ?_|refine st_nil rfl ?_|refine s_op ?_ ?_|exact trivial)|((with_reducible first|refine dw_reg0 ?_|refine dw_regB ?_);(conv=>arg 3;whnf))|(refine Spl.go (fun hq he=>?_) (fun hq he=>?_)<;>first|(exfalso;clear hq;omega)|((try first|(conv=>arg 8;simp only [hq])|(conv=>arg 4;simp only [hq]));clear hq))|((with_reducible first|refine c_split (fun hq=>?_) (fun hq=>?_)|refine q_split (fun hq=>?_) (fun hq=>?_))<;>(try first|(conv=>arg 8;simp only [hq])|(conv=>arg 4;simp only [hq])))|(with_reducible refine fin_0 ?_ (by first|rfl|(conv=>lhs;simp only [go_sem, List.getElem?_map, hx, Option.map_some])) ?_)
          | (with_reducible show evC _ _ _ _ _ _ _ _ _ _ _ _
             first
             | (refine c_doesE (hcr) ?_ ?_ ?_
                · ((try (conv=>rhs;simp (disch:=omega) only [go_sem, List.getElem?_map, hx, Option.map_some])); try rfl)
                · first|rfl|(conv=>lhs;simp only [go_sem, List.getElem?_map, hx, Option.map_some])))|exact Sub.refl _|omega)
        refine ⟨hlt, trivial, Wk.list [1000000] rfl rfl ?_⟩
        repeat' (first|(conv in hold _=>simp (disch:=omega) only [go_sem, hn])|exact trivial|exact Sub.refl _|omega)
    · have e1 : rs.take rs.length = rs := List.take_of_length_le (Nat.le_refl _)
      rw [← e1]
      repeat' (first|with_reducible refine acc_none ?_ | (conv in hold _=>simp (disch:=omega) only [go_sem])|refine Stp.go ?_|(with_reducible first|refine it_pos rfl ?_|refine it_neg (by decide) ?_|refine st_nil rfl ?_|refine s_op ?_ ?_|exact trivial)|((with_reducible first|refine dw_reg0 ?_|refine dw_regB ?_);(conv=>arg 3;whnf))|(refine Spl.go (fun hq he=>?_) (fun hq he=>?_)<;>first|(exfalso;clear hq;omega)|((try first|(conv=>arg 8;simp only [hq])|(conv=>arg 4;simp only [hq]));clear hq))|((with_reducible first|refine c_split (fun hq=>?_) (fun hq=>?_)|refine q_split (fun hq=>?_) (fun hq=>?_))<;>(try first|(conv=>arg 8;simp only [hq])|(conv=>arg 4;simp only [hq])))|(with_reducible refine fin_0 ?_ (by first|rfl|(conv=>lhs;simp only [go_sem])) ?_)|exact Sub.refl _|omega)
      refine fin_L [1000000] ?_ ?_ rfl ?_
      repeat' (first|(conv in hold _=>simp (disch:=omega) only [go_sem, e1])|exact trivial|exact Sub.refl _|omega)
def one1 (v : V) : List V := [v]
/-- The nulls and the values of a column so far. -/
def stC (c : Nat) (s : Nat × List V) (r : List V) : Nat × List V := if (r.getD c ⟨false, 0⟩).b = true then (s.1 + 1, s.2) else if cnt1 [r.getD c ⟨false, 0⟩] (s.2.map one1) = 0 then (s.1, s.2 ++ [r.getD c ⟨false, 0⟩]) else s
def itC (c : Nat) (l : List (List V)) : Nat × List V := l.foldl (stC c) (0, [])
theorem itC_next {c : Nat} {l : List (List V)} {i : Nat} {r : List V} (h : l[i]? = some r) : itC c (l.take (i + 1)) = stC c (itC c (l.take i)) r := by
  unfold itC
  rw [List.take_add_one, h, Option.toList_some, List.foldl_append]
  rfl
theorem itC_len (c : Nat) (l : List (List V)) : ∀ i, i ≤ l.length → (itC c (l.take i)).1 ≤ i ∧ (itC c (l.take i)).2.length ≤ i
  | 0, _ => by rw [List.take_zero]; exact ⟨Nat.le_refl _, Nat.le_refl _⟩
  | i + 1, h => by
    obtain ⟨h1, h2⟩ := itC_len c l i (by omega)
    rw [itC_next (List.getElem?_eq_getElem (by omega : i < l.length))]
    unfold stC
    split
    · exact ⟨by show _ + 1 ≤ _; omega, by show (itC c (l.take i)).2.length ≤ _; omega⟩
    · split
      · refine ⟨by show (itC c (l.take i)).1 ≤ _; omega, ?_⟩
        show ((itC c (l.take i)).2 ++ [_]).length ≤ _
        rw [List.length_append, List.length_singleton]
        omega
      · exact ⟨by omega, by omega⟩
def dsT (w : Nat) (l : List (List V)) : List Int := (List.range w).map fun c => ((itC c l).2.length : Int)
def nsT (w : Nat) (l : List (List V)) : List Int := (List.range w).map fun c => ((itC c l).1 : Int)
theorem dsT_at {w c : Nat} (l : List (List V)) (h : c < w) : (dsT w l)[c]? = some ((itC c l).2.length : Int) := by
  unfold dsT
  rw [List.getElem?_map, List.getElem?_range h]
  rfl
theorem nsT_at {w c : Nat} (l : List (List V)) (h : c < w) : (nsT w l)[c]? = some ((itC c l).1 : Int) := by
  unfold nsT
  rw [List.getElem?_map, List.getElem?_range h]
  rfl
theorem dsT_len (w : Nat) (l : List (List V)) : (dsT w l).length = w := by unfold dsT; rw [List.length_map, List.length_range]
theorem nsT_len (w : Nat) (l : List (List V)) : (nsT w l).length = w := by unfold nsT; rw [List.length_map, List.length_range]
theorem vD_val (v : V) : vD v = .agg [Bo v.b, I v.n] := rfl
theorem statsOf_own (w : Nat) (rs : List (List V)) (hw : w < 1000) (hl : rs.length ≤ 400) (hs : RsW w rs) : Does Try.prog 65 [] [taD ⟨w, rs⟩] (.agg [I rs.length, .own 1000000 1 w, .own 1000001 1 w]) [.row 1 ((dsT w rs).map I), .row 1 ((nsT w rs).map I)] := by
  have hdl := dsT_len w rs
  have hnl := nsT_len w rs
  refine does c_spec_statsOf mixed (Nat.le_of_ble_eq_true rfl) 0 rfl ?_
  conv => arg 3; whnf
  repeat' (first|with_reducible refine acc_none ?_ | (conv in hold _=>simp (disch:=omega) only [go_sem])|refine Stp.go ?_|(with_reducible first|refine it_pos rfl ?_|refine it_neg (by decide) ?_|refine st_nil rfl ?_|refine s_op ?_ ?_|exact trivial)|((with_reducible first|refine dw_reg0 ?_|refine dw_regB ?_);(conv=>arg 3;whnf))|(refine Spl.go (fun hq he=>?_) (fun hq he=>?_)<;>first|(exfalso;clear hq;omega)|((try first|(conv=>arg 8;simp only [hq])|(conv=>arg 4;simp only [hq]));clear hq))|((with_reducible first|refine c_split (fun hq=>?_) (fun hq=>?_)|refine q_split (fun hq=>?_) (fun hq=>?_))<;>(try first|(conv=>arg 8;simp only [hq])|(conv=>arg 4;simp only [hq])))|(with_reducible refine fin_0 ?_ (by first|rfl|(conv=>lhs;simp only [go_sem])) ?_)|exact Sub.refl _|omega)
  refine dw_for (c := 5) (l := fun c => [(1, .ref 1000000 0), (2, .ref 1000001 0), (3, .ref 1000002 0), (4, I c), (1000000, .obj [I w, rowsD rs]), (1000001, .obj [I 0, .nul, .nul]), (1000002, .obj [I rs.length, .own 1000003 1 c, .own 1000004 1 c]), (1000003, .row 1 (((dsT w rs).take c).map I)), (1000004, .row 1 (((nsT w rs).take c).map I))]) w (fun _ => True) 0 trivial ((wk_rowO 2000003 2000098 1 1 (by decide) (by decide) (by decide) rfl rfl rfl).trans ((wk_rowO 2000003 2000099 1 2 (by decide) (by decide) (by decide) rfl rfl rfl).trans (Wk.list [2000001, 2000002, 2000003, 2000098, 2000099] rfl rfl ?_))) (fun c hc _ => ?_) (Nat.zero_le _)
  · repeat' (first|(conv in hold _=>simp (disch:=omega) only [go_sem])|exact trivial|exact Sub.refl _|omega)
    exact rfl
  · have hdt := take_map I (vs := dsT w rs) (i := c) (by omega)
    have hnt := take_map I (vs := nsT w rs) (i := c) (by omega)
    have hdm := take_len (vs := dsT w rs) (i := c) (by omega)
    have hnm := take_len (vs := nsT w rs) (i := c) (by omega)
    by_cases hcw : c < w
    · repeat' (first|with_reducible refine acc_none ?_ | (conv in hold _=>simp (disch:=omega) only [go_sem])|refine Stp.go ?_|(with_reducible first|refine it_pos rfl ?_|refine it_neg (by decide) ?_|refine st_nil rfl ?_|refine s_op ?_ ?_|exact trivial)|((with_reducible first|refine dw_reg0 ?_|refine dw_regB ?_);(conv=>arg 3;whnf))|(refine Spl.go (fun hq he=>?_) (fun hq he=>?_)<;>first|(exfalso;clear hq;omega)|((try first|(conv=>arg 8;simp only [hq])|(conv=>arg 4;simp only [hq]));clear hq))|((with_reducible first|refine c_split (fun hq=>?_) (fun hq=>?_)|refine q_split (fun hq=>?_) (fun hq=>?_))<;>(try first|(conv=>arg 8;simp only [hq])|(conv=>arg 4;simp only [hq])))|(with_reducible refine fin_0 ?_ (by first|rfl|(conv=>lhs;simp only [go_sem])) ?_)|exact Sub.refl _|omega)
      refine dw_for (c := 6) (l := fun i => [(1, .ref 1000000 0), (2, .ref 1000001 0), (3, .ref 1000002 0), (4, I c), (5, .own 1000005 1 (itC c (rs.take i)).2.length), (6, I (itC c (rs.take i)).1), (7, I i), (1000000, .obj [I w, rowsD rs]), (1000001, .obj [I 0, .nul, .nul]), (1000002, .obj [I rs.length, .own 1000003 1 c, .own 1000004 1 c]), (1000003, .row 1 (((dsT w rs).take c).map I)), (1000004, .row 1 (((nsT w rs).take c).map I)), (1000005, .row 1 (((itC c (rs.take i)).2.map one1).map rowD))]) rs.length (fun _ => True) 0 trivial ((wk_row 5 2000097 1 (by decide) (by decide) rfl rfl).trans (Wk.list [1000000, 1000001, 1000002, 1000003, 1000004, 2000097] rfl rfl ?_)) (fun i hi _ => ?_) (Nat.zero_le _)
      · repeat' (first|(conv in hold _=>simp (disch:=omega) only [go_sem])|exact trivial|exact Sub.refl _|omega)
        exact ⟨rfl, rfl, rfl, rfl⟩
      · have hil := itC_len c rs i hi
        rcases at_or_end hi with ⟨r, hr, hlt⟩ | rfl
        · have hrw := hs r (List.mem_of_getElem? hr)
          have hnx := itC_next (c := c) hr
          obtain ⟨v, hv⟩ : ∃ v, r[c]? = some v := ⟨r[c], List.getElem?_eq_getElem (by omega)⟩
          have hg : r.getD c ⟨false, 0⟩ = v := by rw [List.getD_eq_getElem?_getD, hv]; rfl
          unfold stC at hnx
          rw [hg] at hnx
          generalize itC c (rs.take i) = s at hil hnx
          obtain ⟨m, vs⟩ := s
          simp only at hil hnx
          by_cases hb : v.b = true
          · rw [if_pos hb] at hnx
            repeat' (first|with_reducible refine acc_none ?_ | (conv in hold _=>simp (disch:=omega) only [go_sem, List.getElem?_map, hr, hv, Option.map_some, hb])|refine Stp.go ?_|(with_reducible first|refine it_pos rfl ?_|refine it_neg (by decide) ?_|refine st_nil rfl ?_|refine s_op ?_ ?_|exact trivial)|((with_reducible first|refine dw_reg0 ?_|refine dw_regB ?_);(conv=>arg 3;whnf))|(refine Spl.go (fun hq he=>?_) (fun hq he=>?_)<;>first|(exfalso;clear hq;omega)|((try first|(conv=>arg 8;simp only [hq])|(conv=>arg 4;simp only [hq]));clear hq))|((with_reducible first|refine c_split (fun hq=>?_) (fun hq=>?_)|refine q_split (fun hq=>?_) (fun hq=>?_))<;>(try first|(conv=>arg 8;simp only [hq])|(conv=>arg 4;simp only [hq])))|(with_reducible refine fin_0 ?_ (by first|rfl|(conv=>lhs;simp only [go_sem, List.getElem?_map, hr, hv, Option.map_some, hb])) ?_)|exact Sub.refl _|omega)
            refine ⟨hlt, trivial, Wk.list [1000000, 1000001, 1000002, 1000003, 1000004, 1000005] rfl rfl ?_⟩
            repeat' (first|(conv in hold _=>simp (disch:=omega) only [go_sem, hnx])|exact trivial|exact Sub.refl _|omega)
          · rw [if_neg hb] at hnx
            have hb' : v.b = false := by simpa using hb
            have hcr := countRow_own (vs.map one1) [v] (show (1 : Nat) ≤ 100 by omega) (by rw [List.length_map]; omega) (fun x hx => by
              obtain ⟨y, _, rfl⟩ := List.mem_map.1 hx
              exact (show (1 : Nat) ≤ 100 by omega))
            rw [List.length_map] at hcr
            have t1 := take_allL rowD (vs.map one1) (n := vs.length) (List.length_map ..).symm
            have t2 : vs.map one1 ++ [[v]] = (vs ++ [v]).map one1 := by rw [List.map_append]; rfl
            have t3 : (vs.map one1).map rowD ++ [D.sl 2 [vD v]] = ((vs ++ [v]).map one1).map rowD := by rw [← t2, List.map_append]; rfl
            by_cases h0 : cnt1 [v] (vs.map one1) = 0
            · rw [if_pos h0] at hnx
              rw [h0] at hcr
              repeat' (first
                | with_reducible refine acc_none ?_ | (conv in hold _=>simp (disch:=omega) only [go_sem, List.getElem?_map, hr, hv, Option.map_some, hb', t1])|refine Stp.go ?_|(with_reducible first|refine it_pos rfl ?_|refine it_neg (by decide) ?_|refine st_nil rfl ?_|refine s_op ?_ ?_|exact trivial)|((with_reducible first|refine dw_reg0 ?_|refine dw_regB ?_);(conv=>arg 3;whnf))|(refine Spl.go (fun hq he=>?_) (fun hq he=>?_)<;>first|(exfalso;clear hq;omega)|((try first|(conv=>arg 8;simp only [hq])|(conv=>arg 4;simp only [hq]));clear hq))|((with_reducible first|refine c_split (fun hq=>?_) (fun hq=>?_)|refine q_split (fun hq=>?_) (fun hq=>?_))<;>(try first|(conv=>arg 8;simp only [hq])|(conv=>arg 4;simp only [hq])))|(with_reducible refine fin_0 ?_ (by first|rfl|(conv=>lhs;simp only [go_sem, List.getElem?_map, hr, hv, Option.map_some, hb', t1])) ?_)
                | (with_reducible show evC _ _ _ _ _ _ _ _ _ _ _ _
                   first
                   | (refine c_doesR [1000005] (hcr) (callOK_of rfl (Nat.le_of_ble_eq_true rfl) rfl ?_ ?_) ?_ ?_
                      iterate 2 · repeat' (first|(conv in hold _=>simp (disch:=omega) only [go_sem, List.getElem?_map, hr, hv, Option.map_some, hb', t1])|exact trivial|exact Sub.refl _|omega)
                      · ((conv=>rhs;simp (disch:=omega) only [go_sem, List.getElem?_map, hr, hv, Option.map_some, hb', t1]); try rfl)))|exact Sub.refl _|omega)
              refine ⟨hlt, trivial, Wk.list [1000000, 1000001, 1000002, 1000003, 1000004, 2000048] rfl rfl ?_⟩
              repeat' (first|(conv in hold _=>simp (disch:=omega) only [go_sem, hnx])|exact trivial|exact Sub.refl _|omega)
              rw [← t3, vD_val, hb']
            · rw [if_neg h0] at hnx
              have hcl := cnt1_len [v] (vs.map one1)
              rw [List.length_map] at hcl
              generalize cnt1 [v] (vs.map one1) = k at hcr h0 hcl
              repeat' (first
                | with_reducible refine acc_none ?_ | (conv in hold _=>simp (disch:=omega) only [go_sem, List.getElem?_map, hr, hv, Option.map_some, hb'])|refine Stp.go ?_|(with_reducible first|refine it_pos rfl ?_|refine it_neg (by decide) ?_|refine st_nil rfl ?_|refine s_op ?_ ?_|exact trivial)|((with_reducible first|refine dw_reg0 ?_|refine dw_regB ?_);(conv=>arg 3;whnf))|(refine Spl.go (fun hq he=>?_) (fun hq he=>?_)<;>first|(exfalso;clear hq;omega)|((try first|(conv=>arg 8;simp only [hq])|(conv=>arg 4;simp only [hq]));clear hq))|((with_reducible first|refine c_split (fun hq=>?_) (fun hq=>?_)|refine q_split (fun hq=>?_) (fun hq=>?_))<;>(try first|(conv=>arg 8;simp only [hq])|(conv=>arg 4;simp only [hq])))|(with_reducible refine fin_0 ?_ (by first|rfl|(conv=>lhs;simp only [go_sem, List.getElem?_map, hr, hv, Option.map_some, hb'])) ?_)
                | (with_reducible show evC _ _ _ _ _ _ _ _ _ _ _ _
                   first
                   | (refine c_doesR [1000005] (hcr) (callOK_of rfl (Nat.le_of_ble_eq_true rfl) rfl ?_ ?_) ?_ ?_
                      iterate 2 · repeat' (first|(conv in hold _=>simp (disch:=omega) only [go_sem, List.getElem?_map, hr, hv, Option.map_some, hb'])|exact trivial|exact Sub.refl _|omega)
                      · ((conv=>rhs;simp (disch:=omega) only [go_sem, List.getElem?_map, hr, hv, Option.map_some, hb']); try rfl)))|exact Sub.refl _|omega)
              refine ⟨hlt, trivial, Wk.list [1000000, 1000001, 1000002, 1000003, 1000004, 1000005] rfl rfl ?_⟩
              repeat' (first|(conv in hold _=>simp (disch:=omega) only [go_sem, hnx])|exact trivial|exact Sub.refl _|omega)
        · have e1 : rs.take rs.length = rs := List.take_of_length_le (Nat.le_refl _)
          have d1 := take_next (dsT_at rs hcw)
          have d2 := take_next (nsT_at rs hcw)
          repeat' (first|with_reducible refine acc_none ?_ | (conv in hold _=>simp (disch:=omega) only [go_sem, e1, hdt, hnt, hdm, hnm, List.length_map])|refine Stp.go ?_|(with_reducible first|refine it_pos rfl ?_|refine it_neg (by decide) ?_|refine st_nil rfl ?_|refine s_op ?_ ?_|exact trivial)|((with_reducible first|refine dw_reg0 ?_|refine dw_regB ?_);(conv=>arg 3;whnf))|(refine Spl.go (fun hq he=>?_) (fun hq he=>?_)<;>first|(exfalso;clear hq;omega)|((try first|(conv=>arg 8;simp only [hq])|(conv=>arg 4;simp only [hq]));clear hq))|((with_reducible first|refine c_split (fun hq=>?_) (fun hq=>?_)|refine q_split (fun hq=>?_) (fun hq=>?_))<;>(try first|(conv=>arg 8;simp only [hq])|(conv=>arg 4;simp only [hq])))|(with_reducible refine fin_0 ?_ (by first|rfl|(conv=>lhs;simp only [go_sem, e1, hdt, hnt, hdm, hnm, List.length_map])) ?_)|exact Sub.refl _|omega)
          refine ⟨by omega, trivial, Wk.list [1000000, 1000001, 1000002, 2000054, 2000060] rfl rfl ?_⟩
          repeat' (first|(conv in hold _=>simp (disch:=omega) only [go_sem, hdt, hnt, hdm, hnm, List.length_map, e1])|exact trivial|exact Sub.refl _|omega)
          rw [d1, d2, List.map_append, List.map_append]
          exact ⟨rfl, rfl⟩
    · obtain rfl : c = w := by omega
      have e1 : (dsT c rs).take c = dsT c rs := List.take_of_length_le (by omega)
      have e2 : (nsT c rs).take c = nsT c rs := List.take_of_length_le (by omega)
      repeat' (first|with_reducible refine acc_none ?_ | (conv in hold _=>simp (disch:=omega) only [go_sem])|refine Stp.go ?_|(with_reducible first|refine it_pos rfl ?_|refine it_neg (by decide) ?_|refine st_nil rfl ?_|refine s_op ?_ ?_|exact trivial)|((with_reducible first|refine dw_reg0 ?_|refine dw_regB ?_);(conv=>arg 3;whnf))|(refine Spl.go (fun hq he=>?_) (fun hq he=>?_)<;>first|(exfalso;clear hq;omega)|((try first|(conv=>arg 8;simp only [hq])|(conv=>arg 4;simp only [hq]));clear hq))|((with_reducible first|refine c_split (fun hq=>?_) (fun hq=>?_)|refine q_split (fun hq=>?_) (fun hq=>?_))<;>(try first|(conv=>arg 8;simp only [hq])|(conv=>arg 4;simp only [hq])))|(with_reducible refine fin_0 ?_ (by first|rfl|(conv=>lhs;simp only [go_sem])) ?_)|exact Sub.refl _|omega)
      refine fin_L [1000003, 1000004] ?_ ?_ rfl ?_
      repeat' (first|(conv in hold _=>simp (disch:=omega) only [go_sem, e1, e2])|exact trivial|exact Sub.refl _|omega)
end Go.Proofs.Ytpfedjaedlfdfaa

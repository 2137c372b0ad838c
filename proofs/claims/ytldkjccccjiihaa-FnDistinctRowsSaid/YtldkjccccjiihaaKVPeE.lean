/-
  Distinct rows and unions of the model. No condition.
-/
import Derived.Test.YtldkjccccjiihaaDca
import Derived.Test.YtldkjccccjiihaaDcb
import Derived.Test.YtldkjccccjiihaaKVPeC
set_option maxHeartbeats 4000000
set_option maxRecDepth 100000
set_option linter.unusedVariables false
set_option linter.unusedSimpArgs false
namespace Go.Proofs.Ytldkjccccjiihaa
open Go.RowKit

/-- Each of rows next to each other once. -/
def dstP (rs : List (List V)) (i : Nat) : Bool := match i with
  | 0 => true
  | j + 1 => !(cmpR (rs.getD j []) (rs.getD (j + 1) []) == 0)
def dstL (rs : List (List V)) : Nat → List (List V)
  | 0 => []
  | i + 1 => dstL rs i ++ (if dstP rs i = true then [rs.getD i []] else [])
theorem dstL_sub (rs : List (List V)) : ∀ i, i ≤ rs.length → (dstL rs i).Sublist (rs.take i)
  | 0, _ => List.Sublist.refl _
  | i + 1, hi => by
    obtain ⟨x, hx⟩ : ∃ x, rs[i]? = some x := ⟨_, List.getElem?_eq_getElem (by omega)⟩
    rw [take_next hx, dstL]
    refine (dstL_sub rs i (by omega)).append ?_
    split
    · rw [List.getD_eq_getElem?_getD, hx]
      exact List.Sublist.refl _
    · exact List.nil_sublist _
theorem distinctRows_ok {w : Nat} (hw : w < 1000) (rs : List (List V)) (hl : rs.length ≤ 400) (hs : RsW w rs) : Does Try.prog 27 [] [taD ⟨w, rs⟩] (taD ⟨w, dstL rs rs.length⟩) [] := by
  have hcap : ∀ i, i ≤ rs.length → (dstL rs i).length ≤ i := fun i hi => by
    have := (dstL_sub rs i hi).length_le
    rw [List.length_take] at this
    omega
  have htk : ((dstL rs rs.length).map rowD).take (dstL rs rs.length).length = (dstL rs rs.length).map rowD := take_all rowD _
  have hres : taD ⟨w, dstL rs rs.length⟩ = .agg [I w, rowsD (dstL rs rs.length)] := rfl
  rw [hres]
  refine does0 c_spec_distinctRows mixed (Nat.le_of_ble_eq_true rfl) ?_
  conv => arg 3; whnf
  repeat' (first | with_reducible refine acc_none ?_ | (conv in hold _ => simp (disch := omega) only [go_sem]) | refine Stp.go ?_ | (with_reducible first | refine it_pos rfl ?_ | refine it_neg (by decide) ?_ | refine st_nil rfl ?_ | refine s_op ?_ ?_ | exact True.intro) | ((with_reducible first | refine dw_reg0 ?_ | refine dw_regB ?_); (conv => arg 3; whnf)) | (refine Spl.go (fun hq he => ?_) (fun hq he => ?_) <;> first | (exfalso; clear hq; omega) | ((try (first | (conv => arg 8; simp only [hq]) | (conv => arg 4; simp only [hq]))); clear hq)) | ((with_reducible first | refine c_split (fun hq => ?_) (fun hq => ?_) | refine q_split (fun hq => ?_) (fun hq => ?_)) <;> (try (first | (conv => arg 8; simp only [hq]) | (conv => arg 4; simp only [hq])))) | (with_reducible refine fin_0 ?_ (by first | rfl | (conv => lhs; simp only [go_sem])) ?_) | exact Sub.refl _ | omega)
  refine dw_for (c := 4) (l := fun i => [(1, .ref 1000000 0), (2, .ref 1000001 0), (3, .ref 1000002 0), (4, I i), (1000000, .obj [I w, rowsD rs]), (1000001, .obj [I 0, .nul]), (1000002, .obj [I w, .own 1000003 1 (dstL rs i).length]), (1000003, .row 1 ((dstL rs i).map rowD))]) rs.length (fun _ => True) 0 trivial ((wk_rowO 2000003 2000090 1 1 (by decide) (by decide) (by decide) rfl rfl rfl).trans (Wk.list [2000001, 2000002, 2000003, 2000090] rfl rfl ?_)) (fun i hi _ => ?_) (Nat.zero_le _)
  · repeat' (first | (conv in hold _ => simp (disch := omega) only [go_sem]) | exact True.intro | exact Sub.refl _ | omega)
    first | exact rfl | exact ⟨rfl, rfl⟩ | exact ⟨rfl, rfl, rfl⟩
  · have hcp := hcap i hi
    have htm : ((dstL rs i).map rowD).take (dstL rs i).length = (dstL rs i).map rowD := take_all rowD _
    rcases at_or_end hi with ⟨x, hx, hlt⟩ | rfl
    · have hxr := hs x (List.mem_of_getElem? hx)
      have hcp2 := copyRow_ok x (by omega)
      have hgx : rs.getD i [] = x := by rw [List.getD_eq_getElem?_getD, hx]; rfl
      have hnx : dstL rs (i + 1) = dstL rs i ++ (if dstP rs i = true then [x] else []) := by rw [dstL, hgx]
      generalize dstL rs i = Q at hcp htm hnx
      by_cases hi0 : i = 0
      · subst hi0
        have hnx : dstL rs (0 + 1) = Q ++ [x] := hnx
        repeat' (first | with_reducible refine acc_none ?_ | (conv in hold _ => simp (disch := omega) only [go_sem, List.getElem?_map, hx, Option.map_some]) | refine Stp.go ?_ | (with_reducible first | refine it_pos rfl ?_ | refine it_neg (by decide) ?_ | refine st_nil rfl ?_ | refine s_op ?_ ?_ | exact True.intro) | ((with_reducible first | refine dw_reg0 ?_ | refine dw_regB ?_); (conv => arg 3; whnf)) | (refine Spl.go (fun hq he => ?_) (fun hq he => ?_) <;> first | (exfalso; clear hq; omega) | ((try (first | (conv => arg 8; simp only [hq]) | (conv => arg 4; simp only [hq]))); clear hq)) | ((with_reducible first | refine c_split (fun hq => ?_) (fun hq => ?_) | refine q_split (fun hq => ?_) (fun hq => ?_)) <;> (try (first | (conv => arg 8; simp only [hq]) | (conv => arg 4; simp only [hq])))) | (with_reducible refine fin_0 ?_ (by first | rfl | (conv => lhs; simp only [go_sem, List.getElem?_map, hx, Option.map_some])) ?_) | exact Sub.refl _ | omega)
        refine c_doesE (hcp2) ?_ ?_ ?_
        · ((try (conv => rhs; simp (disch := omega) only [go_sem, List.getElem?_map, hx, Option.map_some, htm])); try rfl)
        · first | rfl | (conv => lhs; simp only [go_sem, List.getElem?_map, hx, Option.map_some, htm])
        repeat' (first | with_reducible refine acc_none ?_ | (conv in hold _ => simp (disch := omega) only [go_sem, List.getElem?_map, hx, Option.map_some, htm]) | refine Stp.go ?_ | (with_reducible first | refine it_pos rfl ?_ | refine it_neg (by decide) ?_ | refine st_nil rfl ?_ | refine s_op ?_ ?_ | exact True.intro) | ((with_reducible first | refine dw_reg0 ?_ | refine dw_regB ?_); (conv => arg 3; whnf)) | (refine Spl.go (fun hq he => ?_) (fun hq he => ?_) <;> first | (exfalso; clear hq; omega) | ((try (first | (conv => arg 8; simp only [hq]) | (conv => arg 4; simp only [hq]))); clear hq)) | ((with_reducible first | refine c_split (fun hq => ?_) (fun hq => ?_) | refine q_split (fun hq => ?_) (fun hq => ?_)) <;> (try (first | (conv => arg 8; simp only [hq]) | (conv => arg 4; simp only [hq])))) | (with_reducible refine fin_0 ?_ (by first | rfl | (conv => lhs; simp only [go_sem, List.getElem?_map, hx, Option.map_some, htm])) ?_) | exact Sub.refl _ | omega)
        refine ⟨hlt, trivial, Wk.list [1000000, 1000001, 1000002, 2000041] rfl rfl ?_⟩
        repeat' (first | (conv in hold _ => simp (disch := omega) only [go_sem, hnx, htm]) | exact True.intro | exact Sub.refl _ | omega)
        rw [List.map_append]
        rfl
      · obtain ⟨j, hj⟩ : ∃ j, i = j + 1 := ⟨i - 1, by omega⟩
        obtain ⟨y, hy⟩ : ∃ y, rs[j]? = some y := ⟨_, List.getElem?_eq_getElem (by omega)⟩
        have hyr := hs y (List.mem_of_getElem? hy)
        have hcr := compareRows_spec y x (by omega) (by omega)
        have hgy : rs.getD j [] = y := by rw [List.getD_eq_getElem?_getD, hy]; rfl
        have hp : dstP rs i = !(cmpR y x == 0) := by
          rw [hj] at hgx ⊢
          rw [dstP, hgy, hgx]
        have hj0 : ((i : Int) == 0) = false := beq_eq_false_iff_ne.2 (by omega)
        have hj1 : ((i : Int) - 1) = (j : Int) := by omega
        rw [hp] at hnx
        by_cases hc : cmpR y x = 0
        · rw [hc] at hcr hnx
          have hnx : dstL rs (i + 1) = Q := by rw [hnx]; exact List.append_nil Q
          repeat' (first | with_reducible refine acc_none ?_ | (conv in hold _ => simp (disch := omega) only [go_sem, List.getElem?_map, hx, hy, Option.map_some, hj0, hj1]) | refine Stp.go ?_ | (with_reducible first | refine it_pos rfl ?_ | refine it_neg (by decide) ?_ | refine st_nil rfl ?_ | refine s_op ?_ ?_ | exact True.intro) | ((with_reducible first | refine dw_reg0 ?_ | refine dw_regB ?_); (conv => arg 3; whnf)) | (refine Spl.go (fun hq he => ?_) (fun hq he => ?_) <;> first | (exfalso; clear hq; omega) | ((try (first | (conv => arg 8; simp only [hq]) | (conv => arg 4; simp only [hq]))); clear hq)) | ((with_reducible first | refine c_split (fun hq => ?_) (fun hq => ?_) | refine q_split (fun hq => ?_) (fun hq => ?_)) <;> (try (first | (conv => arg 8; simp only [hq]) | (conv => arg 4; simp only [hq])))) | (with_reducible refine fin_0 ?_ (by first | rfl | (conv => lhs; simp only [go_sem, List.getElem?_map, hx, hy, Option.map_some, hj0, hj1])) ?_) | exact Sub.refl _ | omega)
          refine c_doesE (hcr) ?_ ?_ ?_
          · ((try (conv => rhs; simp (disch := omega) only [go_sem, List.getElem?_map, hx, hy, Option.map_some])); try rfl)
          · first | rfl | (conv => lhs; simp only [go_sem, List.getElem?_map, hx, hy, Option.map_some])
          repeat' (first | with_reducible refine acc_none ?_ | (conv in hold _ => simp (disch := omega) only [go_sem, List.getElem?_map, hx, hy, Option.map_some]) | refine Stp.go ?_ | (with_reducible first | refine it_pos rfl ?_ | refine it_neg (by decide) ?_ | refine st_nil rfl ?_ | refine s_op ?_ ?_ | exact True.intro) | ((with_reducible first | refine dw_reg0 ?_ | refine dw_regB ?_); (conv => arg 3; whnf)) | (refine Spl.go (fun hq he => ?_) (fun hq he => ?_) <;> first | (exfalso; clear hq; omega) | ((try (first | (conv => arg 8; simp only [hq]) | (conv => arg 4; simp only [hq]))); clear hq)) | ((with_reducible first | refine c_split (fun hq => ?_) (fun hq => ?_) | refine q_split (fun hq => ?_) (fun hq => ?_)) <;> (try (first | (conv => arg 8; simp only [hq]) | (conv => arg 4; simp only [hq])))) | (with_reducible refine fin_0 ?_ (by first | rfl | (conv => lhs; simp only [go_sem, List.getElem?_map, hx, hy, Option.map_some])) ?_) | exact Sub.refl _ | omega)
          refine ⟨hlt, trivial, Wk.list [1000000, 1000001, 1000002, 1000003] rfl rfl ?_⟩
          repeat' (first | (conv in hold _ => simp (disch := omega) only [go_sem, hnx]) | exact True.intro | exact Sub.refl _ | omega)
        · have hc2 : (cmpR y x == 0) = false := beq_eq_false_iff_ne.2 hc
          have hc3 : (cmpR y x != 0) = true := by rw [bne_iff_ne]; exact hc
          rw [hc2] at hnx
          have hnx : dstL rs (i + 1) = Q ++ [x] := hnx
          repeat' (first | with_reducible refine acc_none ?_ | (conv in hold _ => simp (disch := omega) only [go_sem, List.getElem?_map, hx, hy, Option.map_some, hj0, hj1]) | refine Stp.go ?_ | (with_reducible first | refine it_pos rfl ?_ | refine it_neg (by decide) ?_ | refine st_nil rfl ?_ | refine s_op ?_ ?_ | exact True.intro) | ((with_reducible first | refine dw_reg0 ?_ | refine dw_regB ?_); (conv => arg 3; whnf)) | (refine Spl.go (fun hq he => ?_) (fun hq he => ?_) <;> first | (exfalso; clear hq; omega) | ((try (first | (conv => arg 8; simp only [hq]) | (conv => arg 4; simp only [hq]))); clear hq)) | ((with_reducible first | refine c_split (fun hq => ?_) (fun hq => ?_) | refine q_split (fun hq => ?_) (fun hq => ?_)) <;> (try (first | (conv => arg 8; simp only [hq]) | (conv => arg 4; simp only [hq])))) | (with_reducible refine fin_0 ?_ (by first | rfl | (conv => lhs; simp only [go_sem, List.getElem?_map, hx, hy, Option.map_some, hj0, hj1])) ?_) | exact Sub.refl _ | omega)
          refine c_doesE (hcr) ?_ ?_ ?_
          · ((try (conv => rhs; simp (disch := omega) only [go_sem, List.getElem?_map, hx, hy, Option.map_some, hc3])); try rfl)
          · first | rfl | (conv => lhs; simp only [go_sem, List.getElem?_map, hx, hy, Option.map_some, hc3])
          repeat' (first | with_reducible refine acc_none ?_ | (conv in hold _ => simp (disch := omega) only [go_sem, List.getElem?_map, hx, hy, Option.map_some, hc3]) | refine Stp.go ?_ | (with_reducible first | refine it_pos rfl ?_ | refine it_neg (by decide) ?_ | refine st_nil rfl ?_ | refine s_op ?_ ?_ | exact True.intro) | ((with_reducible first | refine dw_reg0 ?_ | refine dw_regB ?_); (conv => arg 3; whnf)) | (refine Spl.go (fun hq he => ?_) (fun hq he => ?_) <;> first | (exfalso; clear hq; omega) | ((try (first | (conv => arg 8; simp only [hq]) | (conv => arg 4; simp only [hq]))); clear hq)) | ((with_reducible first | refine c_split (fun hq => ?_) (fun hq => ?_) | refine q_split (fun hq => ?_) (fun hq => ?_)) <;> (try (first | (conv => arg 8; simp only [hq]) | (conv => arg 4; simp only [hq])))) | (with_reducible refine fin_0 ?_ (by first | rfl | (conv => lhs; simp only [go_sem, List.getElem?_map, hx, hy, Option.map_some, hc3])) ?_) | exact Sub.refl _ | omega)
          refine c_doesE (hcp2) ?_ ?_ ?_
          · ((try (conv => rhs; simp (disch := omega) only [go_sem, List.getElem?_map, hx, hy, Option.map_some, htm])); try rfl)
          · first | rfl | (conv => lhs; simp only [go_sem, List.getElem?_map, hx, hy, Option.map_some, htm])
          repeat' (first | with_reducible refine acc_none ?_ | (conv in hold _ => simp (disch := omega) only [go_sem, List.getElem?_map, hx, hy, Option.map_some, htm]) | refine Stp.go ?_ | (with_reducible first | refine it_pos rfl ?_ | refine it_neg (by decide) ?_ | refine st_nil rfl ?_ | refine s_op ?_ ?_ | exact True.intro) | ((with_reducible first | refine dw_reg0 ?_ | refine dw_regB ?_); (conv => arg 3; whnf)) | (refine Spl.go (fun hq he => ?_) (fun hq he => ?_) <;> first | (exfalso; clear hq; omega) | ((try (first | (conv => arg 8; simp only [hq]) | (conv => arg 4; simp only [hq]))); clear hq)) | ((with_reducible first | refine c_split (fun hq => ?_) (fun hq => ?_) | refine q_split (fun hq => ?_) (fun hq => ?_)) <;> (try (first | (conv => arg 8; simp only [hq]) | (conv => arg 4; simp only [hq])))) | (with_reducible refine fin_0 ?_ (by first | rfl | (conv => lhs; simp only [go_sem, List.getElem?_map, hx, hy, Option.map_some, htm])) ?_) | exact Sub.refl _ | omega)
          refine ⟨hlt, trivial, Wk.list [1000000, 1000001, 1000002, 2000041] rfl rfl ?_⟩
          repeat' (first | (conv in hold _ => simp (disch := omega) only [go_sem, hnx, htm]) | exact True.intro | exact Sub.refl _ | omega)
          rw [List.map_append]
          rfl
    · repeat' (first | with_reducible refine acc_none ?_ | (conv in hold _ => simp (disch := omega) only [go_sem]) | refine Stp.go ?_ | (with_reducible first | refine it_pos rfl ?_ | refine it_neg (by decide) ?_ | refine st_nil rfl ?_ | refine s_op ?_ ?_ | exact True.intro) | ((with_reducible first | refine dw_reg0 ?_ | refine dw_regB ?_); (conv => arg 3; whnf)) | (refine Spl.go (fun hq he => ?_) (fun hq he => ?_) <;> first | (exfalso; clear hq; omega) | ((try (first | (conv => arg 8; simp only [hq]) | (conv => arg 4; simp only [hq]))); clear hq)) | ((with_reducible first | refine c_split (fun hq => ?_) (fun hq => ?_) | refine q_split (fun hq => ?_) (fun hq => ?_)) <;> (try (first | (conv => arg 8; simp only [hq]) | (conv => arg 4; simp only [hq])))) | exact Sub.refl _ | omega)
      refine fin_wk (wk_frzO 1000001 1000003 (by decide) (by decide) rfl (by decide) rfl ?_) ?_
      rotate_left
      (conv in hold _ => simp (disch := omega) only [go_sem, htk, List.length_map, Nat.le_refl])
      · refine fin_L [] ?_ ?_ rfl ?_
        repeat' (first | (conv in hold _ => simp (disch := omega) only [go_sem]) | exact True.intro | exact Sub.refl _ | omega)
      · exact rows_pur _
end Go.Proofs.Ytldkjccccjiihaa

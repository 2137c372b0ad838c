/-
  Expressions rewritten by a visitor without a state of its own. No condition.
-/
import Derived.Test.YtpmmagnphfcdnaaDca
import Derived.Test.YtpmmagnphfcdnaaVSem
import Derived.Test.YtpmmagnphfcdnaaV0
set_option maxHeartbeats 4000000
set_option maxRecDepth 100000
set_option linter.unusedVariables false
set_option linter.unusedSimpArgs false
namespace Go.Proofs.Ytpmmagnphfcdnaa
open Go.RowKit

mutual
def rwE (g : E → E) : E → E
  | .mk k c v ks => g (.mk k c v (rwL g ks))
def rwL (g : E → E) : List E → List E
  | [] => []
  | e :: l => rwE g e :: rwL g l
end
theorem rwE_eq (g : E → E) (e : E) : rwE g e = g (.mk e.k e.c e.v (rwL g e.ks)) := by cases e; rfl
theorem rwL_map (g : E → E) : ∀ l : List E, rwL g l = l.map (rwE g)
  | [] => rfl
  | e :: l => by rw [rwL, rwL_map g l, List.map_cons]
/-- What a visitor without a state of its own makes of an expression. -/
theorem rewrite_gen {t : TypeId} {vd : D} {mt : FuncId} (hp : vd.pur = true) (hm : methOf Try.prog t name_impl_visit = some mt) (g : E → E) (Ok : E → Prop) (hk : ∀ e x, Ok e → x ∈ e.ks → Ok x) (hl2 : ∀ e, Ok e → e.ks.length ≤ 2)
    (hvis : ∀ e, Ok e → Does Try.prog mt [] [vd, eD (.mk e.k e.c e.v (rwL g e.ks))] (eD (rwE g e)) []) : ∀ (e : E), Ok e → Does Try.prog 24 [] [eD e, .ifc t vd] (eD (rwE g e)) [] := by
  refine E.ind (fun e ih h => ?_)
  have hlen := hl2 e h
  have hv := hvis e h
  rw [eD_eq] at hv
  have hfl := rwL_map g e.ks
  have hll : (rwL g e.ks).length = e.ks.length := by rw [hfl, List.length_map]
  have hren : ∀ L, vd.ren L = vd := fun L => ren_pure L vd hp
  refine does0 c_impl_rewriteExpr mixed (Nat.le_of_ble_eq_true rfl) ?_
  conv => arg 3; whnf
  repeat' (first | with_reducible refine acc_none ?_ | (conv in hold _ => simp (disch := omega) only [go_sem, hren, hp]) | refine Stp.go ?_ | (with_reducible first | refine it_pos rfl ?_ | refine it_neg (by decide) ?_ | refine st_nil rfl ?_ | refine s_op ?_ ?_ | exact True.intro) | ((with_reducible first | refine dw_reg0 ?_ | refine dw_regB ?_); (conv => arg 3; whnf)) | (refine Spl.go (fun hq he => ?_) (fun hq he => ?_) <;> first | (exfalso; clear hq; omega) | ((try (first | (conv => arg 8; simp only [hq]) | (conv => arg 4; simp only [hq]))); clear hq)) | ((with_reducible first | refine c_split (fun hq => ?_) (fun hq => ?_) | refine q_split (fun hq => ?_) (fun hq => ?_)) <;> (try (first | (conv => arg 8; simp only [hq]) | (conv => arg 4; simp only [hq])))) | (with_reducible refine fin_0 ?_ (by first | rfl | (conv => lhs; simp only [go_sem, hren, hp])) ?_) | exact Sub.refl _ | omega)
  refine dw_for (c := 3) (l := fun i => [(1, .ifc t vd), (2, .ref 1000000 0), (4, .ref 1000001 0), (5, .own 1000002 5 i), (9, .sl 5 (e.ks.map eD)), (10, I e.ks.length), (11, I i), (1000000, .obj [I e.k, I e.c, Bo e.v.b, I e.v.n, .sl 5 (e.ks.map eD)]), (1000001, .obj [I 0, I 0, Bo false, I 0, .nul]), (1000002, .row 5 (((rwL g e.ks).take i).map eD))]) e.ks.length (fun _ => True) 0 trivial ((wk_row 5 2000020 5 (by decide) (by decide) rfl rfl).trans (Wk.list [2000002, 2000004, 2000020] rfl rfl ?_)) (fun i hi _ => ?_) (Nat.zero_le _)
  · repeat' (first | (conv in hold _ => simp (disch := omega) only [go_sem, hren, hp]) | exact True.intro | exact Sub.refl _ | omega)
    exact rfl
  · have hlt := take_len (vs := rwL g e.ks) (i := i) (by omega)
    have hmt := take_map eD (vs := rwL g e.ks) (i := i) (by omega)
    rcases at_or_end hi with ⟨x, hx, hlt1⟩ | rfl
    · have hix := ih x (List.mem_of_getElem? hx) (hk e x h (List.mem_of_getElem? hx))
      have hfx : (rwL g e.ks)[i]? = some (rwE g x) := by rw [hfl, List.getElem?_map, hx]; rfl
      have hnx := take_next hfx
      repeat' (first | with_reducible refine acc_none ?_ | (conv in hold _ => simp (disch := omega) only [go_sem, hren, hp, List.getElem?_map, hx, Option.map_some]) | refine Stp.go ?_ | (with_reducible first | refine it_pos rfl ?_ | refine it_neg (by decide) ?_ | refine st_nil rfl ?_ | refine s_op ?_ ?_ | exact True.intro) | ((with_reducible first | refine dw_reg0 ?_ | refine dw_regB ?_); (conv => arg 3; whnf)) | (refine Spl.go (fun hq he => ?_) (fun hq he => ?_) <;> first | (exfalso; clear hq; omega) | ((try (first | (conv => arg 8; simp only [hq]) | (conv => arg 4; simp only [hq]))); clear hq)) | ((with_reducible first | refine c_split (fun hq => ?_) (fun hq => ?_) | refine q_split (fun hq => ?_) (fun hq => ?_)) <;> (try (first | (conv => arg 8; simp only [hq]) | (conv => arg 4; simp only [hq])))) | (with_reducible refine fin_0 ?_ (by first | rfl | (conv => lhs; simp only [go_sem, hren, hp, List.getElem?_map, hx, Option.map_some])) ?_) | exact Sub.refl _ | omega)
      refine c_doesE (hix) ?_ ?_ ?_
      · ((try (conv => rhs; simp (disch := omega) only [go_sem, hren, hp])); try rfl)
      · first | rfl | (conv => lhs; simp only [go_sem, hren, hp])
      repeat' (first | with_reducible refine acc_none ?_ | (conv in hold _ => simp (disch := omega) only [go_sem, hren, hp]) | refine Stp.go ?_ | (with_reducible first | refine it_pos rfl ?_ | refine it_neg (by decide) ?_ | refine st_nil rfl ?_ | refine s_op ?_ ?_ | exact True.intro) | ((with_reducible first | refine dw_reg0 ?_ | refine dw_regB ?_); (conv => arg 3; whnf)) | (refine Spl.go (fun hq he => ?_) (fun hq he => ?_) <;> first | (exfalso; clear hq; omega) | ((try (first | (conv => arg 8; simp only [hq]) | (conv => arg 4; simp only [hq]))); clear hq)) | ((with_reducible first | refine c_split (fun hq => ?_) (fun hq => ?_) | refine q_split (fun hq => ?_) (fun hq => ?_)) <;> (try (first | (conv => arg 8; simp only [hq]) | (conv => arg 4; simp only [hq])))) | (with_reducible refine fin_0 ?_ (by first | rfl | (conv => lhs; simp only [go_sem, hren, hp])) ?_) | exact Sub.refl _ | omega)
      refine ⟨hlt1, trivial, Wk.list [1000000, 1000001, 2000020] rfl rfl ?_⟩
      repeat' (first | (conv in hold _ => simp (disch := omega) only [go_sem, hren, hp]) | exact True.intro | exact Sub.refl _ | omega)
      rw [hmt, hnx, List.map_append, List.map_cons, List.map_nil, eD_eq (rwE g x)]
    · have e1 : (rwL g e.ks).take e.ks.length = rwL g e.ks := List.take_of_length_le (by omega)
      have e2 : ((rwL g e.ks).map eD).take e.ks.length = (rwL g e.ks).map eD := List.take_of_length_le (by rw [List.length_map]; omega)
      repeat' ((fail_if_success (with_reducible first | refine s_call ?_ | refine s_cal ?_ | refine s_inv ?_)); first | with_reducible refine acc_none ?_ | (conv in hold _ => simp (disch := omega) only [go_sem, hren, hp, e1]) | refine Stp.go ?_ | (with_reducible first | refine it_pos rfl ?_ | refine it_neg (by decide) ?_ | refine st_nil rfl ?_ | refine s_op ?_ ?_ | exact True.intro) | ((with_reducible first | refine dw_reg0 ?_ | refine dw_regB ?_); (conv => arg 3; whnf)) | (refine Spl.go (fun hq he => ?_) (fun hq he => ?_) <;> first | (exfalso; clear hq; omega) | ((try (first | (conv => arg 8; simp only [hq]) | (conv => arg 4; simp only [hq]))); clear hq)) | ((with_reducible first | refine c_split (fun hq => ?_) (fun hq => ?_) | refine q_split (fun hq => ?_) (fun hq => ?_)) <;> (try (first | (conv => arg 8; simp only [hq]) | (conv => arg 4; simp only [hq])))) | (with_reducible refine fin_0 ?_ (by first | rfl | (conv => lhs; simp only [go_sem, hren, hp, e1])) ?_) | exact Sub.refl _ | omega)
      refine s_pre (pre_frz (t := 25) (g := 1000002) (by decide) (by decide) rfl ?_) ?_
      rotate_left
      repeat' (first | with_reducible refine acc_none ?_ | (conv in hold _ => simp (disch := omega) only [go_sem, hren, hp, e1, e2, hll, Nat.le_refl]) | refine Stp.go ?_ | (with_reducible first | refine it_pos rfl ?_ | refine it_neg (by decide) ?_ | refine st_nil rfl ?_ | refine s_op ?_ ?_ | exact True.intro) | ((with_reducible first | refine dw_reg0 ?_ | refine dw_regB ?_); (conv => arg 3; whnf)) | (refine Spl.go (fun hq he => ?_) (fun hq he => ?_) <;> first | (exfalso; clear hq; omega) | ((try (first | (conv => arg 8; simp only [hq]) | (conv => arg 4; simp only [hq]))); clear hq)) | ((with_reducible first | refine c_split (fun hq => ?_) (fun hq => ?_) | refine q_split (fun hq => ?_) (fun hq => ?_)) <;> (try (first | (conv => arg 8; simp only [hq]) | (conv => arg 4; simp only [hq])))) | (with_reducible refine fin_0 ?_ (by first | rfl | (conv => lhs; simp only [go_sem, hren, hp, e1, e2, hll, Nat.le_refl])) ?_) | exact Sub.refl _ | omega)
      refine i_meth (hm) ?_
      refine c_doesE (hv) ?_ ?_ ?_
      · ((try (conv => rhs; simp (disch := omega) only [go_sem, hren, hp, e2, hll, Nat.le_refl])); try rfl)
      · first | rfl | (conv => lhs; simp only [go_sem, hren, hp, e2, hll, Nat.le_refl])
      repeat' (first | with_reducible refine acc_none ?_ | (conv in hold _ => simp (disch := omega) only [go_sem, hren, hp, e2, hll, Nat.le_refl]) | refine Stp.go ?_ | (with_reducible first | refine it_pos rfl ?_ | refine it_neg (by decide) ?_ | refine st_nil rfl ?_ | refine s_op ?_ ?_ | exact True.intro) | ((with_reducible first | refine dw_reg0 ?_ | refine dw_regB ?_); (conv => arg 3; whnf)) | (refine Spl.go (fun hq he => ?_) (fun hq he => ?_) <;> first | (exfalso; clear hq; omega) | ((try (first | (conv => arg 8; simp only [hq]) | (conv => arg 4; simp only [hq]))); clear hq)) | ((with_reducible first | refine c_split (fun hq => ?_) (fun hq => ?_) | refine q_split (fun hq => ?_) (fun hq => ?_)) <;> (try (first | (conv => arg 8; simp only [hq]) | (conv => arg 4; simp only [hq])))) | (with_reducible refine fin_0 ?_ (by first | rfl | (conv => lhs; simp only [go_sem, hren, hp, e2, hll, Nat.le_refl])) ?_) | exact Sub.refl _ | omega)
      exact exprs_pur _
end Go.Proofs.Ytpmmagnphfcdnaa

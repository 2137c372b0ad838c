/-
  Plans as plain data, and those that come in. No condition.
-/
import Derived.Test.YtpfedjaedlfdfaaJVCond
import Derived.Test.YtpfedjaedlfdfaaDca
import Derived.Test.YtpfedjaedlfdfaaDcd
import Derived.Test.YtpfedjaedlfdfaaVDrawE
import Derived.Test.YtpfedjaedlfdfaaVLib
set_option maxHeartbeats 4000000
set_option maxRecDepth 100000
namespace Go.Proofs.Ytpfedjaedlfdfaa
open Go.ChangeShapes Go.WideShapes Go.ChangeAt Go.RowKit Go.Joins Go.Deep

/-- A plan. -/
inductive Pl where
  | mk (k t : Int) (es : List E) (cs : List Int) (ks : List Pl)
namespace Pl
def k : Pl → Int
  | mk k _ _ _ _ => k
def t : Pl → Int
  | mk _ t _ _ _ => t
def es : Pl → List E
  | mk _ _ es _ _ => es
def cs : Pl → List Int
  | mk _ _ _ cs _ => cs
def ks : Pl → List Pl
  | mk _ _ _ _ ks => ks
end Pl
mutual
def pD : Pl → D
  | .mk k t es cs ks => .agg [I k, I t, .sl 5 (es.map eD), intsD cs, .sl 5 (pDL ks)]
def pDL : List Pl → List D
  | [] => []
  | p :: l => pD p :: pDL l
end
theorem pDL_map : ∀ l : List Pl, pDL l = l.map pD
  | [] => by rw [pDL]; rfl
  | p :: l => by rw [pDL, pDL_map l]; rfl
theorem pD_eq (p : Pl) : pD p = .agg [I p.k, I p.t, .sl 5 (p.es.map eD), intsD p.cs, .sl 5 (p.ks.map pD)] := by
  cases p with
  | mk k t es cs ks => rw [pD, pDL_map]; rfl
theorem plans_pur : ∀ l : List Pl, D.purL (l.map pD) = true
  | [] => rfl
  | p :: l => by rw [List.map_cons, D.purL, plans_pur l, pD_eq]; rfl
theorem plans_ren (L : List Nat) (l : List Pl) : D.renL L (l.map pD) = l.map pD := ren_pure.renL_pure L _ (plans_pur l)
theorem Pl.k_mk (k t : Int) (es : List E) (cs : List Int) (ks : List Pl) : (Pl.mk k t es cs ks).k = k := rfl
theorem Pl.t_mk (k t : Int) (es : List E) (cs : List Int) (ks : List Pl) : (Pl.mk k t es cs ks).t = t := rfl
theorem Pl.es_mk (k t : Int) (es : List E) (cs : List Int) (ks : List Pl) : (Pl.mk k t es cs ks).es = es := rfl
theorem Pl.cs_mk (k t : Int) (es : List E) (cs : List Int) (ks : List Pl) : (Pl.mk k t es cs ks).cs = cs := rfl
theorem Pl.ks_mk (k t : Int) (es : List E) (cs : List Int) (ks : List Pl) : (Pl.mk k t es cs ks).ks = ks := rfl
attribute [go_sem] pD_eq plans_pur plans_ren Pl.k_mk Pl.t_mk Pl.es_mk Pl.cs_mk Pl.ks_mk
mutual
theorem Pl.indA {P : Pl → Prop} (h : ∀ p, (∀ x, x ∈ p.ks → P x) → P p) : ∀ p, P p
  | .mk k t es cs ks => h (.mk k t es cs ks) (Pl.indL h ks)
theorem Pl.indL {P : Pl → Prop} (h : ∀ p, (∀ x, x ∈ p.ks → P x) → P p) : ∀ l : List Pl, ∀ x, x ∈ l → P x
  | [] => fun _ hx => by cases hx
  | p :: l => fun x hx => (List.mem_cons.1 hx).elim (fun he => he.symm ▸ Pl.indA h p) (Pl.indL h l x)
end
/-- All lists in a plan are such as there may be. -/
inductive MostP : Pl → Prop
  | mk {k t : Int} {es : List E} {cs : List Int} {ks : List Pl} (h1 : es.length ≤ big) (h2 : ∀ x, x ∈ es → Most x) (h3 : cs.length ≤ big) (h4 : ks.length ≤ big) (h5 : ∀ x, x ∈ ks → MostP x) : MostP (.mk k t es cs ks)
theorem MostP.lens {p : Pl} (h : MostP p) : p.es.length ≤ big ∧ p.cs.length ≤ big ∧ p.ks.length ≤ big := by cases h with | mk h1 _ h3 h4 _ => exact ⟨h1, h3, h4⟩
theorem MostP.expr {p : Pl} {x : E} (h : MostP p) (hx : x ∈ p.es) : Most x := by cases h with | mk _ h2 _ _ _ => exact h2 x hx
theorem MostP.kid {p x : Pl} (h : MostP p) (hx : x ∈ p.ks) : MostP x := by cases h with | mk _ _ _ _ h5 => exact h5 x hx
mutual
/-- How many elements a plan's lists have. -/
def psz : Pl → Nat
  | .mk _ _ es cs ks => eszL es + cs.length + pszL ks
def pszL : List Pl → Nat
  | [] => 0
  | p :: l => 1 + psz p + pszL l
end
theorem psz_eq (p : Pl) : psz p = eszL p.es + p.cs.length + pszL p.ks := by cases p; rfl
theorem pszL_append : ∀ (l m : List Pl), pszL (l ++ m) = pszL l + pszL m
  | [], m => by rw [List.nil_append, pszL, Nat.zero_add]
  | e :: l, m => by rw [List.cons_append, pszL, pszL, pszL_append l m]; omega
theorem pszL_next {ps : List Pl} {i : Nat} {x : Pl} (h : ps[i]? = some x) : pszL (ps.take (i + 1)) = pszL (ps.take i) + (1 + psz x) := by
  rw [take_next h, pszL_append, pszL, pszL]
  omega
theorem pszL_len : ∀ l : List Pl, l.length ≤ pszL l
  | [] => Nat.le_refl _
  | e :: l => by
    have := pszL_len l
    rw [pszL, List.length_cons]
    omega
theorem pszL_rest (ps : List Pl) (i : Nat) : pszL (ps.take i) + (ps.length - i) ≤ pszL ps := by
  have h1 := pszL_append (ps.take i) (ps.drop i)
  rw [List.take_append_drop] at h1
  have h2 := pszL_len (ps.drop i)
  rw [List.length_drop] at h2
  omega
theorem pszL_low (ps : List Pl) (i : Nat) (hi : i ≤ ps.length) : i ≤ pszL (ps.take i) := by
  have h := pszL_len (ps.take i)
  rw [List.length_take] at h
  omega
theorem pszL_mem {p : Pl} {l : List Pl} (h : p ∈ l) : psz p + 1 ≤ pszL l := by
  induction l with
  | nil => cases h
  | cons x l ih =>
    rw [pszL]
    rcases List.mem_cons.1 h with rfl | h
    · omega
    · have := ih h; omega

section
variable {H : Type} {enc : TypeId × Value → H} {W : World} {base b0 : Nat} {held : Bool} {r : Reach} {v : Value} {d : DataW H} {p : List MemPlace}
theorem trod_5 {P : Program} {spare : Nat → Bool} {t : TypeId} {f0 f1 f2 f3 f4 : Field} {fuel : Nat} {cs : List Value} {x : DataW H × List MemPlace} (ht : P.underlying t = some (.struct #[f0, f1, f2, f3, f4])) (h : DataW.trod enc P W base spare held fuel t cs = some x) :
    ∃ y0 y1 y2 y3 y4 n, fuel = n + 1 ∧ cs.length = P.cellsOf t ∧ DataW.trod enc P W base spare held n f0.type ((cs.drop f0.offset).take (P.cellsOf f0.type)) = some y0 ∧
      DataW.trod enc P W base spare held n f1.type ((cs.drop f1.offset).take (P.cellsOf f1.type)) = some y1 ∧ DataW.trod enc P W base spare held n f2.type ((cs.drop f2.offset).take (P.cellsOf f2.type)) = some y2 ∧
      DataW.trod enc P W base spare held n f3.type ((cs.drop f3.offset).take (P.cellsOf f3.type)) = some y3 ∧ DataW.trod enc P W base spare held n f4.type ((cs.drop f4.offset).take (P.cellsOf f4.type)) = some y4 := by
  obtain ⟨xs, n, hn, _, hl, hlen, hf⟩ := DataW.trod_struct ht h
  have hs : xs.length = 5 := by simpa using hlen
  match xs, hs with
  | [y0, y1, y2, y3, y4], _ => exact ⟨y0, y1, y2, y3, y4, n, hn, hl, by simpa using hf 0 f0 rfl, by simpa using hf 1 f1 rfl, by simpa using hf 2 f2 rfl, by simpa using hf 3 f3 rfl, by simpa using hf 4 f4 rfl⟩
/-- A plan that came in. -/
def IsP (w : World) (v : Value) (p : Pl) : Prop := MostP p ∧ Fz w (allOf w) noNames (pD p) v
end
end Go.Proofs.Ytpfedjaedlfdfaa
set_option maxHeartbeats 4000000
set_option maxRecDepth 100000
set_option linter.unusedVariables false
set_option linter.unusedSimpArgs false
namespace Go.Proofs.Ytpfedjaedlfdfaa
open Go.RowKit

theorem copyExpr_ok : ∀ e : E, esz e < 1000000 → Does Try.prog 116 [] [eD e] (eD e) [] := by
  refine E.ind (fun e ih h => ?_)
  rw [esz_eq] at h
  have hlen := eszL_len e.ks
  refine does0 c_spec_copyExpr mixed (Nat.le_of_ble_eq_true rfl) ?_
  conv => arg 3; whnf
  repeat' (first | with_reducible refine acc_none ?_ | (conv in hold _ => simp (disch := omega) only [go_sem]) | refine Stp.go ?_ | (with_reducible first | refine it_pos rfl ?_ | refine it_neg (by decide) ?_ | refine st_nil rfl ?_ | refine s_op ?_ ?_ | exact True.intro) | ((with_reducible first | refine dw_reg0 ?_ | refine dw_regB ?_); (conv => arg 3; whnf)) | (refine Spl.go (fun hq he => ?_) (fun hq he => ?_) <;> first | (exfalso; clear hq; omega) | ((try (first | (conv => arg 8; simp only [hq]) | (conv => arg 4; simp only [hq]))); clear hq)) | ((with_reducible first | refine c_split (fun hq => ?_) (fun hq => ?_) | refine q_split (fun hq => ?_) (fun hq => ?_)) <;> (try (first | (conv => arg 8; simp only [hq]) | (conv => arg 4; simp only [hq])))) | (with_reducible refine fin_0 ?_ (by first | rfl | (conv => lhs; simp only [go_sem])) ?_) | exact Sub.refl _ | omega)
  refine dw_for (c := 4) (l := fun i => [(1, .ref 1000000 0), (2, .ref 1000001 0), (3, .ref 1000002 0), (4, I i), (1000000, .obj [I e.k, I e.c, Bo e.v.b, I e.v.n, .sl 5 (e.ks.map eD)]), (1000001, .obj [I 0, I 0, Bo false, I 0, .nul]), (1000002, .obj [I e.k, I e.c, Bo e.v.b, I e.v.n, .own 1000003 5 i]), (1000003, .row 5 ((e.ks.take i).map eD))]) e.ks.length (fun _ => True) 0 trivial ((wk_rowO 2000003 2000028 5 4 (by decide) (by decide) (by decide) rfl rfl rfl).trans (Wk.list [2000001, 2000002, 2000003, 2000028] rfl rfl ?_)) (fun i hi _ => ?_) (Nat.zero_le _)
  · repeat' (first | (conv in hold _ => simp (disch := omega) only [go_sem]) | exact True.intro | exact Sub.refl _ | omega)
    exact rfl
  · have hlt := take_len (vs := e.ks) (i := i) (by omega)
    have hmt := take_map eD (vs := e.ks) (i := i) (by omega)
    rcases at_or_end hi with ⟨x, hx, hlt1⟩ | rfl
    · have hix := ih x (List.mem_of_getElem? hx) (by have := eszL_mem (List.mem_of_getElem? hx); omega)
      have hnx := take_next hx
      repeat' (first
        | with_reducible refine acc_none ?_ | (conv in hold _ => simp (disch := omega) only [go_sem, List.getElem?_map, hx, Option.map_some]) | refine Stp.go ?_ | (with_reducible first | refine it_pos rfl ?_ | refine it_neg (by decide) ?_ | refine st_nil rfl ?_ | refine s_op ?_ ?_ | exact True.intro) | ((with_reducible first | refine dw_reg0 ?_ | refine dw_regB ?_); (conv => arg 3; whnf)) | (refine Spl.go (fun hq he => ?_) (fun hq he => ?_) <;> first | (exfalso; clear hq; omega) | ((try (first | (conv => arg 8; simp only [hq]) | (conv => arg 4; simp only [hq]))); clear hq)) | ((with_reducible first | refine c_split (fun hq => ?_) (fun hq => ?_) | refine q_split (fun hq => ?_) (fun hq => ?_)) <;> (try (first | (conv => arg 8; simp only [hq]) | (conv => arg 4; simp only [hq])))) | (with_reducible refine fin_0 ?_ (by first | rfl | (conv => lhs; simp only [go_sem, List.getElem?_map, hx, Option.map_some])) ?_)
        | (with_reducible show evC _ _ _ _ _ _ _ _ _ _ _ _
           first
           | (refine c_doesE (hix) ?_ ?_ ?_
              · ((try (conv => rhs; simp (disch := omega) only [go_sem, List.getElem?_map, hx, Option.map_some])); try rfl)
              · first | rfl | (conv => lhs; simp only [go_sem, List.getElem?_map, hx, Option.map_some])))
        | exact Sub.refl _ | omega)
      refine ⟨hlt1, trivial, Wk.list [1000000, 1000001, 1000002, 2000028] rfl rfl ?_⟩
      repeat' (first | (conv in hold _ => simp (disch := omega) only [go_sem]) | exact True.intro | exact Sub.refl _ | omega)
      rw [hmt, hnx, List.map_append, List.map_cons, List.map_nil, eD_eq x]
    · have e1 : e.ks.take e.ks.length = e.ks := List.take_length
      have e2 : (e.ks.map eD).take e.ks.length = e.ks.map eD := List.take_of_length_le (by rw [List.length_map]; exact Nat.le_refl _)
      repeat' (first | with_reducible refine acc_none ?_ | (conv in hold _ => simp (disch := omega) only [go_sem, e1]) | refine Stp.go ?_ | (with_reducible first | refine it_pos rfl ?_ | refine it_neg (by decide) ?_ | refine st_nil rfl ?_ | refine s_op ?_ ?_ | exact True.intro) | ((with_reducible first | refine dw_reg0 ?_ | refine dw_regB ?_); (conv => arg 3; whnf)) | (refine Spl.go (fun hq he => ?_) (fun hq he => ?_) <;> first | (exfalso; clear hq; omega) | ((try (first | (conv => arg 8; simp only [hq]) | (conv => arg 4; simp only [hq]))); clear hq)) | ((with_reducible first | refine c_split (fun hq => ?_) (fun hq => ?_) | refine q_split (fun hq => ?_) (fun hq => ?_)) <;> (try (first | (conv => arg 8; simp only [hq]) | (conv => arg 4; simp only [hq])))) | exact Sub.refl _ | omega)
      refine fin_wk (wk_frzO 1000001 1000003 (by decide) (by decide) rfl (by decide) rfl ?_) ?_
      rotate_left
      (conv in hold _ => simp (disch := omega) only [go_sem, e2])
      · refine fin_L [] ?_ ?_ rfl ?_
        repeat' (first | (conv in hold _ => simp (disch := omega) only [go_sem]) | exact True.intro | exact Sub.refl _ | omega)
      · exact exprs_pur _
theorem copyPlan_ok : ∀ p : Pl, psz p ≤ 900000 → Does Try.prog 106 [] [pD p] (pD p) [] := by
  refine Pl.indA (fun p ih h => ?_)
  rw [psz_eq] at h
  have hle := eszL_len p.es
  have hlk := pszL_len p.ks
  have hc := take_all I p.cs
  refine does0 c_spec_copyPlan mixed (Nat.le_of_ble_eq_true rfl) ?_
  conv => arg 3; whnf
  repeat' (first | with_reducible refine acc_none ?_ | (conv in hold _ => simp (disch := omega) only [go_sem]) | refine Stp.go ?_ | (with_reducible first | refine it_pos rfl ?_ | refine it_neg (by decide) ?_ | refine st_nil rfl ?_ | refine s_op ?_ ?_ | exact True.intro) | ((with_reducible first | refine dw_reg0 ?_ | refine dw_regB ?_); (conv => arg 3; whnf)) | (refine Spl.go (fun hq he => ?_) (fun hq he => ?_) <;> first | (exfalso; clear hq; omega) | ((try (first | (conv => arg 8; simp only [hq]) | (conv => arg 4; simp only [hq]))); clear hq)) | ((with_reducible first | refine c_split (fun hq => ?_) (fun hq => ?_) | refine q_split (fun hq => ?_) (fun hq => ?_)) <;> (try (first | (conv => arg 8; simp only [hq]) | (conv => arg 4; simp only [hq])))) | (with_reducible refine fin_0 ?_ (by first | rfl | (conv => lhs; simp only [go_sem])) ?_) | exact Sub.refl _ | omega)
  refine dw_for (c := 5) (l := fun i => [(1, .ref 1000000 0), (2, .ref 1000001 0), (3, .ref 1000002 0), (4, I i), (1000000, .obj [I p.k, I p.t, .sl 5 (p.es.map eD), .sl 1 (p.cs.map I), .sl 5 (p.ks.map pD)]), (1000001, .obj [I 0, I 0, .nul, .nul, .nul]), (1000002, .obj [I p.k, I p.t, .own 1000004 5 i, .own 1000003 1 p.cs.length, .nul]), (1000003, .row 1 (p.cs.map I)), (1000004, .row 5 ((p.es.take i).map eD))]) p.es.length (fun _ => True) 0 trivial ((wk_rowO 2000003 2000099 5 2 (by decide) (by decide) (by decide) rfl rfl rfl).trans (Wk.list [2000001, 2000002, 2000003, 2000013, 2000099] rfl rfl ?_)) (fun i hi _ => ?_) (Nat.zero_le _)
  · repeat' (first | (conv in hold _ => simp (disch := omega) only [go_sem, hc]) | exact True.intro | exact Sub.refl _ | omega)
    exact rfl
  · have hlt := take_len (vs := p.es) (i := i) (by omega)
    have hmt := take_map eD (vs := p.es) (i := i) (by omega)
    rcases at_or_end hi with ⟨x, hx, hlt1⟩ | rfl
    · have hix := copyExpr_ok x (by have := eszL_mem (List.mem_of_getElem? hx); omega)
      have hnx := take_next hx
      repeat' (first
        | with_reducible refine acc_none ?_ | (conv in hold _ => simp (disch := omega) only [go_sem, List.getElem?_map, hx, Option.map_some, hc]) | refine Stp.go ?_ | (with_reducible first | refine it_pos rfl ?_ | refine it_neg (by decide) ?_ | refine st_nil rfl ?_ | refine s_op ?_ ?_ | exact True.intro) | ((with_reducible first | refine dw_reg0 ?_ | refine dw_regB ?_); (conv => arg 3; whnf)) | (refine Spl.go (fun hq he => ?_) (fun hq he => ?_) <;> first | (exfalso; clear hq; omega) | ((try (first | (conv => arg 8; simp only [hq]) | (conv => arg 4; simp only [hq]))); clear hq)) | ((with_reducible first | refine c_split (fun hq => ?_) (fun hq => ?_) | refine q_split (fun hq => ?_) (fun hq => ?_)) <;> (try (first | (conv => arg 8; simp only [hq]) | (conv => arg 4; simp only [hq])))) | (with_reducible refine fin_0 ?_ (by first | rfl | (conv => lhs; simp only [go_sem, List.getElem?_map, hx, Option.map_some, hc])) ?_)
        | (with_reducible show evC _ _ _ _ _ _ _ _ _ _ _ _
           first
           | (refine c_doesE (hix) ?_ ?_ ?_
              · ((try (conv => rhs; simp (disch := omega) only [go_sem, List.getElem?_map, hx, Option.map_some, hc])); try rfl)
              · first | rfl | (conv => lhs; simp only [go_sem, List.getElem?_map, hx, Option.map_some, hc])))
        | exact Sub.refl _ | omega)
      refine ⟨hlt1, trivial, Wk.list [1000000, 1000001, 1000002, 1000003, 2000031] rfl rfl ?_⟩
      repeat' (first | (conv in hold _ => simp (disch := omega) only [go_sem, hc]) | exact True.intro | exact Sub.refl _ | omega)
      rw [hmt, hnx, List.map_append, List.map_cons, List.map_nil, eD_eq x]
    · have e1 : p.es.take p.es.length = p.es := List.take_length
      have e2 : (p.es.map eD).take p.es.length = p.es.map eD := take_all eD p.es
      repeat' (first | with_reducible refine acc_none ?_ | (conv in hold _ => simp (disch := omega) only [go_sem, e1, hc]) | refine Stp.go ?_ | (with_reducible first | refine it_pos rfl ?_ | refine it_neg (by decide) ?_ | refine st_nil rfl ?_ | refine s_op ?_ ?_ | exact True.intro) | ((with_reducible first | refine dw_reg0 ?_ | refine dw_regB ?_); (conv => arg 3; whnf)) | (refine Spl.go (fun hq he => ?_) (fun hq he => ?_) <;> first | (exfalso; clear hq; omega) | ((try (first | (conv => arg 8; simp only [hq]) | (conv => arg 4; simp only [hq]))); clear hq)) | ((with_reducible first | refine c_split (fun hq => ?_) (fun hq => ?_) | refine q_split (fun hq => ?_) (fun hq => ?_)) <;> (try (first | (conv => arg 8; simp only [hq]) | (conv => arg 4; simp only [hq])))) | (with_reducible refine fin_0 ?_ (by first | rfl | (conv => lhs; simp only [go_sem, e1, hc])) ?_) | exact Sub.refl _ | omega)
      refine dw_for (c := 6) (l := fun i => [(1, .ref 1000000 0), (2, .ref 1000001 0), (3, .ref 1000002 0), (5, I i), (1000000, .obj [I p.k, I p.t, .sl 5 (p.es.map eD), .sl 1 (p.cs.map I), .sl 5 (p.ks.map pD)]), (1000001, .obj [I 0, I 0, .nul, .nul, .nul]), (1000002, .obj [I p.k, I p.t, .own 1000004 5 p.es.length, .own 1000003 1 p.cs.length, .own 1000005 5 i]), (1000003, .row 1 (p.cs.map I)), (1000004, .row 5 (p.es.map eD)), (1000005, .row 5 ((p.ks.take i).map pD))]) p.ks.length (fun _ => True) 0 trivial ((wk_rowO 1000002 2000099 5 4 (by decide) (by decide) (by decide) rfl rfl rfl).trans (Wk.list [1000000, 1000001, 1000002, 1000003, 1000004, 2000099] rfl rfl ?_)) (fun i hi _ => ?_) (Nat.zero_le _)
      · repeat' (first | (conv in hold _ => simp (disch := omega) only [go_sem, hc, e1, e2]) | exact True.intro | exact Sub.refl _ | omega)
        exact rfl
      · have hlt := take_len (vs := p.ks) (i := i) (by omega)
        have hmt := take_map pD (vs := p.ks) (i := i) (by omega)
        rcases at_or_end hi with ⟨x, hx, hlt1⟩ | rfl
        · have hix := ih x (List.mem_of_getElem? hx) (by have := pszL_mem (List.mem_of_getElem? hx); omega)
          have hnx := take_next hx
          repeat' (first
            | with_reducible refine acc_none ?_ | (conv in hold _ => simp (disch := omega) only [go_sem, List.getElem?_map, hx, Option.map_some, hc, e2]) | refine Stp.go ?_ | (with_reducible first | refine it_pos rfl ?_ | refine it_neg (by decide) ?_ | refine st_nil rfl ?_ | refine s_op ?_ ?_ | exact True.intro) | ((with_reducible first | refine dw_reg0 ?_ | refine dw_regB ?_); (conv => arg 3; whnf)) | (refine Spl.go (fun hq he => ?_) (fun hq he => ?_) <;> first | (exfalso; clear hq; omega) | ((try (first | (conv => arg 8; simp only [hq]) | (conv => arg 4; simp only [hq]))); clear hq)) | ((with_reducible first | refine c_split (fun hq => ?_) (fun hq => ?_) | refine q_split (fun hq => ?_) (fun hq => ?_)) <;> (try (first | (conv => arg 8; simp only [hq]) | (conv => arg 4; simp only [hq])))) | (with_reducible refine fin_0 ?_ (by first | rfl | (conv => lhs; simp only [go_sem, List.getElem?_map, hx, Option.map_some, hc, e2])) ?_)
            | (with_reducible show evC _ _ _ _ _ _ _ _ _ _ _ _
               first
               | (refine c_doesE (hix) ?_ ?_ ?_
                  · ((try (conv => rhs; simp (disch := omega) only [go_sem, List.getElem?_map, hx, Option.map_some, hc, e2])); try rfl)
                  · first | rfl | (conv => lhs; simp only [go_sem, List.getElem?_map, hx, Option.map_some, hc, e2])))
            | exact Sub.refl _ | omega)
          refine ⟨hlt1, trivial, Wk.list [1000000, 1000001, 1000002, 1000003, 1000004, 2000049] rfl rfl ?_⟩
          repeat' (first | (conv in hold _ => simp (disch := omega) only [go_sem, hc, e2]) | exact True.intro | exact Sub.refl _ | omega)
          rw [hmt, hnx, List.map_append, List.map_cons, List.map_nil, pD_eq x]
          rfl
        · have e3 : p.ks.take p.ks.length = p.ks := List.take_length
          have e4 : (p.ks.map pD).take p.ks.length = p.ks.map pD := take_all pD p.ks
          repeat' (first | with_reducible refine acc_none ?_ | (conv in hold _ => simp (disch := omega) only [go_sem, e3, hc, e2]) | refine Stp.go ?_ | (with_reducible first | refine it_pos rfl ?_ | refine it_neg (by decide) ?_ | refine st_nil rfl ?_ | refine s_op ?_ ?_ | exact True.intro) | ((with_reducible first | refine dw_reg0 ?_ | refine dw_regB ?_); (conv => arg 3; whnf)) | (refine Spl.go (fun hq he => ?_) (fun hq he => ?_) <;> first | (exfalso; clear hq; omega) | ((try (first | (conv => arg 8; simp only [hq]) | (conv => arg 4; simp only [hq]))); clear hq)) | ((with_reducible first | refine c_split (fun hq => ?_) (fun hq => ?_) | refine q_split (fun hq => ?_) (fun hq => ?_)) <;> (try (first | (conv => arg 8; simp only [hq]) | (conv => arg 4; simp only [hq])))) | exact Sub.refl _ | omega)
          refine fin_wk (wk_frzO 1000001 1000003 (by decide) (by decide) rfl (by decide) rfl ?_) ?_
          rotate_left
          (conv in hold _ => simp (disch := omega) only [go_sem, e2, hc, e4])
          refine fin_wk (wk_frzO 1000001 1000004 (by decide) (by decide) rfl (by decide) rfl ?_) ?_
          rotate_left
          (conv in hold _ => simp (disch := omega) only [go_sem, e2, hc, e4])
          refine fin_wk (wk_frzO 1000001 1000005 (by decide) (by decide) rfl (by decide) rfl ?_) ?_
          rotate_left
          (conv in hold _ => simp (disch := omega) only [go_sem, e2, hc, e4])
          all_goals first
            | exact ints_pur _
            | exact exprs_pur _
            | exact plans_pur _
            | skip
          refine fin_L [] ?_ ?_ rfl ?_
          repeat' (first | (conv in hold _ => simp (disch := omega) only [go_sem]) | exact True.intro | exact Sub.refl _ | omega)
theorem plS {k t : Int} {es : List E} {cs : List Int} {ks : List Pl} {des dcs dks : D} (h1 : Sub des (.sl 5 (es.map eD))) (h2 : Sub dcs (.sl 1 (cs.map I))) (h3 : Sub dks (.sl 5 (ks.map pD))) : Sub (.agg [I k, I t, des, dcs, dks]) (pD (.mk k t es cs ks)) := by
  rw [pD_eq]
  exact Sub.agg ⟨Sub.refl _, Sub.refl _, h1, h2, h3, trivial⟩
theorem filterOf_ok (e : E) (x : Pl) : Does Try.prog 97 [] [eD e, pD x] (pD (.mk 2 0 [e] [] [x])) [] := by
  refine does0 c_spec_filterOf mixed (Nat.le_of_ble_eq_true rfl) ?_
  conv => arg 3; whnf
  repeat' (first | with_reducible refine acc_none ?_ | (conv in hold _ => simp (disch := omega) only [go_sem]) | refine Stp.go ?_ | (with_reducible first | refine it_pos rfl ?_ | refine it_neg (by decide) ?_ | refine st_nil rfl ?_ | refine s_op ?_ ?_ | exact True.intro) | ((with_reducible first | refine dw_reg0 ?_ | refine dw_regB ?_); (conv => arg 3; whnf)) | (refine Spl.go (fun hq he => ?_) (fun hq he => ?_) <;> first | (exfalso; clear hq; omega) | ((try (first | (conv => arg 8; simp only [hq]) | (conv => arg 4; simp only [hq]))); clear hq)) | ((with_reducible first | refine c_split (fun hq => ?_) (fun hq => ?_) | refine q_split (fun hq => ?_) (fun hq => ?_)) <;> (try (first | (conv => arg 8; simp only [hq]) | (conv => arg 4; simp only [hq])))) | (with_reducible refine fin_0 ?_ (by first | rfl | (conv => lhs; simp only [go_sem])) ?_) | exact Sub.refl _ | omega)
  have h : Sub (.agg [I 2, I 0, .sl 5 [eD e], .nul, .sl 5 [pD x]]) (pD (.mk 2 0 [e] [] [x])) := plS (Sub.refl _) (Sub.nul 1) (Sub.refl _)
  simp only [go_sem] at h
  exact h
end Go.Proofs.Ytpfedjaedlfdfaa

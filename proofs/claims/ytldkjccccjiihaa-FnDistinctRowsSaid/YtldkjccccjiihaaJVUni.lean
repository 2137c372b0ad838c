/-
  Projections and joins of the model. No condition.
-/
import Derived.Test.YtldkjccccjiihaaDca
import Derived.Test.YtldkjccccjiihaaVPeA
import Derived.Test.YtldkjccccjiihaaVTbS
import Derived.Test.YtldkjccccjiihaaVDrawTc
set_option maxHeartbeats 4000000
set_option maxRecDepth 100000
set_option linter.unusedVariables false
set_option linter.unusedSimpArgs false
namespace Go.Proofs.Ytldkjccccjiihaa
open Go.RowKit

/-- The values of expressions for a row. -/
def prjR (es : List E) (r : List V) : List V := es.map (fun e => ev e r)
theorem copyRow_own (vs : List V) (hl : vs.length < 2000000) : Does Try.prog 17 [] [rowD vs] (.own 1000000 2 vs.length) [.row 2 (vs.map vD)] := by
  refine does c_spec_copyRow mixed (Nat.le_of_ble_eq_true rfl) 0 rfl ?_
  conv => arg 3; whnf
  repeat' (first | with_reducible refine acc_none ?_ | (conv in hold _ => simp (disch := omega) only [go_sem]) | refine Stp.go ?_ | (with_reducible first | refine it_pos rfl ?_ | refine it_neg (by decide) ?_ | refine st_nil rfl ?_ | refine s_op ?_ ?_ | exact True.intro) | ((with_reducible first | refine dw_reg0 ?_ | refine dw_regB ?_); (conv => arg 3; whnf)) | (refine Spl.go (fun hq he => ?_) (fun hq he => ?_) <;> first | (exfalso; clear hq; omega) | ((try (first | (conv => arg 8; simp only [hq]) | (conv => arg 4; simp only [hq]))); clear hq)) | ((with_reducible first | refine c_split (fun hq => ?_) (fun hq => ?_) | refine q_split (fun hq => ?_) (fun hq => ?_)) <;> (try (first | (conv => arg 8; simp only [hq]) | (conv => arg 4; simp only [hq])))) | (with_reducible refine fin_0 ?_ (by first | rfl | (conv => lhs; simp only [go_sem])) ?_) | exact Sub.refl _ | omega)
  refine fin_L [2000005] ?_ ?_ rfl ?_
  repeat' (first | (conv in hold _ => simp (disch := omega) only [go_sem, take_all]) | exact True.intro | exact Sub.refl _ | omega)
theorem nulR_next (i : Nat) : nulR (i + 1) = nulR i ++ [⟨true, 0⟩] := List.replicate_succ'
end Go.Proofs.Ytldkjccccjiihaa
set_option maxHeartbeats 4000000
set_option maxRecDepth 100000
set_option linter.unusedVariables false
set_option linter.unusedSimpArgs false
namespace Go.Proofs.Ytldkjccccjiihaa
open Go.RowKit

/-- Two valid tables of the same width. -/
def sameT (a b : Ta) : Prop := tOk a ∧ tOk b ∧ a.w = b.w
noncomputable instance sameTDec (a b : Ta) : Decidable (sameT a b) := Classical.propDecidable _
theorem sameT.symm {a b : Ta} (h : sameT a b) : sameT b a := ⟨h.2.1, h.1, h.2.2.symm⟩
theorem tOk_nat {t : Ta} (h : tOk t) : ∃ w : Nat, t.w = (w : Int) ∧ (1 ≤ w ∧ w ≤ 6) ∧ RsW w t.rows ∧ Asc t.rows ∧ t.rows.length ≤ 400 := by
  have h1 := h.1.1
  refine ⟨t.w.toNat, by omega, by omega, rsw_of_tOk h, asc_of_tOk h, h.1.2⟩
theorem small_ok {t : Ta} (ht : tOk t) : smallT t := by
  obtain ⟨w, _, _, hr, _, hl⟩ := tOk_nat ht
  exact ⟨by omega, fun r hm => by have := (hr r hm).1; omega⟩
theorem tOk_sz {t : Ta} (ht : tOk t) : rsz t.rows ≤ 1048576 := by
  obtain ⟨w, _, _, hr, _, hl⟩ := tOk_nat ht
  have h1 := rsz_le t.rows (k := 6) (fun r hm => by have := (hr r hm).1; omega)
  omega
theorem NearT.mono {w w' m : Nat} {t : Ta} (h : NearT w m t) (hw : w ≤ w') : NearT w' m t := ⟨h.len, fun r hr => by have := h.row r hr; omega⟩
end Go.Proofs.Ytldkjccccjiihaa

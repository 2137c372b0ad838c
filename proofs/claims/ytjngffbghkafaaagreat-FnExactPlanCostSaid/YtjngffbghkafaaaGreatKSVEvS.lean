/-
  The model's values of expressions. No condition.
-/
import Derived.Test.YtjngffbghkafaaaGreatKSDca
import Derived.Test.YtjngffbghkafaaaGreatKSDcb
import Derived.Test.YtjngffbghkafaaaGreatKSVVa
import Derived.Test.YtjngffbghkafaaaGreatKSVVal
import Derived.Test.YtjngffbghkafaaaGreatJSVGo
set_option maxHeartbeats 4000000
set_option maxRecDepth 100000
namespace Go.Proofs.YtjngffbghkafaaaGreat
open Go.RowKit
theorem truth_ok (v : V) : Does Tryz.prog 208 [] [vD v] (I (tr v)) []:=by
 unfold tr
 refine does0 c_Z170 mixed (Nat.le_of_ble_eq_true rfl) ?_
 conv=>arg 3; whnf
 repeat' (first|with_reducible refine acc_none ?_ | (conv in hold _=>simp (disch:=omega) only [go_sem])|refine Stp.go ?_|(with_reducible first|refine it_pos rfl ?_|refine it_neg (by decide) ?_|refine st_nil rfl ?_|refine s_op ?_ ?_|exact trivial)|((with_reducible first|refine dw_reg0 ?_|refine dw_regB ?_);(conv=>arg 3;whnf))|(refine Spl.go (fun hq he=>?_) (fun hq he=>?_)<;>first|(exfalso;clear hq;omega)|((try first|(conv=>arg 8;simp only [hq])|(conv=>arg 4;simp only [hq]));clear hq))|((with_reducible first|refine c_split (fun hq=>?_) (fun hq=>?_)|refine q_split (fun hq=>?_) (fun hq=>?_))<;>(try first|(conv=>arg 8;simp only [hq])|(conv=>arg 4;simp only [hq])))|(with_reducible refine fin_0 ?_ (by first|rfl|(conv=>lhs;simp only [go_sem])) ?_)|exact Sub.refl _|omega)
 ·rw [if_pos hq]; exact Sub.refl _
 ·rw [if_neg (by rw [hq]; decide),if_pos he]; exact Sub.refl _
 ·rw [if_neg (by rw [hq]; decide),if_neg he]; exact Sub.refl _
theorem ofTruth_ok (n : Int) : Does Tryz.prog 209 [] [I n] (vD (ofTr n)) []:=by
 refine does0 c_Z150 mixed (Nat.le_of_ble_eq_true rfl) ?_
 conv=>arg 3; whnf
 repeat' (first|with_reducible refine acc_none ?_ | (conv in hold _=>simp (disch:=omega) only [go_sem])|refine Stp.go ?_|(with_reducible first|refine it_pos rfl ?_|refine it_neg (by decide) ?_|refine st_nil rfl ?_|refine s_op ?_ ?_|exact trivial)|((with_reducible first|refine dw_reg0 ?_|refine dw_regB ?_);(conv=>arg 3;whnf))|(refine Spl.go (fun hq he=>?_) (fun hq he=>?_)<;>first|(exfalso;clear hq;omega)|((try first|(conv=>arg 8;simp only [hq])|(conv=>arg 4;simp only [hq]));clear hq))|((with_reducible first|refine c_split (fun hq=>?_) (fun hq=>?_)|refine q_split (fun hq=>?_) (fun hq=>?_))<;>(try first|(conv=>arg 8;simp only [hq])|(conv=>arg 4;simp only [hq])))|(with_reducible refine fin_0 ?_ (by first|rfl|(conv=>lhs;simp only [go_sem])) ?_)|exact Sub.refl _|omega)
 ·rw [show ofTr n = ⟨true,0⟩ from if_pos he]; exact Sub.refl _
 ·rw [show ofTr n = ⟨false,n⟩ from if_neg he]; exact Sub.refl _
theorem andTruth_ok (a b : Int) : Does Tryz.prog 231 [] [I a,I b] (I (andTr a b)) []:=by
 refine does0 c_Z124 mixed (Nat.le_of_ble_eq_true rfl) ?_
 conv=>arg 3; whnf
 repeat' (first|with_reducible refine acc_none ?_ | (conv in hold _=>simp (disch:=omega) only [go_sem])|refine Stp.go ?_|(with_reducible first|refine it_pos rfl ?_|refine it_neg (by decide) ?_|refine st_nil rfl ?_|refine s_op ?_ ?_|exact trivial)|((with_reducible first|refine dw_reg0 ?_|refine dw_regB ?_);(conv=>arg 3;whnf))|(refine Spl.go (fun hq he=>?_) (fun hq he=>?_)<;>first|(exfalso;clear hq;omega)|((try first|(conv=>arg 8;simp only [hq])|(conv=>arg 4;simp only [hq]));clear hq))|((with_reducible first|refine c_split (fun hq=>?_) (fun hq=>?_)|refine q_split (fun hq=>?_) (fun hq=>?_))<;>(try first|(conv=>arg 8;simp only [hq])|(conv=>arg 4;simp only [hq])))|(with_reducible refine fin_0 ?_ (by first|rfl|(conv=>lhs;simp only [go_sem])) ?_)|exact Sub.refl _|omega)
 all_goals (refine Sub.of_eq ?_; congr 2; unfold andTr; repeat' split)
 all_goals omega
theorem notTruth_ok (a : Int) (h : -10 < a ∧ a < 10) : Does Tryz.prog 210 [] [I a] (I (notTr a)) []:=by
 refine does0 c_Z127 mixed (Nat.le_of_ble_eq_true rfl) ?_
 conv=>arg 3; whnf
 repeat' (first|with_reducible refine acc_none ?_ | (conv in hold _=>simp (disch:=omega) only [go_sem])|refine Stp.go ?_|(with_reducible first|refine it_pos rfl ?_|refine it_neg (by decide) ?_|refine st_nil rfl ?_|refine s_op ?_ ?_|exact trivial)|((with_reducible first|refine dw_reg0 ?_|refine dw_regB ?_);(conv=>arg 3;whnf))|(refine Spl.go (fun hq he=>?_) (fun hq he=>?_)<;>first|(exfalso;clear hq;omega)|((try first|(conv=>arg 8;simp only [hq])|(conv=>arg 4;simp only [hq]));clear hq))|((with_reducible first|refine c_split (fun hq=>?_) (fun hq=>?_)|refine q_split (fun hq=>?_) (fun hq=>?_))<;>(try first|(conv=>arg 8;simp only [hq])|(conv=>arg 4;simp only [hq])))|(with_reducible refine fin_0 ?_ (by first|rfl|(conv=>lhs;simp only [go_sem])) ?_)|exact Sub.refl _|omega)
 ·rw [show notTr a = 2 from if_pos he]; exact Sub.refl _
 ·rw [show notTr a = 1 - a from if_neg he]; exact Sub.refl _
theorem toInt_ok (b : Bool) : Does Tryz.prog 211 [] [Bo b] (I (b2i b)) []:=does_toInt b
theorem mul_bound {a b : Int} (h0 : -9999 ≤ a) (h1 : a ≤ 9999) (h2 : -9999 ≤ b) (h3 : b ≤ 9999) : -99980001 ≤ a * b ∧ a * b ≤ 99980001:=by
 have h : (a * b).natAbs ≤ 9999 * 9999:=by
  rw [Int.natAbs_mul]
  exact Nat.mul_le_mul (by omega) (by omega)
 omega
theorem combine_ok (k : Int) (a b : V) (ha : a.ok) (hb : b.ok) : Does Tryz.prog 212 [] [I k,vD a,vD b] (vD (comb k a b)) []:=by
 have:=ha.lo
 have:=ha.hi
 have:=hb.lo
 have:=hb.hi
 have hm:=mul_bound ha.lo ha.hi hb.lo hb.hi
 have ta:=tr_range a
 have tb:=tr_range b
 have na:=notTr_range ta
 have nb':=notTr_range tb
 have nn:=andTr_range (notTr (tr a)) (notTr (tr b))
 refine does0 c_Z147 mixed (Nat.le_of_ble_eq_true rfl) ?_
 conv=>arg 3; whnf
 repeat' (first|with_reducible refine acc_none ?_ | (conv in hold _=>simp (disch:=omega) only [go_sem])|refine Stp.go ?_|(with_reducible first|refine it_pos rfl ?_|refine it_neg (by decide) ?_|refine st_nil rfl ?_|refine s_op ?_ ?_|exact trivial)|((with_reducible first|refine dw_reg0 ?_|refine dw_regB ?_);(conv=>arg 3;whnf))|(refine Spl.go (fun hq he=>?_) (fun hq he=>?_)<;>first|(exfalso;clear hq;omega)|((try first|(conv=>arg 8;simp only [hq])|(conv=>arg 4;simp only [hq]));clear hq))|((with_reducible first|refine c_split (fun hq=>?_) (fun hq=>?_)|refine q_split (fun hq=>?_) (fun hq=>?_))<;>(try first|(conv=>arg 8;simp only [hq])|(conv=>arg 4;simp only [hq])))|(with_reducible refine fin_0 ?_ (by first|rfl|(conv=>lhs;simp only [go_sem])) ?_)|exact Sub.refl _|omega)
 ·refine Uc trivial (truth_ok a) (go1 trivial ?_)
  refine Uc trivial (truth_ok b) (go1 trivial ?_)
  refine Uc trivial (andTruth_ok (tr a) (tr b)) (go1 trivial ?_)
  refine Uc trivial (ofTruth_ok (andTr (tr a) (tr b))) (go1 trivial ?_)
  rw [comb8 he]; exact Sub.refl _
 ·refine Uc trivial (truth_ok a) (go1 trivial ?_)
  refine Uc trivial (notTruth_ok (tr a) (by omega)) (go1 trivial ?_)
  refine Uc trivial (truth_ok b) (go1 trivial ?_)
  refine Uc trivial (notTruth_ok (tr b) (by omega)) (go1 trivial ?_)
  refine Uc trivial (andTruth_ok (notTr (tr a)) (notTr (tr b))) (go1 trivial ?_)
  refine Uc trivial (notTruth_ok (andTr (notTr (tr a)) (notTr (tr b))) (by omega)) (go1 trivial ?_)
  refine Uc trivial (ofTruth_ok (notTr (andTr (notTr (tr a)) (notTr (tr b))))) (go1 trivial ?_)
  rw [comb9 he]; exact Sub.refl _
 ·rw [combN (by assumption) (by assumption) (.inr hq)]; exact Sub.refl _
 ·refine Uc trivial (number_ok (a.n + b.n)) (go1 trivial ?_)
  rw [combX (by omega) (by omega) (by assumption) (by assumption),if_pos he]; exact Sub.refl _
 ·refine Uc trivial (number_ok (a.n - b.n)) (go1 trivial ?_)
  rw [combX (by omega) (by omega) (by assumption) (by assumption),if_neg (by omega),if_pos he]; exact Sub.refl _
 ·refine Uc trivial (number_ok (a.n * b.n)) (go1 trivial ?_)
  rw [combX (by omega) (by omega) (by assumption) (by assumption),if_neg (by omega),if_neg (by omega),if_pos he]; exact Sub.refl _
 ·refine Uc trivial (toInt_ok (a.n == b.n)) (go1 trivial ?_)
  rw [combX (by omega) (by omega) (by assumption) (by assumption),if_neg (by omega),if_neg (by omega),if_neg (by omega),if_pos he]; exact Sub.refl _
 ·refine Uc trivial (toInt_ok (decide (a.n < b.n))) (go1 trivial ?_)
  rw [combX (by omega) (by omega) (by assumption) (by assumption),if_neg (by omega),if_neg (by omega),if_neg (by omega),if_neg he]; exact Sub.refl _
 ·rw [combN (by assumption) (by assumption) (.inl hq)]; exact Sub.refl _
theorem evalExpr_ok {row : List V} (hr : ∀ v,v ∈ row → v.ok) : ∀ (e : E) (d : Nat),eOk e row.length d → Does Tryz.prog 162 [] [eD e,rowD row] (vD (ev e row)) []:=by
 refine E.ind (fun e ih d h=>?_)
 have hl:=((eOk_iff e _ d).1 h).2.2.2
 rcases eOk_kids h with ⟨h1,_⟩ | ⟨h1,a,hks,hao⟩ | ⟨h1,a,b,hks,hao,hbo⟩
 ·unfold leafOk at hl
  rcases h1 with h1 | h1
  ·rw [if_pos h1] at hl
   obtain ⟨v,hv⟩ : ∃ v,row[e.c.toNat]? = some v:=⟨_,List.getElem?_eq_getElem (show e.c.toNat < row.length by omega)⟩
   refine does0 c_Z125 mixed (Nat.le_of_ble_eq_true rfl) ?_
   conv=>arg 3; whnf
   repeat' (first|with_reducible refine acc_none ?_ | (conv in hold _=>simp (disch:=omega) only [go_sem,List.getElem?_map,hv,Option.map_some,rowD])|refine Stp.go ?_|(with_reducible first|refine it_pos rfl ?_|refine it_neg (by decide) ?_|refine st_nil rfl ?_|refine s_op ?_ ?_|exact trivial)|((with_reducible first|refine dw_reg0 ?_|refine dw_regB ?_);(conv=>arg 3;whnf))|(refine Spl.go (fun hq he=>?_) (fun hq he=>?_)<;>first|(exfalso;clear hq;omega)|((try first|(conv=>arg 8;simp only [hq])|(conv=>arg 4;simp only [hq]));clear hq))|((with_reducible first|refine c_split (fun hq=>?_) (fun hq=>?_)|refine q_split (fun hq=>?_) (fun hq=>?_))<;>(try first|(conv=>arg 8;simp only [hq])|(conv=>arg 4;simp only [hq])))|(with_reducible refine fin_0 ?_ (by first|rfl|(conv=>lhs;simp only [go_sem,List.getElem?_map,hv,Option.map_some,rowD])) ?_)|exact Sub.refl _|omega)
   rw [ev_col h1 hv]; exact Sub.refl _
  ·refine Bg c_Z125 mixed (go1 trivial ?_)
   rw [ev_const h1]; exact Sub.refl _
 ·have iha:=ih a (by rw [hks]; exact List.mem_cons_self ..) (d - 1) hao
  have ta:=tr_range (ev a row)
  rcases h1 with h1 | h1
  ·refine Bg c_Z125 mixed (go1 @hks ?_)
   refine Uc trivial (iha) (go1 trivial ?_)
   refine Uc trivial (truth_ok (ev a row)) (go1 trivial ?_)
   refine Uc trivial (notTruth_ok (tr (ev a row)) (by omega)) (go1 trivial ?_)
   refine Uc trivial (ofTruth_ok (notTr (tr (ev a row)))) (go1 trivial ?_)
   rw [ev_not h1 hks]; exact Sub.refl _
  ·refine Bg c_Z125 mixed (go1 @hks ?_)
   refine Uc trivial (iha) (go1 trivial ?_)
   refine Uc trivial (toInt_ok (ev a row).b) (go1 trivial ?_)
   rw [ev_null h1 hks]; exact Sub.refl _
 ·have iha:=ih a (by rw [hks]; exact List.mem_cons_self ..) (d - 1) hao
  have ihb:=ih b (by rw [hks]; exact List.mem_cons_of_mem _ (List.mem_cons_self ..)) (d - 1) hbo
  refine Bg c_Z125 mixed (go1 @hks ?_)
  refine Uc @hks (iha) (go1 @hks ?_)
  refine Uc @hks (ihb) (go1 @hks ?_)
  refine Uc trivial (combine_ok e.k (ev a row) (ev b row) (ev_ok hr a _ hao) (ev_ok hr b _ hbo)) (go1 trivial ?_)
  rw [ev_two (by omega) (by omega) (by omega) (by omega) hks]; exact Sub.refl _
end Go.Proofs.YtjngffbghkafaaaGreat

/-
  Semijoins, antijoins and NOT IN at any arguments, the answers trees of one's own. No condition.
-/
import Derived.Test.YtedmegmhjmabcaaKSDca
import Derived.Test.YtedmegmhjmabcaaKSDcg
import Derived.Test.YtedmegmhjmabcaaJSDcc
import Derived.Test.YtedmegmhjmabcaaKSVNin
import Derived.Test.YtedmegmhjmabcaaKSVClT
import Derived.Test.YtedmegmhjmabcaaKSVMkT
set_option maxHeartbeats 4000000
set_option maxRecDepth 100000
set_option linter.unusedVariables false
set_option linter.unusedSimpArgs false
namespace Go.Proofs.Ytedmegmhjmabcaa
open Go.RowKit
theorem keptRows_rc {t : Ta} (ht : tOk t) {T : TypeId} {f : FuncId} (hm : methOf Try.prog T name_impl_keeps = some f) (c : Int) (os : List V) (p : List V → Bool) (h : ∀ x,x ∈ t.rows → Does Try.prog f [] [.agg [I c,rowD os],rowD x] (Bo (p x)) []) : RCalls Try.prog 83 [] [taD t,.ifc T (.agg [I c,rowD os])] [⟨0,1,(t.rows.filter p).map rowD⟩] 1 (tK 0 ⟨t.w,t.rows.filter p⟩):=by
 obtain ⟨w,hw,hw6,hr,_,hl4⟩:=tOk_nat ht
 have h1:=filterB_ok t.rows (by omega) (e:=.agg [I c,rowD os]) rfl (fun _=>rfl) hm p h
 have hsub : (t.rows.filter p).Sublist t.rows:=List.filter_sublist
 have h2:=cloneRows_rc (t.rows.filter p) (fun r hm=>by have:=(hr r (hsub.subset hm)).1; omega) (by have:=hsub.length_le; omega)
 refine rcK_of c_Z45 mixed ⟨t.w,t.rows.filter p⟩ (Nat.le_of_ble_eq_true rfl) (fun m0=>?_)
 rcases kD_two 0 1 ((t.rows.filter p).map rowD) with k1 | k1
 all_goals (
  conv=>arg 3; whnf
  repeat' (first|with_reducible refine acc_none ?_ | (conv in hold _=>simp (disch:=omega) only [go_sem])|refine Stp.go ?_|(with_reducible first|refine it_pos rfl ?_|refine it_neg (by decide) ?_|refine st_nil rfl ?_|refine s_op ?_ ?_|exact trivial)|((with_reducible first|refine dw_reg0 ?_|refine dw_regB ?_);(conv=>arg 3;whnf))|(refine Spl.go (fun hq he=>?_) (fun hq he=>?_)<;>first|(exfalso;clear hq;omega)|((try first|(conv=>arg 8;simp only [hq])|(conv=>arg 4;simp only [hq]));clear hq))|((with_reducible first|refine c_split (fun hq=>?_) (fun hq=>?_)|refine q_split (fun hq=>?_) (fun hq=>?_))<;>(try first|(conv=>arg 8;simp only [hq])|(conv=>arg 4;simp only [hq])))|(with_reducible refine fin_0 ?_ (by first|rfl|(conv=>lhs;simp only [go_sem])) ?_)|exact Sub.refl _|omega)
  refine c_doesE (h1) ?_ ?_ ?_
  ·((try (conv=>rhs;simp (disch:=omega) only [go_sem])); try rfl)
  ·first|rfl|(conv=>lhs;simp only [go_sem])
  repeat' ((fail_if_success (with_reducible first | refine s_call ?_ | refine s_cal ?_ | refine s_inv ?_)); first | with_reducible refine acc_none ?_ | (conv in hold _=>simp (disch:=omega) only [go_sem])|refine Stp.go ?_|(with_reducible first|refine it_pos rfl ?_|refine it_neg (by decide) ?_|refine st_nil rfl ?_|refine s_op ?_ ?_|exact trivial)|((with_reducible first|refine dw_reg0 ?_|refine dw_regB ?_);(conv=>arg 3;whnf))|(refine Spl.go (fun hq he=>?_) (fun hq he=>?_)<;>first|(exfalso;clear hq;omega)|((try first|(conv=>arg 8;simp only [hq])|(conv=>arg 4;simp only [hq]));clear hq))|((with_reducible first|refine c_split (fun hq=>?_) (fun hq=>?_)|refine q_split (fun hq=>?_) (fun hq=>?_))<;>(try first|(conv=>arg 8;simp only [hq])|(conv=>arg 4;simp only [hq])))|(with_reducible refine fin_0 ?_ (by first|rfl|(conv=>lhs;simp only [go_sem])) ?_)|exact Sub.refl _|omega)
  refine s_cln h2 (by ((conv=>lhs; simp (disch:=omega) only [go_sem]); try rfl)) (by ((conv=>lhs; simp (disch:=omega) only [go_sem]); try rfl)) k1 ?_
  repeat' (first|with_reducible refine acc_none ?_ | (conv in hold _=>simp (disch:=omega) only [go_sem])|refine Stp.go ?_|(with_reducible first|refine it_pos rfl ?_|refine it_neg (by decide) ?_|refine st_nil rfl ?_|refine s_op ?_ ?_|exact trivial)|((with_reducible first|refine dw_reg0 ?_|refine dw_regB ?_);(conv=>arg 3;whnf))|(refine Spl.go (fun hq he=>?_) (fun hq he=>?_)<;>first|(exfalso;clear hq;omega)|((try first|(conv=>arg 8;simp only [hq])|(conv=>arg 4;simp only [hq]));clear hq))|((with_reducible first|refine c_split (fun hq=>?_) (fun hq=>?_)|refine q_split (fun hq=>?_) (fun hq=>?_))<;>(try first|(conv=>arg 8;simp only [hq])|(conv=>arg 4;simp only [hq])))|(with_reducible refine fin_0 ?_ (by first|rfl|(conv=>lhs;simp only [go_sem])) ?_)|exact Sub.refl _|omega)
  refine fin_RC (by ((conv=>lhs; simp (disch:=omega) only [go_sem]); try rfl)) ?_ ?_
  ·repeat' (first|(conv in hold _=>simp (disch:=omega) only [go_sem])|exact trivial|exact Sub.refl _|omega)
  ·unfold tK
   rw [k1]
   (try simp only [List.length_map])
   exact (by ((conv=>lhs; simp (disch:=omega) only [go_sem]); try rfl)))
open Classical in
noncomputable def joinB (a b : Ta) (ca cb : Int) : Bool:=decide (joinT a b ca cb)
theorem joinB_t {a b : Ta} {ca cb : Int} (h : joinT a b ca cb) : joinB a b ca cb = true:=decide_eq_true h
theorem joinB_f {a b : Ta} {ca cb : Int} (h : ¬ joinT a b ca cb) : joinB a b ca cb = false:=decide_eq_false h
theorem joinNat {a b : Ta} {ca cb : Int} (h : joinT a b ca cb) : ∃ m n : Nat,ca = m ∧ cb = n:=⟨ca.toNat,cb.toNat,by have:=h.1.2.1; omega,by have:=h.2.2.1; omega⟩
theorem SemiJoin_spec_tN {a b : Ta} (ha : rsz a.rows ≤ 1048576) (hb : rsz b.rows ≤ 1048576) {ca cb : Nat} (h : joinT a b ca cb) : Does Try.prog 39 [] [taD a,taD b,I ca,I cb] (.tup [taD (semT a b ca cb true),Bo true]) []:=by
 have h1:=validJoinN a b ha hb ca cb
 rw [decide_eq_true h] at h1
 have h2:=keepRows_ok h.1.1 h.2.1 h.1.2.2 h.2.2.2 true
 refine does0 c_Z51 mixed (Nat.le_of_ble_eq_true rfl) ?_
 conv=>arg 3; whnf
 repeat' (first|with_reducible refine acc_none ?_ | (conv in hold _=>simp (disch:=omega) only [go_sem])|refine Stp.go ?_|(with_reducible first|refine it_pos rfl ?_|refine it_neg (by decide) ?_|refine st_nil rfl ?_|refine s_op ?_ ?_|exact trivial)|((with_reducible first|refine dw_reg0 ?_|refine dw_regB ?_);(conv=>arg 3;whnf))|(refine Spl.go (fun hq he=>?_) (fun hq he=>?_)<;>first|(exfalso;clear hq;omega)|((try first|(conv=>arg 8;simp only [hq])|(conv=>arg 4;simp only [hq]));clear hq))|((with_reducible first|refine c_split (fun hq=>?_) (fun hq=>?_)|refine q_split (fun hq=>?_) (fun hq=>?_))<;>(try first|(conv=>arg 8;simp only [hq])|(conv=>arg 4;simp only [hq])))|(with_reducible refine fin_0 ?_ (by first|rfl|(conv=>lhs;simp only [go_sem])) ?_)|exact Sub.refl _|omega)
 refine c_doesE (h1) ?_ ?_ ?_
 ·((try (conv=>rhs;simp (disch:=omega) only [go_sem])); try rfl)
 ·first|rfl|(conv=>lhs;simp only [go_sem])
 repeat' (first|with_reducible refine acc_none ?_ | (conv in hold _=>simp (disch:=omega) only [go_sem])|refine Stp.go ?_|(with_reducible first|refine it_pos rfl ?_|refine it_neg (by decide) ?_|refine st_nil rfl ?_|refine s_op ?_ ?_|exact trivial)|((with_reducible first|refine dw_reg0 ?_|refine dw_regB ?_);(conv=>arg 3;whnf))|(refine Spl.go (fun hq he=>?_) (fun hq he=>?_)<;>first|(exfalso;clear hq;omega)|((try first|(conv=>arg 8;simp only [hq])|(conv=>arg 4;simp only [hq]));clear hq))|((with_reducible first|refine c_split (fun hq=>?_) (fun hq=>?_)|refine q_split (fun hq=>?_) (fun hq=>?_))<;>(try first|(conv=>arg 8;simp only [hq])|(conv=>arg 4;simp only [hq])))|(with_reducible refine fin_0 ?_ (by first|rfl|(conv=>lhs;simp only [go_sem])) ?_)|exact Sub.refl _|omega)
 refine c_doesE (h2) ?_ ?_ ?_
 ·((try (conv=>rhs;simp (disch:=omega) only [go_sem])); try rfl)
 ·first|rfl|(conv=>lhs;simp only [go_sem])
 repeat' (first|with_reducible refine acc_none ?_ | (conv in hold _=>simp (disch:=omega) only [go_sem])|refine Stp.go ?_|(with_reducible first|refine it_pos rfl ?_|refine it_neg (by decide) ?_|refine st_nil rfl ?_|refine s_op ?_ ?_|exact trivial)|((with_reducible first|refine dw_reg0 ?_|refine dw_regB ?_);(conv=>arg 3;whnf))|(refine Spl.go (fun hq he=>?_) (fun hq he=>?_)<;>first|(exfalso;clear hq;omega)|((try first|(conv=>arg 8;simp only [hq])|(conv=>arg 4;simp only [hq]));clear hq))|((with_reducible first|refine c_split (fun hq=>?_) (fun hq=>?_)|refine q_split (fun hq=>?_) (fun hq=>?_))<;>(try first|(conv=>arg 8;simp only [hq])|(conv=>arg 4;simp only [hq])))|(with_reducible refine fin_0 ?_ (by first|rfl|(conv=>lhs;simp only [go_sem])) ?_)|exact Sub.refl _|omega)
theorem SemiJoin_spec_fN {a b : Ta} (ha : rsz a.rows ≤ 1048576) (hb : rsz b.rows ≤ 1048576) {ca cb : Int} (h : ¬ joinT a b ca cb) : Does Try.prog 39 [] [taD a,taD b,I ca,I cb] (.tup [taD ⟨0,[]⟩,Bo false]) []:=by
 have h1:=validJoinN a b ha hb ca cb
 rw [decide_eq_false h] at h1
 refine does0 c_Z51 mixed (Nat.le_of_ble_eq_true rfl) ?_
 conv=>arg 3; whnf
 repeat' (first|with_reducible refine acc_none ?_ | (conv in hold _=>simp (disch:=omega) only [go_sem])|refine Stp.go ?_|(with_reducible first|refine it_pos rfl ?_|refine it_neg (by decide) ?_|refine st_nil rfl ?_|refine s_op ?_ ?_|exact trivial)|((with_reducible first|refine dw_reg0 ?_|refine dw_regB ?_);(conv=>arg 3;whnf))|(refine Spl.go (fun hq he=>?_) (fun hq he=>?_)<;>first|(exfalso;clear hq;omega)|((try first|(conv=>arg 8;simp only [hq])|(conv=>arg 4;simp only [hq]));clear hq))|((with_reducible first|refine c_split (fun hq=>?_) (fun hq=>?_)|refine q_split (fun hq=>?_) (fun hq=>?_))<;>(try first|(conv=>arg 8;simp only [hq])|(conv=>arg 4;simp only [hq])))|(with_reducible refine fin_0 ?_ (by first|rfl|(conv=>lhs;simp only [go_sem])) ?_)|exact Sub.refl _|omega)
 refine c_doesE (h1) ?_ ?_ ?_
 ·((try (conv=>rhs;simp (disch:=omega) only [go_sem])); try rfl)
 ·first|rfl|(conv=>lhs;simp only [go_sem])
 repeat' (first|with_reducible refine acc_none ?_ | (conv in hold _=>simp (disch:=omega) only [go_sem])|refine Stp.go ?_|(with_reducible first|refine it_pos rfl ?_|refine it_neg (by decide) ?_|refine st_nil rfl ?_|refine s_op ?_ ?_|exact trivial)|((with_reducible first|refine dw_reg0 ?_|refine dw_regB ?_);(conv=>arg 3;whnf))|(refine Spl.go (fun hq he=>?_) (fun hq he=>?_)<;>first|(exfalso;clear hq;omega)|((try first|(conv=>arg 8;simp only [hq])|(conv=>arg 4;simp only [hq]));clear hq))|((with_reducible first|refine c_split (fun hq=>?_) (fun hq=>?_)|refine q_split (fun hq=>?_) (fun hq=>?_))<;>(try first|(conv=>arg 8;simp only [hq])|(conv=>arg 4;simp only [hq])))|(with_reducible refine fin_0 ?_ (by first|rfl|(conv=>lhs;simp only [go_sem])) ?_)|exact Sub.refl _|omega)
 exact sub_zero
theorem SemiJoin_rc_t {a b : Ta} (ha : rsz a.rows ≤ 1048576) (hb : rsz b.rows ≤ 1048576) {ca cb : Nat} (h : joinT a b ca cb) : RCalls Try.prog 40 [] [taD a,taD b,I ca,I cb] [⟨0,1,(semT a b ca cb true).rows.map rowD⟩] 1 (.tup [tK 0 (semT a b ca cb true),Bo true]):=by
 have h1:=haveColumns_ok a b ha hb ca cb
 rw [decide_eq_true h] at h1
 obtain ⟨⟨hta,_,hca⟩,htb,_,hcb⟩:=h
 obtain ⟨w,hw,hw6,hr,_,hl4⟩:=tOk_nat hta
 obtain ⟨s,⟨hp,hs⟩,h2⟩:=matcherFor_ok htb (by obtain ⟨_,_,_,_,_,h4⟩:=tOk_nat htb; exact h4) hcb ca
 have hsl : s.length ≤ 400:=by rw [hp.length_eq]; unfold valsT; rw [List.length_map]; obtain ⟨_,_,_,_,_,h4⟩:=tOk_nat htb; exact h4
 have hsok : ∀ v,v ∈ s → v.ok:=fun v hv=>valsT_ok htb hcb v (hp.mem_iff.1 hv)
 have h3:=keptRows_rc hta (T:=105) (f:=197) (by kernel_rfl) ca s (fun r=>mch (valsT b cb) (colV ca r) == true) (fun x hx=>by
  have hxr:=hr x hx
  have hv:=colV_at (c:=ca) (r:=x) (by omega)
  have:=semi_ok hv hsl hsok (hxr.2 _ (List.mem_of_getElem? hv)) hs
  rw [mch_perm hp] at this
  rw [beq_true]
  exact this)
 refine rcT_of c_Z43 mixed (semT a b ca cb true) true (Nat.le_of_ble_eq_true rfl) (fun m0=>?_)
 have h4 : RCalls Try.prog 83 [] _ [⟨0,1,(semT a b ca cb true).rows.map rowD⟩] 1 (tK 0 (semT a b ca cb true)):=h3
 rcases kD_two 0 1 ((semT a b ca cb true).rows.map rowD) with k1 | k1
 all_goals (
  conv=>arg 3; whnf
  repeat' (first|with_reducible refine acc_none ?_ | (conv in hold _=>simp (disch:=omega) only [go_sem])|refine Stp.go ?_|(with_reducible first|refine it_pos rfl ?_|refine it_neg (by decide) ?_|refine st_nil rfl ?_|refine s_op ?_ ?_|exact trivial)|((with_reducible first|refine dw_reg0 ?_|refine dw_regB ?_);(conv=>arg 3;whnf))|(refine Spl.go (fun hq he=>?_) (fun hq he=>?_)<;>first|(exfalso;clear hq;omega)|((try first|(conv=>arg 8;simp only [hq])|(conv=>arg 4;simp only [hq]));clear hq))|((with_reducible first|refine c_split (fun hq=>?_) (fun hq=>?_)|refine q_split (fun hq=>?_) (fun hq=>?_))<;>(try first|(conv=>arg 8;simp only [hq])|(conv=>arg 4;simp only [hq])))|(with_reducible refine fin_0 ?_ (by first|rfl|(conv=>lhs;simp only [go_sem])) ?_)|exact Sub.refl _|omega)
  refine c_doesE (h1) ?_ ?_ ?_
  ·((try (conv=>rhs;simp (disch:=omega) only [go_sem])); try rfl)
  ·first|rfl|(conv=>lhs;simp only [go_sem])
  repeat' (first|with_reducible refine acc_none ?_ | (conv in hold _=>simp (disch:=omega) only [go_sem])|refine Stp.go ?_|(with_reducible first|refine it_pos rfl ?_|refine it_neg (by decide) ?_|refine st_nil rfl ?_|refine s_op ?_ ?_|exact trivial)|((with_reducible first|refine dw_reg0 ?_|refine dw_regB ?_);(conv=>arg 3;whnf))|(refine Spl.go (fun hq he=>?_) (fun hq he=>?_)<;>first|(exfalso;clear hq;omega)|((try first|(conv=>arg 8;simp only [hq])|(conv=>arg 4;simp only [hq]));clear hq))|((with_reducible first|refine c_split (fun hq=>?_) (fun hq=>?_)|refine q_split (fun hq=>?_) (fun hq=>?_))<;>(try first|(conv=>arg 8;simp only [hq])|(conv=>arg 4;simp only [hq])))|(with_reducible refine fin_0 ?_ (by first|rfl|(conv=>lhs;simp only [go_sem])) ?_)|exact Sub.refl _|omega)
  refine c_doesE (h2) ?_ ?_ ?_
  ·((try (conv=>rhs;simp (disch:=omega) only [go_sem])); try rfl)
  ·first|rfl|(conv=>lhs;simp only [go_sem])
  repeat' ((fail_if_success (with_reducible first | refine s_call ?_ | refine s_cal ?_ | refine s_inv ?_)); first | with_reducible refine acc_none ?_ | (conv in hold _=>simp (disch:=omega) only [go_sem])|refine Stp.go ?_|(with_reducible first|refine it_pos rfl ?_|refine it_neg (by decide) ?_|refine st_nil rfl ?_|refine s_op ?_ ?_|exact trivial)|((with_reducible first|refine dw_reg0 ?_|refine dw_regB ?_);(conv=>arg 3;whnf))|(refine Spl.go (fun hq he=>?_) (fun hq he=>?_)<;>first|(exfalso;clear hq;omega)|((try first|(conv=>arg 8;simp only [hq])|(conv=>arg 4;simp only [hq]));clear hq))|((with_reducible first|refine c_split (fun hq=>?_) (fun hq=>?_)|refine q_split (fun hq=>?_) (fun hq=>?_))<;>(try first|(conv=>arg 8;simp only [hq])|(conv=>arg 4;simp only [hq])))|(with_reducible refine fin_0 ?_ (by first|rfl|(conv=>lhs;simp only [go_sem])) ?_)|exact Sub.refl _|omega)
  refine s_new (ss:=clF (semT a b ca cb true).rows) (k:=0) (bs:=[]) (t:=0) (n:=1) tb1_lt h4 rfl rfl rfl (by decide) (by ((conv=>lhs; simp (disch:=omega) only [go_sem]); try rfl)) (by ((conv=>lhs; simp (disch:=omega) only [go_sem]); try rfl)) rfl (tK_low _ _) (rr:=.agg [I a.w,kD 0 1 ((semT a b ca cb true).rows.map rowD)]) (by rw [tK_rk]; rfl) ?_
  repeat' (first|with_reducible refine acc_none ?_ | (conv in hold _=>simp (disch:=omega) only [go_sem])|refine Stp.go ?_|(with_reducible first|refine it_pos rfl ?_|refine it_neg (by decide) ?_|refine st_nil rfl ?_|refine s_op ?_ ?_|exact trivial)|((with_reducible first|refine dw_reg0 ?_|refine dw_regB ?_);(conv=>arg 3;whnf))|(refine Spl.go (fun hq he=>?_) (fun hq he=>?_)<;>first|(exfalso;clear hq;omega)|((try first|(conv=>arg 8;simp only [hq])|(conv=>arg 4;simp only [hq]));clear hq))|((with_reducible first|refine c_split (fun hq=>?_) (fun hq=>?_)|refine q_split (fun hq=>?_) (fun hq=>?_))<;>(try first|(conv=>arg 8;simp only [hq])|(conv=>arg 4;simp only [hq])))|(with_reducible refine fin_0 ?_ (by first|rfl|(conv=>lhs;simp only [go_sem])) ?_)|exact Sub.refl _|omega)
  refine fin_RC (by ((conv=>lhs; simp (disch:=omega) only [go_sem]); try rfl)) ?_ ?_
  ·repeat' (first|(conv in hold _=>simp (disch:=omega) only [go_sem])|exact trivial|exact Sub.refl _|omega)
  ·unfold tK
   (try simp only [List.length_map])
   exact (by ((conv=>lhs; simp (disch:=omega) only [go_sem]); try rfl)))
theorem SemiJoin_impl_tN {a b : Ta} (ha : rsz a.rows ≤ 1048576) (hb : rsz b.rows ≤ 1048576) {ca cb : Nat} (h : joinT a b ca cb) : Does Try.prog 40 [] [taD a,taD b,I ca,I cb] (.tup [taD (semT a b ca cb true),Bo true]) []:=SemiJoin_impl_t ha hb h (by obtain ⟨_,_,_,_,_,h4⟩:=tOk_nat h.2.1; exact h4)
open Classical in
noncomputable def semiA (a b : Ta) (ca cb : Int) : Ta:=if joinT a b ca cb then semT a b ca.toNat cb.toNat true else ⟨0,[]⟩
theorem semiA_t {a b : Ta} {ca cb : Nat} (h : joinT a b ca cb) : semiA a b ca cb = semT a b ca cb true:=if_pos h
theorem semiA_f {a b : Ta} {ca cb : Int} (h : ¬ joinT a b ca cb) : semiA a b ca cb = ⟨0,[]⟩:=if_neg h
theorem AntiJoin_spec_tN {a b : Ta} (ha : rsz a.rows ≤ 1048576) (hb : rsz b.rows ≤ 1048576) {ca cb : Nat} (h : joinT a b ca cb) : Does Try.prog 41 [] [taD a,taD b,I ca,I cb] (.tup [taD (semT a b ca cb false),Bo true]) []:=by
 have h1:=validJoinN a b ha hb ca cb
 rw [decide_eq_true h] at h1
 have h2:=keepRows_ok h.1.1 h.2.1 h.1.2.2 h.2.2.2 false
 refine does0 c_Z50 mixed (Nat.le_of_ble_eq_true rfl) ?_
 conv=>arg 3; whnf
 repeat' (first|with_reducible refine acc_none ?_ | (conv in hold _=>simp (disch:=omega) only [go_sem])|refine Stp.go ?_|(with_reducible first|refine it_pos rfl ?_|refine it_neg (by decide) ?_|refine st_nil rfl ?_|refine s_op ?_ ?_|exact trivial)|((with_reducible first|refine dw_reg0 ?_|refine dw_regB ?_);(conv=>arg 3;whnf))|(refine Spl.go (fun hq he=>?_) (fun hq he=>?_)<;>first|(exfalso;clear hq;omega)|((try first|(conv=>arg 8;simp only [hq])|(conv=>arg 4;simp only [hq]));clear hq))|((with_reducible first|refine c_split (fun hq=>?_) (fun hq=>?_)|refine q_split (fun hq=>?_) (fun hq=>?_))<;>(try first|(conv=>arg 8;simp only [hq])|(conv=>arg 4;simp only [hq])))|(with_reducible refine fin_0 ?_ (by first|rfl|(conv=>lhs;simp only [go_sem])) ?_)|exact Sub.refl _|omega)
 refine c_doesE (h1) ?_ ?_ ?_
 ·((try (conv=>rhs;simp (disch:=omega) only [go_sem])); try rfl)
 ·first|rfl|(conv=>lhs;simp only [go_sem])
 repeat' (first|with_reducible refine acc_none ?_ | (conv in hold _=>simp (disch:=omega) only [go_sem])|refine Stp.go ?_|(with_reducible first|refine it_pos rfl ?_|refine it_neg (by decide) ?_|refine st_nil rfl ?_|refine s_op ?_ ?_|exact trivial)|((with_reducible first|refine dw_reg0 ?_|refine dw_regB ?_);(conv=>arg 3;whnf))|(refine Spl.go (fun hq he=>?_) (fun hq he=>?_)<;>first|(exfalso;clear hq;omega)|((try first|(conv=>arg 8;simp only [hq])|(conv=>arg 4;simp only [hq]));clear hq))|((with_reducible first|refine c_split (fun hq=>?_) (fun hq=>?_)|refine q_split (fun hq=>?_) (fun hq=>?_))<;>(try first|(conv=>arg 8;simp only [hq])|(conv=>arg 4;simp only [hq])))|(with_reducible refine fin_0 ?_ (by first|rfl|(conv=>lhs;simp only [go_sem])) ?_)|exact Sub.refl _|omega)
 refine c_doesE (h2) ?_ ?_ ?_
 ·((try (conv=>rhs;simp (disch:=omega) only [go_sem])); try rfl)
 ·first|rfl|(conv=>lhs;simp only [go_sem])
 repeat' (first|with_reducible refine acc_none ?_ | (conv in hold _=>simp (disch:=omega) only [go_sem])|refine Stp.go ?_|(with_reducible first|refine it_pos rfl ?_|refine it_neg (by decide) ?_|refine st_nil rfl ?_|refine s_op ?_ ?_|exact trivial)|((with_reducible first|refine dw_reg0 ?_|refine dw_regB ?_);(conv=>arg 3;whnf))|(refine Spl.go (fun hq he=>?_) (fun hq he=>?_)<;>first|(exfalso;clear hq;omega)|((try first|(conv=>arg 8;simp only [hq])|(conv=>arg 4;simp only [hq]));clear hq))|((with_reducible first|refine c_split (fun hq=>?_) (fun hq=>?_)|refine q_split (fun hq=>?_) (fun hq=>?_))<;>(try first|(conv=>arg 8;simp only [hq])|(conv=>arg 4;simp only [hq])))|(with_reducible refine fin_0 ?_ (by first|rfl|(conv=>lhs;simp only [go_sem])) ?_)|exact Sub.refl _|omega)
theorem AntiJoin_spec_fN {a b : Ta} (ha : rsz a.rows ≤ 1048576) (hb : rsz b.rows ≤ 1048576) {ca cb : Int} (h : ¬ joinT a b ca cb) : Does Try.prog 41 [] [taD a,taD b,I ca,I cb] (.tup [taD ⟨0,[]⟩,Bo false]) []:=by
 have h1:=validJoinN a b ha hb ca cb
 rw [decide_eq_false h] at h1
 refine does0 c_Z50 mixed (Nat.le_of_ble_eq_true rfl) ?_
 conv=>arg 3; whnf
 repeat' (first|with_reducible refine acc_none ?_ | (conv in hold _=>simp (disch:=omega) only [go_sem])|refine Stp.go ?_|(with_reducible first|refine it_pos rfl ?_|refine it_neg (by decide) ?_|refine st_nil rfl ?_|refine s_op ?_ ?_|exact trivial)|((with_reducible first|refine dw_reg0 ?_|refine dw_regB ?_);(conv=>arg 3;whnf))|(refine Spl.go (fun hq he=>?_) (fun hq he=>?_)<;>first|(exfalso;clear hq;omega)|((try first|(conv=>arg 8;simp only [hq])|(conv=>arg 4;simp only [hq]));clear hq))|((with_reducible first|refine c_split (fun hq=>?_) (fun hq=>?_)|refine q_split (fun hq=>?_) (fun hq=>?_))<;>(try first|(conv=>arg 8;simp only [hq])|(conv=>arg 4;simp only [hq])))|(with_reducible refine fin_0 ?_ (by first|rfl|(conv=>lhs;simp only [go_sem])) ?_)|exact Sub.refl _|omega)
 refine c_doesE (h1) ?_ ?_ ?_
 ·((try (conv=>rhs;simp (disch:=omega) only [go_sem])); try rfl)
 ·first|rfl|(conv=>lhs;simp only [go_sem])
 repeat' (first|with_reducible refine acc_none ?_ | (conv in hold _=>simp (disch:=omega) only [go_sem])|refine Stp.go ?_|(with_reducible first|refine it_pos rfl ?_|refine it_neg (by decide) ?_|refine st_nil rfl ?_|refine s_op ?_ ?_|exact trivial)|((with_reducible first|refine dw_reg0 ?_|refine dw_regB ?_);(conv=>arg 3;whnf))|(refine Spl.go (fun hq he=>?_) (fun hq he=>?_)<;>first|(exfalso;clear hq;omega)|((try first|(conv=>arg 8;simp only [hq])|(conv=>arg 4;simp only [hq]));clear hq))|((with_reducible first|refine c_split (fun hq=>?_) (fun hq=>?_)|refine q_split (fun hq=>?_) (fun hq=>?_))<;>(try first|(conv=>arg 8;simp only [hq])|(conv=>arg 4;simp only [hq])))|(with_reducible refine fin_0 ?_ (by first|rfl|(conv=>lhs;simp only [go_sem])) ?_)|exact Sub.refl _|omega)
 exact sub_zero
theorem AntiJoin_rc_t {a b : Ta} (ha : rsz a.rows ≤ 1048576) (hb : rsz b.rows ≤ 1048576) {ca cb : Nat} (h : joinT a b ca cb) : RCalls Try.prog 42 [] [taD a,taD b,I ca,I cb] [⟨0,1,(semT a b ca cb false).rows.map rowD⟩] 1 (.tup [tK 0 (semT a b ca cb false),Bo true]):=by
 have h1:=haveColumns_ok a b ha hb ca cb
 rw [decide_eq_true h] at h1
 obtain ⟨⟨hta,_,hca⟩,htb,_,hcb⟩:=h
 obtain ⟨w,hw,hw6,hr,_,hl4⟩:=tOk_nat hta
 obtain ⟨s,⟨hp,hs⟩,h2⟩:=matcherFor_ok htb (by obtain ⟨_,_,_,_,_,h4⟩:=tOk_nat htb; exact h4) hcb ca
 have hsl : s.length ≤ 400:=by rw [hp.length_eq]; unfold valsT; rw [List.length_map]; obtain ⟨_,_,_,_,_,h4⟩:=tOk_nat htb; exact h4
 have hsok : ∀ v,v ∈ s → v.ok:=fun v hv=>valsT_ok htb hcb v (hp.mem_iff.1 hv)
 have h3:=keptRows_rc hta (T:=106) (f:=200) (by kernel_rfl) ca s (fun r=>mch (valsT b cb) (colV ca r) == false) (fun x hx=>by
  have hxr:=hr x hx
  have hv:=colV_at (c:=ca) (r:=x) (by omega)
  have:=anti_ok hv hsl hsok (hxr.2 _ (List.mem_of_getElem? hv)) hs
  rw [mch_perm hp] at this
  rw [beq_false]
  exact this)
 refine rcT_of c_Z42 mixed (semT a b ca cb false) true (Nat.le_of_ble_eq_true rfl) (fun m0=>?_)
 have h4 : RCalls Try.prog 83 [] _ [⟨0,1,(semT a b ca cb false).rows.map rowD⟩] 1 (tK 0 (semT a b ca cb false)):=h3
 rcases kD_two 0 1 ((semT a b ca cb false).rows.map rowD) with k1 | k1
 all_goals (
  conv=>arg 3; whnf
  repeat' (first|with_reducible refine acc_none ?_ | (conv in hold _=>simp (disch:=omega) only [go_sem])|refine Stp.go ?_|(with_reducible first|refine it_pos rfl ?_|refine it_neg (by decide) ?_|refine st_nil rfl ?_|refine s_op ?_ ?_|exact trivial)|((with_reducible first|refine dw_reg0 ?_|refine dw_regB ?_);(conv=>arg 3;whnf))|(refine Spl.go (fun hq he=>?_) (fun hq he=>?_)<;>first|(exfalso;clear hq;omega)|((try first|(conv=>arg 8;simp only [hq])|(conv=>arg 4;simp only [hq]));clear hq))|((with_reducible first|refine c_split (fun hq=>?_) (fun hq=>?_)|refine q_split (fun hq=>?_) (fun hq=>?_))<;>(try first|(conv=>arg 8;simp only [hq])|(conv=>arg 4;simp only [hq])))|(with_reducible refine fin_0 ?_ (by first|rfl|(conv=>lhs;simp only [go_sem])) ?_)|exact Sub.refl _|omega)
  refine c_doesE (h1) ?_ ?_ ?_
  ·((try (conv=>rhs;simp (disch:=omega) only [go_sem])); try rfl)
  ·first|rfl|(conv=>lhs;simp only [go_sem])
  repeat' (first|with_reducible refine acc_none ?_ | (conv in hold _=>simp (disch:=omega) only [go_sem])|refine Stp.go ?_|(with_reducible first|refine it_pos rfl ?_|refine it_neg (by decide) ?_|refine st_nil rfl ?_|refine s_op ?_ ?_|exact trivial)|((with_reducible first|refine dw_reg0 ?_|refine dw_regB ?_);(conv=>arg 3;whnf))|(refine Spl.go (fun hq he=>?_) (fun hq he=>?_)<;>first|(exfalso;clear hq;omega)|((try first|(conv=>arg 8;simp only [hq])|(conv=>arg 4;simp only [hq]));clear hq))|((with_reducible first|refine c_split (fun hq=>?_) (fun hq=>?_)|refine q_split (fun hq=>?_) (fun hq=>?_))<;>(try first|(conv=>arg 8;simp only [hq])|(conv=>arg 4;simp only [hq])))|(with_reducible refine fin_0 ?_ (by first|rfl|(conv=>lhs;simp only [go_sem])) ?_)|exact Sub.refl _|omega)
  refine c_doesE (h2) ?_ ?_ ?_
  ·((try (conv=>rhs;simp (disch:=omega) only [go_sem])); try rfl)
  ·first|rfl|(conv=>lhs;simp only [go_sem])
  repeat' ((fail_if_success (with_reducible first | refine s_call ?_ | refine s_cal ?_ | refine s_inv ?_)); first | with_reducible refine acc_none ?_ | (conv in hold _=>simp (disch:=omega) only [go_sem])|refine Stp.go ?_|(with_reducible first|refine it_pos rfl ?_|refine it_neg (by decide) ?_|refine st_nil rfl ?_|refine s_op ?_ ?_|exact trivial)|((with_reducible first|refine dw_reg0 ?_|refine dw_regB ?_);(conv=>arg 3;whnf))|(refine Spl.go (fun hq he=>?_) (fun hq he=>?_)<;>first|(exfalso;clear hq;omega)|((try first|(conv=>arg 8;simp only [hq])|(conv=>arg 4;simp only [hq]));clear hq))|((with_reducible first|refine c_split (fun hq=>?_) (fun hq=>?_)|refine q_split (fun hq=>?_) (fun hq=>?_))<;>(try first|(conv=>arg 8;simp only [hq])|(conv=>arg 4;simp only [hq])))|(with_reducible refine fin_0 ?_ (by first|rfl|(conv=>lhs;simp only [go_sem])) ?_)|exact Sub.refl _|omega)
  refine s_new (ss:=clF (semT a b ca cb false).rows) (k:=0) (bs:=[]) (t:=0) (n:=1) tb1_lt h4 rfl rfl rfl (by decide) (by ((conv=>lhs; simp (disch:=omega) only [go_sem]); try rfl)) (by ((conv=>lhs; simp (disch:=omega) only [go_sem]); try rfl)) rfl (tK_low _ _) (rr:=.agg [I a.w,kD 0 1 ((semT a b ca cb false).rows.map rowD)]) (by rw [tK_rk]; rfl) ?_
  repeat' (first|with_reducible refine acc_none ?_ | (conv in hold _=>simp (disch:=omega) only [go_sem])|refine Stp.go ?_|(with_reducible first|refine it_pos rfl ?_|refine it_neg (by decide) ?_|refine st_nil rfl ?_|refine s_op ?_ ?_|exact trivial)|((with_reducible first|refine dw_reg0 ?_|refine dw_regB ?_);(conv=>arg 3;whnf))|(refine Spl.go (fun hq he=>?_) (fun hq he=>?_)<;>first|(exfalso;clear hq;omega)|((try first|(conv=>arg 8;simp only [hq])|(conv=>arg 4;simp only [hq]));clear hq))|((with_reducible first|refine c_split (fun hq=>?_) (fun hq=>?_)|refine q_split (fun hq=>?_) (fun hq=>?_))<;>(try first|(conv=>arg 8;simp only [hq])|(conv=>arg 4;simp only [hq])))|(with_reducible refine fin_0 ?_ (by first|rfl|(conv=>lhs;simp only [go_sem])) ?_)|exact Sub.refl _|omega)
  refine fin_RC (by ((conv=>lhs; simp (disch:=omega) only [go_sem]); try rfl)) ?_ ?_
  ·repeat' (first|(conv in hold _=>simp (disch:=omega) only [go_sem])|exact trivial|exact Sub.refl _|omega)
  ·unfold tK
   (try simp only [List.length_map])
   exact (by ((conv=>lhs; simp (disch:=omega) only [go_sem]); try rfl)))
theorem AntiJoin_impl_tN {a b : Ta} (ha : rsz a.rows ≤ 1048576) (hb : rsz b.rows ≤ 1048576) {ca cb : Nat} (h : joinT a b ca cb) : Does Try.prog 42 [] [taD a,taD b,I ca,I cb] (.tup [taD (semT a b ca cb false),Bo true]) []:=AntiJoin_impl_t ha hb h (by obtain ⟨_,_,_,_,_,h4⟩:=tOk_nat h.2.1; exact h4)
open Classical in
noncomputable def antiA (a b : Ta) (ca cb : Int) : Ta:=if joinT a b ca cb then semT a b ca.toNat cb.toNat false else ⟨0,[]⟩
theorem antiA_t {a b : Ta} {ca cb : Nat} (h : joinT a b ca cb) : antiA a b ca cb = semT a b ca cb false:=if_pos h
theorem antiA_f {a b : Ta} {ca cb : Int} (h : ¬ joinT a b ca cb) : antiA a b ca cb = ⟨0,[]⟩:=if_neg h
theorem NotIn_spec_tN {a b : Ta} (ha : rsz a.rows ≤ 1048576) (hb : rsz b.rows ≤ 1048576) {ca cb : Nat} (h : joinT a b ca cb) : Does Try.prog 43 [] [taD a,taD b,I ca,I cb] (.tup [taD (ninT a b ca cb),Bo true]) []:=by
 have h1:=validJoinN a b ha hb ca cb
 rw [decide_eq_true h] at h1
 obtain ⟨⟨hta,_,hca⟩,htb,_,hcb⟩:=h
 obtain ⟨w,hw,hw6,hr,hasc,hl4⟩:=tOk_nat hta
 obtain ⟨wb,hwb',_,hrb,_,hlb⟩:=tOk_nat htb
 by_cases hz : b.rows.length = 0
 ·have hnil : b.rows = []:=List.length_eq_zero_iff.1 hz
  have hT : ninT a b ca cb = a:=by
   have e : a.rows.filter (fun r=>nin (valsT b cb) (colV ca r)) = a.rows:=List.filter_eq_self.2 (fun r _=>by unfold valsT; rw [hnil]; rfl)
   unfold ninT
   rw [e]
  have h3:=tableOf_own a.w w (by omega) a.rows (by omega) hr
  rw [srt_of_asc hr hasc] at h3
  have htk : (a.rows.map rowD).take a.rows.length = a.rows.map rowD:=take_all rowD _
  have hzz : ((b.rows.length : Nat) : Int) = 0:=by omega
  have hres : taD (ninT a b ca cb) = .agg [I a.w,rowsD a.rows]:=by rw [hT]; rfl
  rw [hres]
  refine does0 c_Z65 mixed (Nat.le_of_ble_eq_true rfl) ?_
  conv=>arg 3; whnf
  repeat' (first|with_reducible refine acc_none ?_ | (conv in hold _=>simp (disch:=omega) only [go_sem,List.length_map,hzz])|refine Stp.go ?_|(with_reducible first|refine it_pos rfl ?_|refine it_neg (by decide) ?_|refine st_nil rfl ?_|refine s_op ?_ ?_|exact trivial)|((with_reducible first|refine dw_reg0 ?_|refine dw_regB ?_);(conv=>arg 3;whnf))|(refine Spl.go (fun hq he=>?_) (fun hq he=>?_)<;>first|(exfalso;clear hq;omega)|((try first|(conv=>arg 8;simp only [hq])|(conv=>arg 4;simp only [hq]));clear hq))|((with_reducible first|refine c_split (fun hq=>?_) (fun hq=>?_)|refine q_split (fun hq=>?_) (fun hq=>?_))<;>(try first|(conv=>arg 8;simp only [hq])|(conv=>arg 4;simp only [hq])))|exact Sub.refl _|omega)
  refine c_doesE (h1) ?_ ?_ ?_
  ·((try (conv=>rhs;simp (disch:=omega) only [go_sem,List.length_map,hzz])); try rfl)
  ·first|rfl|(conv=>lhs;simp only [go_sem,List.length_map,hzz])
  repeat' (first|with_reducible refine acc_none ?_ | (conv in hold _=>simp (disch:=omega) only [go_sem,List.length_map,hzz])|refine Stp.go ?_|(with_reducible first|refine it_pos rfl ?_|refine it_neg (by decide) ?_|refine st_nil rfl ?_|refine s_op ?_ ?_|exact trivial)|((with_reducible first|refine dw_reg0 ?_|refine dw_regB ?_);(conv=>arg 3;whnf))|(refine Spl.go (fun hq he=>?_) (fun hq he=>?_)<;>first|(exfalso;clear hq;omega)|((try first|(conv=>arg 8;simp only [hq])|(conv=>arg 4;simp only [hq]));clear hq))|((with_reducible first|refine c_split (fun hq=>?_) (fun hq=>?_)|refine q_split (fun hq=>?_) (fun hq=>?_))<;>(try first|(conv=>arg 8;simp only [hq])|(conv=>arg 4;simp only [hq])))|exact Sub.refl _|omega)
  refine c_doesR [3000001] (h3) (callOK_of rfl (Nat.le_of_ble_eq_true rfl) rfl ?_ ?_) ?_ ?_
  ·repeat' (first|(conv in hold _=>simp (disch:=omega) only [go_sem])|exact trivial|exact Sub.refl _|omega)
  ·repeat' (first|(conv in hold _=>simp (disch:=omega) only [go_sem])|exact trivial|exact Sub.refl _|omega)
  ·((conv=>rhs;simp (disch:=omega) only [go_sem]); try rfl)
  repeat' (first|with_reducible refine acc_none ?_ | (conv in hold _=>simp (disch:=omega) only [go_sem])|refine Stp.go ?_|(with_reducible first|refine it_pos rfl ?_|refine it_neg (by decide) ?_|refine st_nil rfl ?_|refine s_op ?_ ?_|exact trivial)|((with_reducible first|refine dw_reg0 ?_|refine dw_regB ?_);(conv=>arg 3;whnf))|(refine Spl.go (fun hq he=>?_) (fun hq he=>?_)<;>first|(exfalso;clear hq;omega)|((try first|(conv=>arg 8;simp only [hq])|(conv=>arg 4;simp only [hq]));clear hq))|((with_reducible first|refine c_split (fun hq=>?_) (fun hq=>?_)|refine q_split (fun hq=>?_) (fun hq=>?_))<;>(try first|(conv=>arg 8;simp only [hq])|(conv=>arg 4;simp only [hq])))|exact Sub.refl _|omega)
  refine fin_wk (wk_frzO 2000008 3000001 (by decide) (by decide) rfl (by decide) rfl ?_) ?_
  rotate_left
  (conv in hold _=>simp (disch:=omega) only [go_sem,htk,List.length_map,Nat.le_refl])
  ·refine fin_L [] ?_ ?_ rfl ?_
   repeat' (first|(conv in hold _=>simp (disch:=omega) only [go_sem])|exact trivial|exact Sub.refl _|omega)
  ·exact rows_pur _
 ·have hsub:=nin_sub a b ca cb
  have hfl:=hsub.length_le
  have h3:=tableOf_own a.w w (by omega) (ninT a b ca cb).rows (by omega) (rsw_sub hsub hr)
  rw [srt_sub hta hsub] at h3
  have hn:=shasNull_ok htb hcb
  have hfin : (a.rows.take a.rows.length).filter (fun r=>nin (valsT b cb) (colV ca r)) = (ninT a b ca cb).rows:=by rw [List.take_length]; rfl
  have htk : ((ninT a b ca cb).rows.map rowD).take (ninT a b ca cb).rows.length = (ninT a b ca cb).rows.map rowD:=take_all rowD _
  have hres : taD (ninT a b ca cb) = .agg [I a.w,rowsD (ninT a b ca cb).rows]:=rfl
  rw [hres]
  have hzz : (((b.rows.length : Nat) : Int) == 0) = false:=beq_eq_false_iff_ne.2 (by omega)
  have hem : (valsT b cb).isEmpty = false:=by
   rw [Bool.eq_false_iff]
   intro e
   have e:=List.isEmpty_iff.1 e
   have:=congrArg List.length e
   unfold valsT at this
   rw [List.length_map] at this
   exact hz this
  generalize hq : (fun r=>nin (valsT b cb) (colV ca r)) = p at hfin
  have hqa : ∀ x,p x = (!nul (valsT b cb) && !(colV ca x).b && !mch (valsT b cb) (colV ca x)):=fun x=>by
   rw [← hq]
   show nin _ _ = _
   unfold nin
   rw [hem]
   rfl
  refine does0 c_Z65 mixed (Nat.le_of_ble_eq_true rfl) ?_
  conv=>arg 3; whnf
  repeat' (first|with_reducible refine acc_none ?_ | (conv in hold _=>simp (disch:=omega) only [go_sem,List.length_map,hzz])|refine Stp.go ?_|(with_reducible first|refine it_pos rfl ?_|refine it_neg (by decide) ?_|refine st_nil rfl ?_|refine s_op ?_ ?_|exact trivial)|((with_reducible first|refine dw_reg0 ?_|refine dw_regB ?_);(conv=>arg 3;whnf))|(refine Spl.go (fun hq he=>?_) (fun hq he=>?_)<;>first|(exfalso;clear hq;omega)|((try first|(conv=>arg 8;simp only [hq])|(conv=>arg 4;simp only [hq]));clear hq))|((with_reducible first|refine c_split (fun hq=>?_) (fun hq=>?_)|refine q_split (fun hq=>?_) (fun hq=>?_))<;>(try first|(conv=>arg 8;simp only [hq])|(conv=>arg 4;simp only [hq])))|(with_reducible refine fin_0 ?_ (by first|rfl|(conv=>lhs;simp only [go_sem,List.length_map,hzz])) ?_)|exact Sub.refl _|omega)
  refine c_doesE (h1) ?_ ?_ ?_
  ·((try (conv=>rhs;simp (disch:=omega) only [go_sem,List.length_map,hzz])); try rfl)
  ·first|rfl|(conv=>lhs;simp only [go_sem,List.length_map,hzz])
  repeat' (first|with_reducible refine acc_none ?_ | (conv in hold _=>simp (disch:=omega) only [go_sem,List.length_map,hzz])|refine Stp.go ?_|(with_reducible first|refine it_pos rfl ?_|refine it_neg (by decide) ?_|refine st_nil rfl ?_|refine s_op ?_ ?_|exact trivial)|((with_reducible first|refine dw_reg0 ?_|refine dw_regB ?_);(conv=>arg 3;whnf))|(refine Spl.go (fun hq he=>?_) (fun hq he=>?_)<;>first|(exfalso;clear hq;omega)|((try first|(conv=>arg 8;simp only [hq])|(conv=>arg 4;simp only [hq]));clear hq))|((with_reducible first|refine c_split (fun hq=>?_) (fun hq=>?_)|refine q_split (fun hq=>?_) (fun hq=>?_))<;>(try first|(conv=>arg 8;simp only [hq])|(conv=>arg 4;simp only [hq])))|(with_reducible refine fin_0 ?_ (by first|rfl|(conv=>lhs;simp only [go_sem,List.length_map,hzz])) ?_)|exact Sub.refl _|omega)
  refine dw_for (c:=4) (l:=fun i=>[(2,I ca),(3,I cb),(4,.ref 1000000 0),(5,.ref 1000001 0),(8,.ref 1000002 0),(10,.own 1000003 1 ((a.rows.take i).filter p).length),(11,I i),(1000000,.obj [I a.w,rowsD a.rows]),(1000001,.obj [I b.w,rowsD b.rows]),(1000002,.obj [I 0,.nul]),(1000003,.row 1 (((a.rows.take i).filter p).map rowD))]) a.rows.length (fun _=>True) 0 trivial ((wk_row 10 2000090 1 (by decide) (by decide) rfl rfl).trans (Wk.list [2000004,2000005,2000008,2000090] rfl rfl ?_)) (fun i hi _=>?_) (Nat.zero_le _)
  ·repeat' (first|(conv in hold _=>simp (disch:=omega) only [go_sem])|exact trivial|exact Sub.refl _|omega)
   first | exact rfl | exact ⟨rfl,rfl⟩ | exact ⟨rfl,rfl,rfl⟩
  ·have hfi:=filt_len p a.rows i hi
   have htm : (((a.rows.take i).filter p).map rowD).take ((a.rows.take i).filter p).length = ((a.rows.take i).filter p).map rowD:=take_all rowD _
   rcases at_or_end hi with ⟨x,hx,hlt⟩ | rfl
   ·have hxr:=hr x (List.mem_of_getElem? hx)
    have hv:=colV_at (c:=ca) (r:=x) (by omega)
    have hm:=smatches_ok htb hcb (colV ca x)
    have hpx:=hqa x
    generalize nul (valsT b cb) = q at hn hpx
    generalize mch (valsT b cb) (colV ca x) = m at hm hpx
    generalize hvb : (colV ca x).b = vb at hpx
    cases q with
    | true=>
     have e:=filt_f hx hpx
     repeat' (first|with_reducible refine acc_none ?_ | (conv in hold _=>simp (disch:=omega) only [go_sem,List.getElem?_map,hx,hv,Option.map_some])|refine Stp.go ?_|(with_reducible first|refine it_pos rfl ?_|refine it_neg (by decide) ?_|refine st_nil rfl ?_|refine s_op ?_ ?_|exact trivial)|((with_reducible first|refine dw_reg0 ?_|refine dw_regB ?_);(conv=>arg 3;whnf))|(refine Spl.go (fun hq he=>?_) (fun hq he=>?_)<;>first|(exfalso;clear hq;omega)|((try first|(conv=>arg 8;simp only [hq])|(conv=>arg 4;simp only [hq]));clear hq))|((with_reducible first|refine c_split (fun hq=>?_) (fun hq=>?_)|refine q_split (fun hq=>?_) (fun hq=>?_))<;>(try first|(conv=>arg 8;simp only [hq])|(conv=>arg 4;simp only [hq])))|(with_reducible refine fin_0 ?_ (by first|rfl|(conv=>lhs;simp only [go_sem,List.getElem?_map,hx,hv,Option.map_some])) ?_)|exact Sub.refl _|omega)
     refine c_doesE (hn) ?_ ?_ ?_
     ·((try (conv=>rhs;simp (disch:=omega) only [go_sem,List.getElem?_map,hx,hv,Option.map_some,hvb])); try rfl)
     ·first|rfl|(conv=>lhs;simp only [go_sem,List.getElem?_map,hx,hv,Option.map_some,hvb])
     repeat' (first|with_reducible refine acc_none ?_ | (conv in hold _=>simp (disch:=omega) only [go_sem,List.getElem?_map,hx,hv,Option.map_some,hvb])|refine Stp.go ?_|(with_reducible first|refine it_pos rfl ?_|refine it_neg (by decide) ?_|refine st_nil rfl ?_|refine s_op ?_ ?_|exact trivial)|((with_reducible first|refine dw_reg0 ?_|refine dw_regB ?_);(conv=>arg 3;whnf))|(refine Spl.go (fun hq he=>?_) (fun hq he=>?_)<;>first|(exfalso;clear hq;omega)|((try first|(conv=>arg 8;simp only [hq])|(conv=>arg 4;simp only [hq]));clear hq))|((with_reducible first|refine c_split (fun hq=>?_) (fun hq=>?_)|refine q_split (fun hq=>?_) (fun hq=>?_))<;>(try first|(conv=>arg 8;simp only [hq])|(conv=>arg 4;simp only [hq])))|(with_reducible refine fin_0 ?_ (by first|rfl|(conv=>lhs;simp only [go_sem,List.getElem?_map,hx,hv,Option.map_some,hvb])) ?_)|exact Sub.refl _|omega)
     refine ⟨hlt,trivial,Wk.list [1000000,1000001,1000002,1000003] rfl rfl ?_⟩
     repeat' (first|(conv in hold _=>simp (disch:=omega) only [go_sem,e])|exact trivial|exact Sub.refl _|omega)
    | false=>
     cases vb with
     | true=>
      have e:=filt_f hx hpx
      repeat' (first|with_reducible refine acc_none ?_ | (conv in hold _=>simp (disch:=omega) only [go_sem,List.getElem?_map,hx,hv,Option.map_some])|refine Stp.go ?_|(with_reducible first|refine it_pos rfl ?_|refine it_neg (by decide) ?_|refine st_nil rfl ?_|refine s_op ?_ ?_|exact trivial)|((with_reducible first|refine dw_reg0 ?_|refine dw_regB ?_);(conv=>arg 3;whnf))|(refine Spl.go (fun hq he=>?_) (fun hq he=>?_)<;>first|(exfalso;clear hq;omega)|((try first|(conv=>arg 8;simp only [hq])|(conv=>arg 4;simp only [hq]));clear hq))|((with_reducible first|refine c_split (fun hq=>?_) (fun hq=>?_)|refine q_split (fun hq=>?_) (fun hq=>?_))<;>(try first|(conv=>arg 8;simp only [hq])|(conv=>arg 4;simp only [hq])))|(with_reducible refine fin_0 ?_ (by first|rfl|(conv=>lhs;simp only [go_sem,List.getElem?_map,hx,hv,Option.map_some])) ?_)|exact Sub.refl _|omega)
      refine c_doesE (hn) ?_ ?_ ?_
      ·((try (conv=>rhs;simp (disch:=omega) only [go_sem,List.getElem?_map,hx,hv,Option.map_some,hvb])); try rfl)
      ·first|rfl|(conv=>lhs;simp only [go_sem,List.getElem?_map,hx,hv,Option.map_some,hvb])
      repeat' (first|with_reducible refine acc_none ?_ | (conv in hold _=>simp (disch:=omega) only [go_sem,List.getElem?_map,hx,hv,Option.map_some,hvb])|refine Stp.go ?_|(with_reducible first|refine it_pos rfl ?_|refine it_neg (by decide) ?_|refine st_nil rfl ?_|refine s_op ?_ ?_|exact trivial)|((with_reducible first|refine dw_reg0 ?_|refine dw_regB ?_);(conv=>arg 3;whnf))|(refine Spl.go (fun hq he=>?_) (fun hq he=>?_)<;>first|(exfalso;clear hq;omega)|((try first|(conv=>arg 8;simp only [hq])|(conv=>arg 4;simp only [hq]));clear hq))|((with_reducible first|refine c_split (fun hq=>?_) (fun hq=>?_)|refine q_split (fun hq=>?_) (fun hq=>?_))<;>(try first|(conv=>arg 8;simp only [hq])|(conv=>arg 4;simp only [hq])))|(with_reducible refine fin_0 ?_ (by first|rfl|(conv=>lhs;simp only [go_sem,List.getElem?_map,hx,hv,Option.map_some,hvb])) ?_)|exact Sub.refl _|omega)
      refine ⟨hlt,trivial,Wk.list [1000000,1000001,1000002,1000003] rfl rfl ?_⟩
      repeat' (first|(conv in hold _=>simp (disch:=omega) only [go_sem,e])|exact trivial|exact Sub.refl _|omega)
     | false=>
      cases m with
      | true=>
       have e:=filt_f hx hpx
       repeat' (first|with_reducible refine acc_none ?_ | (conv in hold _=>simp (disch:=omega) only [go_sem,List.getElem?_map,hx,hv,Option.map_some])|refine Stp.go ?_|(with_reducible first|refine it_pos rfl ?_|refine it_neg (by decide) ?_|refine st_nil rfl ?_|refine s_op ?_ ?_|exact trivial)|((with_reducible first|refine dw_reg0 ?_|refine dw_regB ?_);(conv=>arg 3;whnf))|(refine Spl.go (fun hq he=>?_) (fun hq he=>?_)<;>first|(exfalso;clear hq;omega)|((try first|(conv=>arg 8;simp only [hq])|(conv=>arg 4;simp only [hq]));clear hq))|((with_reducible first|refine c_split (fun hq=>?_) (fun hq=>?_)|refine q_split (fun hq=>?_) (fun hq=>?_))<;>(try first|(conv=>arg 8;simp only [hq])|(conv=>arg 4;simp only [hq])))|(with_reducible refine fin_0 ?_ (by first|rfl|(conv=>lhs;simp only [go_sem,List.getElem?_map,hx,hv,Option.map_some])) ?_)|exact Sub.refl _|omega)
       refine c_doesE (hn) ?_ ?_ ?_
       ·((try (conv=>rhs;simp (disch:=omega) only [go_sem,List.getElem?_map,hx,hv,Option.map_some,hvb])); try rfl)
       ·first|rfl|(conv=>lhs;simp only [go_sem,List.getElem?_map,hx,hv,Option.map_some,hvb])
       repeat' (first|with_reducible refine acc_none ?_ | (conv in hold _=>simp (disch:=omega) only [go_sem,List.getElem?_map,hx,hv,Option.map_some,hvb])|refine Stp.go ?_|(with_reducible first|refine it_pos rfl ?_|refine it_neg (by decide) ?_|refine st_nil rfl ?_|refine s_op ?_ ?_|exact trivial)|((with_reducible first|refine dw_reg0 ?_|refine dw_regB ?_);(conv=>arg 3;whnf))|(refine Spl.go (fun hq he=>?_) (fun hq he=>?_)<;>first|(exfalso;clear hq;omega)|((try first|(conv=>arg 8;simp only [hq])|(conv=>arg 4;simp only [hq]));clear hq))|((with_reducible first|refine c_split (fun hq=>?_) (fun hq=>?_)|refine q_split (fun hq=>?_) (fun hq=>?_))<;>(try first|(conv=>arg 8;simp only [hq])|(conv=>arg 4;simp only [hq])))|(with_reducible refine fin_0 ?_ (by first|rfl|(conv=>lhs;simp only [go_sem,List.getElem?_map,hx,hv,Option.map_some,hvb])) ?_)|exact Sub.refl _|omega)
       refine c_doesE (hm) ?_ ?_ ?_
       ·((try (conv=>rhs;simp (disch:=omega) only [go_sem,List.getElem?_map,hx,hv,Option.map_some,hvb])); try rfl)
       ·first|rfl|(conv=>lhs;simp only [go_sem,List.getElem?_map,hx,hv,Option.map_some,hvb])
       repeat' (first|with_reducible refine acc_none ?_ | (conv in hold _=>simp (disch:=omega) only [go_sem,List.getElem?_map,hx,hv,Option.map_some,hvb])|refine Stp.go ?_|(with_reducible first|refine it_pos rfl ?_|refine it_neg (by decide) ?_|refine st_nil rfl ?_|refine s_op ?_ ?_|exact trivial)|((with_reducible first|refine dw_reg0 ?_|refine dw_regB ?_);(conv=>arg 3;whnf))|(refine Spl.go (fun hq he=>?_) (fun hq he=>?_)<;>first|(exfalso;clear hq;omega)|((try first|(conv=>arg 8;simp only [hq])|(conv=>arg 4;simp only [hq]));clear hq))|((with_reducible first|refine c_split (fun hq=>?_) (fun hq=>?_)|refine q_split (fun hq=>?_) (fun hq=>?_))<;>(try first|(conv=>arg 8;simp only [hq])|(conv=>arg 4;simp only [hq])))|(with_reducible refine fin_0 ?_ (by first|rfl|(conv=>lhs;simp only [go_sem,List.getElem?_map,hx,hv,Option.map_some,hvb])) ?_)|exact Sub.refl _|omega)
       refine ⟨hlt,trivial,Wk.list [1000000,1000001,1000002,1000003] rfl rfl ?_⟩
       repeat' (first|(conv in hold _=>simp (disch:=omega) only [go_sem,e])|exact trivial|exact Sub.refl _|omega)
      | false=>
       have e:=filt_t hx hpx
       repeat' (first|with_reducible refine acc_none ?_ | (conv in hold _=>simp (disch:=omega) only [go_sem,List.getElem?_map,hx,hv,Option.map_some])|refine Stp.go ?_|(with_reducible first|refine it_pos rfl ?_|refine it_neg (by decide) ?_|refine st_nil rfl ?_|refine s_op ?_ ?_|exact trivial)|((with_reducible first|refine dw_reg0 ?_|refine dw_regB ?_);(conv=>arg 3;whnf))|(refine Spl.go (fun hq he=>?_) (fun hq he=>?_)<;>first|(exfalso;clear hq;omega)|((try first|(conv=>arg 8;simp only [hq])|(conv=>arg 4;simp only [hq]));clear hq))|((with_reducible first|refine c_split (fun hq=>?_) (fun hq=>?_)|refine q_split (fun hq=>?_) (fun hq=>?_))<;>(try first|(conv=>arg 8;simp only [hq])|(conv=>arg 4;simp only [hq])))|(with_reducible refine fin_0 ?_ (by first|rfl|(conv=>lhs;simp only [go_sem,List.getElem?_map,hx,hv,Option.map_some])) ?_)|exact Sub.refl _|omega)
       refine c_doesE (hn) ?_ ?_ ?_
       ·((try (conv=>rhs;simp (disch:=omega) only [go_sem,List.getElem?_map,hx,hv,Option.map_some,hvb])); try rfl)
       ·first|rfl|(conv=>lhs;simp only [go_sem,List.getElem?_map,hx,hv,Option.map_some,hvb])
       repeat' (first|with_reducible refine acc_none ?_ | (conv in hold _=>simp (disch:=omega) only [go_sem,List.getElem?_map,hx,hv,Option.map_some,hvb])|refine Stp.go ?_|(with_reducible first|refine it_pos rfl ?_|refine it_neg (by decide) ?_|refine st_nil rfl ?_|refine s_op ?_ ?_|exact trivial)|((with_reducible first|refine dw_reg0 ?_|refine dw_regB ?_);(conv=>arg 3;whnf))|(refine Spl.go (fun hq he=>?_) (fun hq he=>?_)<;>first|(exfalso;clear hq;omega)|((try first|(conv=>arg 8;simp only [hq])|(conv=>arg 4;simp only [hq]));clear hq))|((with_reducible first|refine c_split (fun hq=>?_) (fun hq=>?_)|refine q_split (fun hq=>?_) (fun hq=>?_))<;>(try first|(conv=>arg 8;simp only [hq])|(conv=>arg 4;simp only [hq])))|(with_reducible refine fin_0 ?_ (by first|rfl|(conv=>lhs;simp only [go_sem,List.getElem?_map,hx,hv,Option.map_some,hvb])) ?_)|exact Sub.refl _|omega)
       refine c_doesE (hm) ?_ ?_ ?_
       ·((try (conv=>rhs;simp (disch:=omega) only [go_sem,List.getElem?_map,hx,hv,Option.map_some,hvb,htm])); try rfl)
       ·first|rfl|(conv=>lhs;simp only [go_sem,List.getElem?_map,hx,hv,Option.map_some,hvb,htm])
       repeat' (first|with_reducible refine acc_none ?_ | (conv in hold _=>simp (disch:=omega) only [go_sem,List.getElem?_map,hx,hv,Option.map_some,hvb,htm])|refine Stp.go ?_|(with_reducible first|refine it_pos rfl ?_|refine it_neg (by decide) ?_|refine st_nil rfl ?_|refine s_op ?_ ?_|exact trivial)|((with_reducible first|refine dw_reg0 ?_|refine dw_regB ?_);(conv=>arg 3;whnf))|(refine Spl.go (fun hq he=>?_) (fun hq he=>?_)<;>first|(exfalso;clear hq;omega)|((try first|(conv=>arg 8;simp only [hq])|(conv=>arg 4;simp only [hq]));clear hq))|((with_reducible first|refine c_split (fun hq=>?_) (fun hq=>?_)|refine q_split (fun hq=>?_) (fun hq=>?_))<;>(try first|(conv=>arg 8;simp only [hq])|(conv=>arg 4;simp only [hq])))|(with_reducible refine fin_0 ?_ (by first|rfl|(conv=>lhs;simp only [go_sem,List.getElem?_map,hx,hv,Option.map_some,hvb,htm])) ?_)|exact Sub.refl _|omega)
       refine ⟨hlt,trivial,Wk.list [1000000,1000001,1000002,2000073] rfl rfl ?_⟩
       repeat' (first|(conv in hold _=>simp (disch:=omega) only [go_sem,e,htm])|exact trivial|exact Sub.refl _|omega)
       rw [List.map_append]
       rfl
   ·rw [hfin]
    repeat' ((fail_if_success (with_reducible first | refine s_call ?_ | refine s_cal ?_ | refine s_inv ?_)); first | with_reducible refine acc_none ?_ | (conv in hold _=>simp (disch:=omega) only [go_sem])|refine Stp.go ?_|(with_reducible first|refine it_pos rfl ?_|refine it_neg (by decide) ?_|refine st_nil rfl ?_|refine s_op ?_ ?_|exact trivial)|((with_reducible first|refine dw_reg0 ?_|refine dw_regB ?_);(conv=>arg 3;whnf))|(refine Spl.go (fun hq he=>?_) (fun hq he=>?_)<;>first|(exfalso;clear hq;omega)|((try first|(conv=>arg 8;simp only [hq])|(conv=>arg 4;simp only [hq]));clear hq))|((with_reducible first|refine c_split (fun hq=>?_) (fun hq=>?_)|refine q_split (fun hq=>?_) (fun hq=>?_))<;>(try first|(conv=>arg 8;simp only [hq])|(conv=>arg 4;simp only [hq])))|exact Sub.refl _|omega)
    refine s_pre (pre_frz (t:=76) (g:=1000003) (by decide) (by decide) rfl ?_) ?_
    rotate_left
    repeat' (first|with_reducible refine acc_none ?_ | (conv in hold _=>simp (disch:=omega) only [go_sem,htk,List.length_map,Nat.le_refl])|refine Stp.go ?_|(with_reducible first|refine it_pos rfl ?_|refine it_neg (by decide) ?_|refine st_nil rfl ?_|refine s_op ?_ ?_|exact trivial)|((with_reducible first|refine dw_reg0 ?_|refine dw_regB ?_);(conv=>arg 3;whnf))|(refine Spl.go (fun hq he=>?_) (fun hq he=>?_)<;>first|(exfalso;clear hq;omega)|((try first|(conv=>arg 8;simp only [hq])|(conv=>arg 4;simp only [hq]));clear hq))|((with_reducible first|refine c_split (fun hq=>?_) (fun hq=>?_)|refine q_split (fun hq=>?_) (fun hq=>?_))<;>(try first|(conv=>arg 8;simp only [hq])|(conv=>arg 4;simp only [hq])))|exact Sub.refl _|omega)
    refine c_doesR [3000001] (h3) (callOK_of rfl (Nat.le_of_ble_eq_true rfl) rfl ?_ ?_) ?_ ?_
    ·repeat' (first|(conv in hold _=>simp (disch:=omega) only [go_sem])|exact trivial|exact Sub.refl _|omega)
    ·repeat' (first|(conv in hold _=>simp (disch:=omega) only [go_sem])|exact trivial|exact Sub.refl _|omega)
    ·((conv=>rhs;simp (disch:=omega) only [go_sem]); try rfl)
    repeat' (first|with_reducible refine acc_none ?_ | (conv in hold _=>simp (disch:=omega) only [go_sem])|refine Stp.go ?_|(with_reducible first|refine it_pos rfl ?_|refine it_neg (by decide) ?_|refine st_nil rfl ?_|refine s_op ?_ ?_|exact trivial)|((with_reducible first|refine dw_reg0 ?_|refine dw_regB ?_);(conv=>arg 3;whnf))|(refine Spl.go (fun hq he=>?_) (fun hq he=>?_)<;>first|(exfalso;clear hq;omega)|((try first|(conv=>arg 8;simp only [hq])|(conv=>arg 4;simp only [hq]));clear hq))|((with_reducible first|refine c_split (fun hq=>?_) (fun hq=>?_)|refine q_split (fun hq=>?_) (fun hq=>?_))<;>(try first|(conv=>arg 8;simp only [hq])|(conv=>arg 4;simp only [hq])))|exact Sub.refl _|omega)
    ·refine fin_wk (wk_frzO 1000002 3000001 (by decide) (by decide) rfl (by decide) rfl ?_) ?_
     rotate_left
     (conv in hold _=>simp (disch:=omega) only [go_sem,htk,List.length_map,Nat.le_refl])
     ·refine fin_L [] ?_ ?_ rfl ?_
      repeat' (first|(conv in hold _=>simp (disch:=omega) only [go_sem])|exact trivial|exact Sub.refl _|omega)
     ·exact rows_pur _
    ·exact rows_pur _
theorem NotIn_spec_fN {a b : Ta} (ha : rsz a.rows ≤ 1048576) (hb : rsz b.rows ≤ 1048576) {ca cb : Int} (h : ¬ joinT a b ca cb) : Does Try.prog 43 [] [taD a,taD b,I ca,I cb] (.tup [taD ⟨0,[]⟩,Bo false]) []:=by
 have h1:=validJoinN a b ha hb ca cb
 rw [decide_eq_false h] at h1
 refine does0 c_Z65 mixed (Nat.le_of_ble_eq_true rfl) ?_
 conv=>arg 3; whnf
 repeat' (first|with_reducible refine acc_none ?_ | (conv in hold _=>simp (disch:=omega) only [go_sem])|refine Stp.go ?_|(with_reducible first|refine it_pos rfl ?_|refine it_neg (by decide) ?_|refine st_nil rfl ?_|refine s_op ?_ ?_|exact trivial)|((with_reducible first|refine dw_reg0 ?_|refine dw_regB ?_);(conv=>arg 3;whnf))|(refine Spl.go (fun hq he=>?_) (fun hq he=>?_)<;>first|(exfalso;clear hq;omega)|((try first|(conv=>arg 8;simp only [hq])|(conv=>arg 4;simp only [hq]));clear hq))|((with_reducible first|refine c_split (fun hq=>?_) (fun hq=>?_)|refine q_split (fun hq=>?_) (fun hq=>?_))<;>(try first|(conv=>arg 8;simp only [hq])|(conv=>arg 4;simp only [hq])))|(with_reducible refine fin_0 ?_ (by first|rfl|(conv=>lhs;simp only [go_sem])) ?_)|exact Sub.refl _|omega)
 refine c_doesE (h1) ?_ ?_ ?_
 ·((try (conv=>rhs;simp (disch:=omega) only [go_sem])); try rfl)
 ·first|rfl|(conv=>lhs;simp only [go_sem])
 repeat' (first|with_reducible refine acc_none ?_ | (conv in hold _=>simp (disch:=omega) only [go_sem])|refine Stp.go ?_|(with_reducible first|refine it_pos rfl ?_|refine it_neg (by decide) ?_|refine st_nil rfl ?_|refine s_op ?_ ?_|exact trivial)|((with_reducible first|refine dw_reg0 ?_|refine dw_regB ?_);(conv=>arg 3;whnf))|(refine Spl.go (fun hq he=>?_) (fun hq he=>?_)<;>first|(exfalso;clear hq;omega)|((try first|(conv=>arg 8;simp only [hq])|(conv=>arg 4;simp only [hq]));clear hq))|((with_reducible first|refine c_split (fun hq=>?_) (fun hq=>?_)|refine q_split (fun hq=>?_) (fun hq=>?_))<;>(try first|(conv=>arg 8;simp only [hq])|(conv=>arg 4;simp only [hq])))|(with_reducible refine fin_0 ?_ (by first|rfl|(conv=>lhs;simp only [go_sem])) ?_)|exact Sub.refl _|omega)
 exact sub_zero
theorem NotIn_rc_t {a b : Ta} (ha : rsz a.rows ≤ 1048576) (hb : rsz b.rows ≤ 1048576) {ca cb : Nat} (h : joinT a b ca cb) : RCalls Try.prog 44 [] [taD a,taD b,I ca,I cb] [⟨0,1,(ninT a b ca cb).rows.map rowD⟩] 1 (.tup [tK 0 (ninT a b ca cb),Bo true]):=by
 have h1:=haveColumns_ok a b ha hb ca cb
 rw [decide_eq_true h] at h1
 obtain ⟨⟨hta,_,hca⟩,htb,_,hcb⟩:=h
 obtain ⟨w,hw,hw6,hr,_,hl4⟩:=tOk_nat hta
 obtain ⟨s,⟨hp,hs⟩,h2⟩:=matcherFor_ok htb (by obtain ⟨_,_,_,_,_,h4⟩:=tOk_nat htb; exact h4) hcb ca
 have hsl : s.length ≤ 400:=by rw [hp.length_eq]; unfold valsT; rw [List.length_map]; obtain ⟨_,_,_,_,_,h4⟩:=tOk_nat htb; exact h4
 have hsok : ∀ v,v ∈ s → v.ok:=fun v hv=>valsT_ok htb hcb v (hp.mem_iff.1 hv)
 have h3:=keptRows_rc hta (T:=108) (f:=201) (by kernel_rfl) ca s (fun r=>nin (valsT b cb) (colV ca r)) (fun x hx=>by
  have hxr:=hr x hx
  have hv:=colV_at (c:=ca) (r:=x) (by omega)
  have:=notIn_ok hv hsl hsok (hxr.2 _ (List.mem_of_getElem? hv)) hs
  rw [nin_perm hp] at this
  exact this)
 refine rcT_of c_Z64 mixed (ninT a b ca cb) true (Nat.le_of_ble_eq_true rfl) (fun m0=>?_)
 have h4 : RCalls Try.prog 83 [] _ [⟨0,1,(ninT a b ca cb).rows.map rowD⟩] 1 (tK 0 (ninT a b ca cb)):=h3
 rcases kD_two 0 1 ((ninT a b ca cb).rows.map rowD) with k1 | k1
 all_goals (
  conv=>arg 3; whnf
  repeat' (first|with_reducible refine acc_none ?_ | (conv in hold _=>simp (disch:=omega) only [go_sem])|refine Stp.go ?_|(with_reducible first|refine it_pos rfl ?_|refine it_neg (by decide) ?_|refine st_nil rfl ?_|refine s_op ?_ ?_|exact trivial)|((with_reducible first|refine dw_reg0 ?_|refine dw_regB ?_);(conv=>arg 3;whnf))|(refine Spl.go (fun hq he=>?_) (fun hq he=>?_)<;>first|(exfalso;clear hq;omega)|((try first|(conv=>arg 8;simp only [hq])|(conv=>arg 4;simp only [hq]));clear hq))|((with_reducible first|refine c_split (fun hq=>?_) (fun hq=>?_)|refine q_split (fun hq=>?_) (fun hq=>?_))<;>(try first|(conv=>arg 8;simp only [hq])|(conv=>arg 4;simp only [hq])))|(with_reducible refine fin_0 ?_ (by first|rfl|(conv=>lhs;simp only [go_sem])) ?_)|exact Sub.refl _|omega)
  refine c_doesE (h1) ?_ ?_ ?_
  ·((try (conv=>rhs;simp (disch:=omega) only [go_sem])); try rfl)
  ·first|rfl|(conv=>lhs;simp only [go_sem])
  repeat' (first|with_reducible refine acc_none ?_ | (conv in hold _=>simp (disch:=omega) only [go_sem])|refine Stp.go ?_|(with_reducible first|refine it_pos rfl ?_|refine it_neg (by decide) ?_|refine st_nil rfl ?_|refine s_op ?_ ?_|exact trivial)|((with_reducible first|refine dw_reg0 ?_|refine dw_regB ?_);(conv=>arg 3;whnf))|(refine Spl.go (fun hq he=>?_) (fun hq he=>?_)<;>first|(exfalso;clear hq;omega)|((try first|(conv=>arg 8;simp only [hq])|(conv=>arg 4;simp only [hq]));clear hq))|((with_reducible first|refine c_split (fun hq=>?_) (fun hq=>?_)|refine q_split (fun hq=>?_) (fun hq=>?_))<;>(try first|(conv=>arg 8;simp only [hq])|(conv=>arg 4;simp only [hq])))|(with_reducible refine fin_0 ?_ (by first|rfl|(conv=>lhs;simp only [go_sem])) ?_)|exact Sub.refl _|omega)
  refine c_doesE (h2) ?_ ?_ ?_
  ·((try (conv=>rhs;simp (disch:=omega) only [go_sem])); try rfl)
  ·first|rfl|(conv=>lhs;simp only [go_sem])
  repeat' ((fail_if_success (with_reducible first | refine s_call ?_ | refine s_cal ?_ | refine s_inv ?_)); first | with_reducible refine acc_none ?_ | (conv in hold _=>simp (disch:=omega) only [go_sem])|refine Stp.go ?_|(with_reducible first|refine it_pos rfl ?_|refine it_neg (by decide) ?_|refine st_nil rfl ?_|refine s_op ?_ ?_|exact trivial)|((with_reducible first|refine dw_reg0 ?_|refine dw_regB ?_);(conv=>arg 3;whnf))|(refine Spl.go (fun hq he=>?_) (fun hq he=>?_)<;>first|(exfalso;clear hq;omega)|((try first|(conv=>arg 8;simp only [hq])|(conv=>arg 4;simp only [hq]));clear hq))|((with_reducible first|refine c_split (fun hq=>?_) (fun hq=>?_)|refine q_split (fun hq=>?_) (fun hq=>?_))<;>(try first|(conv=>arg 8;simp only [hq])|(conv=>arg 4;simp only [hq])))|(with_reducible refine fin_0 ?_ (by first|rfl|(conv=>lhs;simp only [go_sem])) ?_)|exact Sub.refl _|omega)
  refine s_new (ss:=clF (ninT a b ca cb).rows) (k:=0) (bs:=[]) (t:=0) (n:=1) tb1_lt h4 rfl rfl rfl (by decide) (by ((conv=>lhs; simp (disch:=omega) only [go_sem]); try rfl)) (by ((conv=>lhs; simp (disch:=omega) only [go_sem]); try rfl)) rfl (tK_low _ _) (rr:=.agg [I a.w,kD 0 1 ((ninT a b ca cb).rows.map rowD)]) (by rw [tK_rk]; rfl) ?_
  repeat' (first|with_reducible refine acc_none ?_ | (conv in hold _=>simp (disch:=omega) only [go_sem])|refine Stp.go ?_|(with_reducible first|refine it_pos rfl ?_|refine it_neg (by decide) ?_|refine st_nil rfl ?_|refine s_op ?_ ?_|exact trivial)|((with_reducible first|refine dw_reg0 ?_|refine dw_regB ?_);(conv=>arg 3;whnf))|(refine Spl.go (fun hq he=>?_) (fun hq he=>?_)<;>first|(exfalso;clear hq;omega)|((try first|(conv=>arg 8;simp only [hq])|(conv=>arg 4;simp only [hq]));clear hq))|((with_reducible first|refine c_split (fun hq=>?_) (fun hq=>?_)|refine q_split (fun hq=>?_) (fun hq=>?_))<;>(try first|(conv=>arg 8;simp only [hq])|(conv=>arg 4;simp only [hq])))|(with_reducible refine fin_0 ?_ (by first|rfl|(conv=>lhs;simp only [go_sem])) ?_)|exact Sub.refl _|omega)
  refine fin_RC (by ((conv=>lhs; simp (disch:=omega) only [go_sem]); try rfl)) ?_ ?_
  ·repeat' (first|(conv in hold _=>simp (disch:=omega) only [go_sem])|exact trivial|exact Sub.refl _|omega)
  ·unfold tK
   (try simp only [List.length_map])
   exact (by ((conv=>lhs; simp (disch:=omega) only [go_sem]); try rfl)))
theorem NotIn_impl_tN {a b : Ta} (ha : rsz a.rows ≤ 1048576) (hb : rsz b.rows ≤ 1048576) {ca cb : Nat} (h : joinT a b ca cb) : Does Try.prog 44 [] [taD a,taD b,I ca,I cb] (.tup [taD (ninT a b ca cb),Bo true]) []:=NotIn_impl_t ha hb h (by obtain ⟨_,_,_,_,_,h4⟩:=tOk_nat h.2.1; exact h4)
open Classical in
noncomputable def ninA (a b : Ta) (ca cb : Int) : Ta:=if joinT a b ca cb then ninT a b ca.toNat cb.toNat else ⟨0,[]⟩
theorem ninA_t {a b : Ta} {ca cb : Nat} (h : joinT a b ca cb) : ninA a b ca cb = ninT a b ca cb:=if_pos h
theorem ninA_f {a b : Ta} {ca cb : Int} (h : ¬ joinT a b ca cb) : ninA a b ca cb = ⟨0,[]⟩:=if_neg h
theorem SemiJoin_spec (a b : Ta) (ha : rsz a.rows ≤ 1048576) (hb : rsz b.rows ≤ 1048576) (ca cb : Int) : Does Try.prog 39 [] [taD a,taD b,I ca,I cb] (.tup [taD (semiA a b ca cb),Bo (joinB a b ca cb)]) []:=by
 by_cases h : joinT a b ca cb
 ·rw [joinB_t h]
  obtain ⟨m,n,rfl,rfl⟩:=joinNat h
  rw [semiA_t h]
  exact SemiJoin_spec_tN ha hb h
 ·rw [semiA_f h,joinB_f h]
  exact SemiJoin_spec_fN ha hb h
theorem SemiJoin_impl (a b : Ta) (ha : rsz a.rows ≤ 1048576) (hb : rsz b.rows ≤ 1048576) (ca cb : Int) : Does Try.prog 40 [] [taD a,taD b,I ca,I cb] (.tup [taD (semiA a b ca cb),Bo (joinB a b ca cb)]) []:=by
 by_cases h : joinT a b ca cb
 ·rw [joinB_t h]
  obtain ⟨m,n,rfl,rfl⟩:=joinNat h
  rw [semiA_t h]
  exact SemiJoin_impl_tN ha hb h
 ·rw [semiA_f h,joinB_f h]
  exact SemiJoin_impl_f ha hb h
theorem SemiJoin_rc (a b : Ta) (ha : rsz a.rows ≤ 1048576) (hb : rsz b.rows ≤ 1048576) (ca cb : Int) : RCalls Try.prog 40 [] [taD a,taD b,I ca,I cb] [⟨0,1,(semiA a b ca cb).rows.map rowD⟩] 1 (.tup [tK 0 (semiA a b ca cb),Bo (joinB a b ca cb)]):=by
 by_cases h : joinT a b ca cb
 ·rw [joinB_t h]
  obtain ⟨m,n,rfl,rfl⟩:=joinNat h
  rw [semiA_t h]
  exact SemiJoin_rc_t ha hb h
 ·rw [semiA_f h,joinB_f h]
  exact (rcalls_nil (post:=[⟨0,1,[]⟩]) (top':=0) (SemiJoin_impl_f ha hb h) rfl rfl (fun it hit=>by obtain rfl:=List.mem_singleton.1 hit; rfl)).top (by omega)
theorem semi_sz (a b : Ta) (ha : rsz a.rows ≤ 1048576) (ca cb : Int) : rsz (semiA a b ca cb).rows ≤ 1048576:=by
 by_cases h : joinT a b ca cb
 ·obtain ⟨m,n,rfl,rfl⟩:=joinNat h
  rw [semiA_t h]
  exact Nat.le_trans (rsz_sub (sem_sub a b _ _ true)) ha
 ·rw [semiA_f h]; exact Nat.zero_le _
theorem AntiJoin_spec (a b : Ta) (ha : rsz a.rows ≤ 1048576) (hb : rsz b.rows ≤ 1048576) (ca cb : Int) : Does Try.prog 41 [] [taD a,taD b,I ca,I cb] (.tup [taD (antiA a b ca cb),Bo (joinB a b ca cb)]) []:=by
 by_cases h : joinT a b ca cb
 ·rw [joinB_t h]
  obtain ⟨m,n,rfl,rfl⟩:=joinNat h
  rw [antiA_t h]
  exact AntiJoin_spec_tN ha hb h
 ·rw [antiA_f h,joinB_f h]
  exact AntiJoin_spec_fN ha hb h
theorem AntiJoin_impl (a b : Ta) (ha : rsz a.rows ≤ 1048576) (hb : rsz b.rows ≤ 1048576) (ca cb : Int) : Does Try.prog 42 [] [taD a,taD b,I ca,I cb] (.tup [taD (antiA a b ca cb),Bo (joinB a b ca cb)]) []:=by
 by_cases h : joinT a b ca cb
 ·rw [joinB_t h]
  obtain ⟨m,n,rfl,rfl⟩:=joinNat h
  rw [antiA_t h]
  exact AntiJoin_impl_tN ha hb h
 ·rw [antiA_f h,joinB_f h]
  exact AntiJoin_impl_f ha hb h
theorem AntiJoin_rc (a b : Ta) (ha : rsz a.rows ≤ 1048576) (hb : rsz b.rows ≤ 1048576) (ca cb : Int) : RCalls Try.prog 42 [] [taD a,taD b,I ca,I cb] [⟨0,1,(antiA a b ca cb).rows.map rowD⟩] 1 (.tup [tK 0 (antiA a b ca cb),Bo (joinB a b ca cb)]):=by
 by_cases h : joinT a b ca cb
 ·rw [joinB_t h]
  obtain ⟨m,n,rfl,rfl⟩:=joinNat h
  rw [antiA_t h]
  exact AntiJoin_rc_t ha hb h
 ·rw [antiA_f h,joinB_f h]
  exact (rcalls_nil (post:=[⟨0,1,[]⟩]) (top':=0) (AntiJoin_impl_f ha hb h) rfl rfl (fun it hit=>by obtain rfl:=List.mem_singleton.1 hit; rfl)).top (by omega)
theorem anti_sz (a b : Ta) (ha : rsz a.rows ≤ 1048576) (ca cb : Int) : rsz (antiA a b ca cb).rows ≤ 1048576:=by
 by_cases h : joinT a b ca cb
 ·obtain ⟨m,n,rfl,rfl⟩:=joinNat h
  rw [antiA_t h]
  exact Nat.le_trans (rsz_sub (sem_sub a b _ _ false)) ha
 ·rw [antiA_f h]; exact Nat.zero_le _
theorem NotIn_spec (a b : Ta) (ha : rsz a.rows ≤ 1048576) (hb : rsz b.rows ≤ 1048576) (ca cb : Int) : Does Try.prog 43 [] [taD a,taD b,I ca,I cb] (.tup [taD (ninA a b ca cb),Bo (joinB a b ca cb)]) []:=by
 by_cases h : joinT a b ca cb
 ·rw [joinB_t h]
  obtain ⟨m,n,rfl,rfl⟩:=joinNat h
  rw [ninA_t h]
  exact NotIn_spec_tN ha hb h
 ·rw [ninA_f h,joinB_f h]
  exact NotIn_spec_fN ha hb h
theorem NotIn_impl (a b : Ta) (ha : rsz a.rows ≤ 1048576) (hb : rsz b.rows ≤ 1048576) (ca cb : Int) : Does Try.prog 44 [] [taD a,taD b,I ca,I cb] (.tup [taD (ninA a b ca cb),Bo (joinB a b ca cb)]) []:=by
 by_cases h : joinT a b ca cb
 ·rw [joinB_t h]
  obtain ⟨m,n,rfl,rfl⟩:=joinNat h
  rw [ninA_t h]
  exact NotIn_impl_tN ha hb h
 ·rw [ninA_f h,joinB_f h]
  exact NotIn_impl_f ha hb h
theorem NotIn_rc (a b : Ta) (ha : rsz a.rows ≤ 1048576) (hb : rsz b.rows ≤ 1048576) (ca cb : Int) : RCalls Try.prog 44 [] [taD a,taD b,I ca,I cb] [⟨0,1,(ninA a b ca cb).rows.map rowD⟩] 1 (.tup [tK 0 (ninA a b ca cb),Bo (joinB a b ca cb)]):=by
 by_cases h : joinT a b ca cb
 ·rw [joinB_t h]
  obtain ⟨m,n,rfl,rfl⟩:=joinNat h
  rw [ninA_t h]
  exact NotIn_rc_t ha hb h
 ·rw [ninA_f h,joinB_f h]
  exact (rcalls_nil (post:=[⟨0,1,[]⟩]) (top':=0) (NotIn_impl_f ha hb h) rfl rfl (fun it hit=>by obtain rfl:=List.mem_singleton.1 hit; rfl)).top (by omega)
theorem nin_sz (a b : Ta) (ha : rsz a.rows ≤ 1048576) (ca cb : Int) : rsz (ninA a b ca cb).rows ≤ 1048576:=by
 by_cases h : joinT a b ca cb
 ·obtain ⟨m,n,rfl,rfl⟩:=joinNat h
  rw [ninA_t h]
  exact Nat.le_trans (rsz_sub (nin_sub a b _ _)) ha
 ·rw [ninA_f h]; exact Nat.zero_le _
end Go.Proofs.Ytedmegmhjmabcaa

/-
  The law that costs add up. No condition.
-/
import Derived.Test.YtpfedjaedlfdfaaKSDcWCostL
import Derived.Test.YtpfedjaedlfdfaaKSDca
import Derived.Test.YtpfedjaedlfdfaaKSVDrawU
import Derived.Test.YtpfedjaedlfdfaaKSVCstE
import Derived.Test.YtpfedjaedlfdfaaJSV0
import Derived.Test.YtpfedjaedlfdfaaJSVCall
set_option maxHeartbeats 4000000
set_option maxRecDepth 100000
set_option linter.unusedVariables false
set_option linter.unusedSimpArgs false
namespace Go.Proofs.Ytpfedjaedlfdfaa
open Go.RowKit
def BothN (ss : List St) (p : Pl) (y : Int × Int) : Prop := EstN ss p y.1 ∧ CstN ss p y.1 y.2
theorem both_step {ss : List St} (hss : ssOk ss) {p : Pl} (hp : FineE (wsS ss) p) (hs : psz p ≤ 1048576) {ys : List (Int × Int)} (hl : ys.length = p.ks.length) (hq : ∀ (i : Nat) (x : Pl) (y : Int × Int), p.ks[i]? = some x → ys[i]? = some y → BothN ss x y) :
    ∃ n : Int, EstN ss p n ∧ CstN ss p n (n + (ys.map (·.2)).sum) := by
  have hs0 := hs
  rw [psz_eq] at hs
  have hlq : (ys.map (·.1)).length = p.ks.length := by rw [List.length_map]; exact hl
  have hat : ∀ (j : Nat) (x : Pl) (a : Int), p.ks[j]? = some x → (ys.map (·.1))[j]? = some a → EstN ss x a := fun j x a hx ha => by
    rw [List.getElem?_map] at ha
    cases hy : ys[j]? with
    | none => rw [hy] at ha; cases ha
    | some y =>
      rw [hy] at ha
      cases ha
      exact (hq j x y hx hy).1
  have hr : ∀ (j : Nat) (x : Int), (ys.map (·.1))[j]? = some x → 0 ≤ x ∧ x ≤ M := fun j x hj => by
    obtain ⟨y, hy⟩ : ∃ y, p.ks[j]? = some y := ⟨_, List.getElem?_eq_getElem (by have := (List.getElem?_eq_some_iff.1 hj).1; omega)⟩
    exact (hat j y x hy hj).1.1
  obtain ⟨n, ⟨hn, hf⟩, h1, h2⟩ := part_both hss hp (by omega) hlq hr
  refine ⟨n, ⟨⟨hn, ?_⟩, h1 (fun j x m hx hm => (hat j x m hx hm).2.1), foldE_step ss p hs0 _ hlq n (fun i x c hx hc => (hat i x c hx hc).2.2) (partE_ok h2)⟩, cst_of hss hs0 hl (fun i x y hx hy => (hq i x y hx hy).2) hn h1 h2⟩
  rw [rb_eq]
  refine Int.le_trans hf.2 (rbK_mono (fun j => Int.le_refl _) _ _ _ (fun j => ?_))
  rw [getD_kid, List.getD_eq_getElem?_getD]
  cases hx : p.ks[j]? with
  | none =>
    have : (ys.map (·.1))[j]? = none := by
      rw [List.getElem?_eq_none_iff] at hx ⊢
      omega
    rw [this]
    exact ⟨Int.le_refl _, Int.le_refl _⟩
  | some x =>
    obtain ⟨m, hm⟩ : ∃ m, (ys.map (·.1))[j]? = some m := ⟨_, List.getElem?_eq_getElem (by have := (List.getElem?_eq_some_iff.1 hx).1; omega)⟩
    rw [hm]
    exact ⟨(hr j m hm).1, (hat j x m hx hm).1.2⟩
theorem both_ok {ss : List St} (hss : ssOk ss) : ∀ p : Pl, FineE (wsS ss) p → psz p ≤ 1048576 → ∃ y : Int × Int, BothN ss p y := by
  refine Pl.indA (fun p ih hp hs => ?_)
  have hs0 := hs
  rw [psz_eq] at hs
  obtain ⟨ys, hl, hq⟩ := list_of (P := BothN ss) p.ks (fun x hx => ih x hx (hp.kid hx) (by have := pszL_mem hx; omega))
  obtain ⟨n, hn⟩ := both_step hss hp hs0 hl hq
  exact ⟨(n, _), hn⟩
theorem DrawEstimateCost_ok (bs : List Nat) (hb : ∀ b, b ∈ bs → b < 256) : ∃ (x : Pl) (ss : List St), Does Try.prog 22 [] [bytesD bs] (.tup [pD x, stsD ss]) [] ∧ psz x ≤ 11100 ∧ 1 ≤ ss.length ∧ ss.length ≤ 3 := by
  obtain ⟨x, ss, hd, h⟩ := DrawEstimateRows_ok bs hb
  refine ⟨x, ss, ?_, h⟩
  refine does0 c_spec_DrawEstimateCost mixed (Nat.le_of_ble_eq_true rfl) ?_
  conv => arg 3; whnf
  repeat' (first
    | with_reducible refine acc_none ?_ | (conv in hold _=>simp (disch:=omega) only [go_sem, bytesD])|refine Stp.go ?_|(with_reducible first|refine it_pos rfl ?_|refine it_neg (by decide) ?_|refine st_nil rfl ?_|refine s_op ?_ ?_|exact trivial)|((with_reducible first|refine dw_reg0 ?_|refine dw_regB ?_);(conv=>arg 3;whnf))|(refine Spl.go (fun hq he=>?_) (fun hq he=>?_)<;>first|(exfalso;clear hq;omega)|((try first|(conv=>arg 8;simp only [hq])|(conv=>arg 4;simp only [hq]));clear hq))|((with_reducible first|refine c_split (fun hq=>?_) (fun hq=>?_)|refine q_split (fun hq=>?_) (fun hq=>?_))<;>(try first|(conv=>arg 8;simp only [hq])|(conv=>arg 4;simp only [hq])))|(with_reducible refine fin_0 ?_ (by first|rfl|(conv=>lhs;simp only [go_sem, bytesD])) ?_)
    | (with_reducible show evC _ _ _ _ _ _ _ _ _ _ _ _
       first
       | (refine c_doesE (hd) ?_ ?_ ?_
          · ((try (conv=>rhs;simp (disch:=omega) only [go_sem, bytesD])); try rfl)
          · first|rfl|(conv=>lhs;simp only [go_sem, bytesD])))|exact Sub.refl _|omega)
/-- A plan with costs: all that the law asks. -/
theorem does_FnEstimateCost (bs : List Nat) (hb : ∀ b, b ∈ bs → b < 256) : Does Try.prog 7 [] [bytesD bs] (Bo true) [] := by
  obtain ⟨x, ss, hd, hz, hl0, hl⟩ := DrawEstimateCost_ok bs hb
  by_cases hb1 : bs.length ≤ 1048576
  · by_cases hok : ssOk ss ∧ PV (wsS ss) x ≠ 0
    · obtain ⟨hss, hw⟩ := hok
      have hlw : (wsS ss).length = ss.length := List.length_map ..
      have hz' := hz
      rw [psz_eq] at hz'
      have hlen := pszL_len x.ks
      have hfine := PV_fine hw
      obtain ⟨ys, hly, hq⟩ := list_of (P := BothN ss) x.ks (fun y hy => both_ok hss y (hfine.kid hy) (by have := pszL_mem hy; omega))
      obtain ⟨n, hn, hc⟩ := both_step hss hfine (by omega) hly hq
      obtain ⟨hpv, w1, w2⟩ := PlanWidth_fn x (by omega) (wsS ss) (by omega)
      have hrw := (Rows_of hss (by omega) (by omega) w1 w2 hn).2
      obtain ⟨h1, h2⟩ := Cost_of hss (by omega) (by omega) hw hc
      obtain ⟨hc0, hcs⟩ := sumC_le x.ks ys hly (fun i a b ha hb => (hq i a b ha hb).2)
      have hlc : (ys.map (·.2)).length = x.ks.length := by rw [List.length_map]; exact hly
      have hat : ∀ (j : Nat) (y : Pl) (c : Int), x.ks[j]? = some y → (ys.map (·.2))[j]? = some c → Does Try.prog 23 [] [pD y, stsD ss] (I c) [] := fun j y c hy hc => by
        rw [List.getElem?_map] at hc
        cases hz : ys[j]? with
        | none => rw [hz] at hc; cases hc
        | some z =>
          rw [hz] at hc
          cases hc
          have hmem := List.mem_of_getElem? hy
          exact (Cost_of hss (by omega) (by have := pszL_mem hmem; omega) (PV_kid hw hmem) (hq j y z hy hz).2).2
      have hsum0 := sumT_le _ hc0 0
      rw [List.take_zero, List.sum_nil] at hsum0
      have hcr := hc.2.1
      have hn0 := hn.1.1
      generalize ys.map (·.2) = cs at *
      unfold M at *
      refine does0 c_laws_FnEstimateCost mixed (Nat.le_of_ble_eq_true rfl) ?_
      conv => arg 3; whnf
      repeat' (first
        | with_reducible refine acc_none ?_ | (conv in hold _=>simp (disch:=omega) only [go_sem, bytesD, List.length_map, beq_self_eq_true, bne_self_eq_false])|refine Stp.go ?_|(with_reducible first|refine it_pos rfl ?_|refine it_neg (by decide) ?_|refine st_nil rfl ?_|refine s_op ?_ ?_|exact trivial)|((with_reducible first|refine dw_reg0 ?_|refine dw_regB ?_);(conv=>arg 3;whnf))|(refine Spl.go (fun hq he=>?_) (fun hq he=>?_)<;>first|(exfalso;clear hq;omega)|((try first|(conv=>arg 8;simp only [hq])|(conv=>arg 4;simp only [hq]));clear hq))|((with_reducible first|refine c_split (fun hq=>?_) (fun hq=>?_)|refine q_split (fun hq=>?_) (fun hq=>?_))<;>(try first|(conv=>arg 8;simp only [hq])|(conv=>arg 4;simp only [hq])))|(with_reducible refine fin_0 ?_ (by first|rfl|(conv=>lhs;simp only [go_sem, bytesD, List.length_map, beq_self_eq_true, bne_self_eq_false])) ?_)
        | (with_reducible show evC _ _ _ _ _ _ _ _ _ _ _ _
           first
           | (refine c_doesE (hd) ?_ ?_ ?_
              · ((try (conv=>rhs;simp (disch:=omega) only [go_sem, bytesD, List.length_map, beq_self_eq_true, bne_self_eq_false])); try rfl)
              · first|rfl|(conv=>lhs;simp only [go_sem, bytesD, List.length_map, beq_self_eq_true, bne_self_eq_false]))
           | (refine c_doesE (h2) ?_ ?_ ?_
              · ((try (conv=>rhs;simp (disch:=omega) only [go_sem, bytesD, List.length_map, beq_self_eq_true, bne_self_eq_false])); try rfl)
              · first|rfl|(conv=>lhs;simp only [go_sem, bytesD, List.length_map, beq_self_eq_true, bne_self_eq_false]))
           | (refine c_doesE (h1) ?_ ?_ ?_
              · ((try (conv=>rhs;simp (disch:=omega) only [go_sem, bytesD, List.length_map, beq_self_eq_true, bne_self_eq_false])); try rfl)
              · first|rfl|(conv=>lhs;simp only [go_sem, bytesD, List.length_map, beq_self_eq_true, bne_self_eq_false]))
           | (refine c_doesE (hrw) ?_ ?_ ?_
              · ((try (conv=>rhs;simp (disch:=omega) only [go_sem, bytesD, List.length_map, beq_self_eq_true, bne_self_eq_false])); try rfl)
              · first|rfl|(conv=>lhs;simp only [go_sem, bytesD, List.length_map, beq_self_eq_true, bne_self_eq_false])))|exact Sub.refl _|omega)
      refine dw_for (c := 1) (l := fun i => [(3, .ref 1000000 0), (4, stsD ss), (5, I (n + cs.sum)), (6, I (n + (cs.take i).sum)), (7, I i), (1000000, .obj [I x.k, I x.t, .sl 5 (x.es.map eD), intsD x.cs, .sl 5 (x.ks.map pD)])]) x.ks.length (fun _ => True) 0 trivial (Wk.list [2000003] rfl rfl ?_) (fun i hi _ => ?_) (Nat.zero_le _)
      · repeat' (first|(conv in hold _=>simp (disch:=omega) only [go_sem, bytesD, List.length_map, beq_self_eq_true, bne_self_eq_false])|exact trivial|exact Sub.refl _|omega)
        exact ⟨by rw [List.sum_nil, Int.add_zero], rfl⟩
      · have hsl := sumT_le cs hc0 i
        by_cases hil : i < x.ks.length
        · obtain ⟨y, hy⟩ : ∃ y, x.ks[i]? = some y := ⟨_, List.getElem?_eq_getElem hil⟩
          obtain ⟨c, hcx, _⟩ := get_ex (ns := cs) (i := i) (by omega)
          have hsn := sum_next hcx
          have hsl2 := sumT_le cs hc0 (i + 1)
          have hix := hat i y c hy hcx
          repeat' (first
            | with_reducible refine acc_none ?_ | (conv in hold _=>simp (disch:=omega) only [go_sem, bytesD, List.length_map, beq_self_eq_true, bne_self_eq_false, List.getElem?_map, hy, Option.map_some])|refine Stp.go ?_|(with_reducible first|refine it_pos rfl ?_|refine it_neg (by decide) ?_|refine st_nil rfl ?_|refine s_op ?_ ?_|exact trivial)|((with_reducible first|refine dw_reg0 ?_|refine dw_regB ?_);(conv=>arg 3;whnf))|(refine Spl.go (fun hq he=>?_) (fun hq he=>?_)<;>first|(exfalso;clear hq;omega)|((try first|(conv=>arg 8;simp only [hq])|(conv=>arg 4;simp only [hq]));clear hq))|((with_reducible first|refine c_split (fun hq=>?_) (fun hq=>?_)|refine q_split (fun hq=>?_) (fun hq=>?_))<;>(try first|(conv=>arg 8;simp only [hq])|(conv=>arg 4;simp only [hq])))|(with_reducible refine fin_0 ?_ (by first|rfl|(conv=>lhs;simp only [go_sem, bytesD, List.length_map, beq_self_eq_true, bne_self_eq_false, List.getElem?_map, hy, Option.map_some])) ?_)
            | (with_reducible show evC _ _ _ _ _ _ _ _ _ _ _ _
               first
               | (refine c_doesE (hix) ?_ ?_ ?_
                  · ((try (conv=>rhs;simp (disch:=omega) only [go_sem, bytesD, List.length_map, beq_self_eq_true, bne_self_eq_false, List.getElem?_map, hy, Option.map_some])); try rfl)
                  · first|rfl|(conv=>lhs;simp only [go_sem, bytesD, List.length_map, beq_self_eq_true, bne_self_eq_false, List.getElem?_map, hy, Option.map_some])))|exact Sub.refl _|omega)
          refine ⟨hil, trivial, Wk.list [1000000] rfl rfl ?_⟩
          repeat' (first|(conv in hold _=>simp (disch:=omega) only [go_sem, bytesD, List.length_map, beq_self_eq_true, bne_self_eq_false])|exact trivial|exact Sub.refl _|omega)
          rw [hsn, Int.add_assoc]
        · obtain rfl : i = x.ks.length := by omega
          have e3 : cs.take x.ks.length = cs := List.take_of_length_le (by omega)
          repeat' (first|with_reducible refine acc_none ?_ | (conv in hold _=>simp (disch:=omega) only [go_sem, bytesD, List.length_map, beq_self_eq_true, bne_self_eq_false, e3])|refine Stp.go ?_|(with_reducible first|refine it_pos rfl ?_|refine it_neg (by decide) ?_|refine st_nil rfl ?_|refine s_op ?_ ?_|exact trivial)|((with_reducible first|refine dw_reg0 ?_|refine dw_regB ?_);(conv=>arg 3;whnf))|(refine Spl.go (fun hq he=>?_) (fun hq he=>?_)<;>first|(exfalso;clear hq;omega)|((try first|(conv=>arg 8;simp only [hq])|(conv=>arg 4;simp only [hq]));clear hq))|((with_reducible first|refine c_split (fun hq=>?_) (fun hq=>?_)|refine q_split (fun hq=>?_) (fun hq=>?_))<;>(try first|(conv=>arg 8;simp only [hq])|(conv=>arg 4;simp only [hq])))|(with_reducible refine fin_0 ?_ (by first|rfl|(conv=>lhs;simp only [go_sem, bytesD, List.length_map, beq_self_eq_true, bne_self_eq_false, e3])) ?_)|exact Sub.refl _|omega)
    · have hno : Does Try.prog 24 [] [pD x, stsD ss] (I (-1)) [] ∧ Does Try.prog 23 [] [pD x, stsD ss] (I (-1)) [] := by
        by_cases hss : ssOk ss
        · exact Cost_0 hss (by omega) (by omega) (Classical.byContradiction fun h => hok ⟨hss, h⟩)
        · exact Cost_no x (by omega) hss (by omega)
      obtain ⟨h1, h2⟩ := hno
      refine does0 c_laws_FnEstimateCost mixed (Nat.le_of_ble_eq_true rfl) ?_
      conv => arg 3; whnf
      repeat' (first
        | with_reducible refine acc_none ?_ | (conv in hold _=>simp (disch:=omega) only [go_sem, bytesD, List.length_map, beq_self_eq_true, bne_self_eq_false])|refine Stp.go ?_|(with_reducible first|refine it_pos rfl ?_|refine it_neg (by decide) ?_|refine st_nil rfl ?_|refine s_op ?_ ?_|exact trivial)|((with_reducible first|refine dw_reg0 ?_|refine dw_regB ?_);(conv=>arg 3;whnf))|(refine Spl.go (fun hq he=>?_) (fun hq he=>?_)<;>first|(exfalso;clear hq;omega)|((try first|(conv=>arg 8;simp only [hq])|(conv=>arg 4;simp only [hq]));clear hq))|((with_reducible first|refine c_split (fun hq=>?_) (fun hq=>?_)|refine q_split (fun hq=>?_) (fun hq=>?_))<;>(try first|(conv=>arg 8;simp only [hq])|(conv=>arg 4;simp only [hq])))|(with_reducible refine fin_0 ?_ (by first|rfl|(conv=>lhs;simp only [go_sem, bytesD, List.length_map, beq_self_eq_true, bne_self_eq_false])) ?_)
        | (with_reducible show evC _ _ _ _ _ _ _ _ _ _ _ _
           first
           | (refine c_doesE (hd) ?_ ?_ ?_
              · ((try (conv=>rhs;simp (disch:=omega) only [go_sem, bytesD, List.length_map, beq_self_eq_true, bne_self_eq_false])); try rfl)
              · first|rfl|(conv=>lhs;simp only [go_sem, bytesD, List.length_map, beq_self_eq_true, bne_self_eq_false]))
           | (refine c_doesE (h2) ?_ ?_ ?_
              · ((try (conv=>rhs;simp (disch:=omega) only [go_sem, bytesD, List.length_map, beq_self_eq_true, bne_self_eq_false])); try rfl)
              · first|rfl|(conv=>lhs;simp only [go_sem, bytesD, List.length_map, beq_self_eq_true, bne_self_eq_false]))
           | (refine c_doesE (h1) ?_ ?_ ?_
              · ((try (conv=>rhs;simp (disch:=omega) only [go_sem, bytesD, List.length_map, beq_self_eq_true, bne_self_eq_false])); try rfl)
              · first|rfl|(conv=>lhs;simp only [go_sem, bytesD, List.length_map, beq_self_eq_true, bne_self_eq_false]))
           | (refine c_doesE (h1) ?_ ?_ ?_
              · ((try (conv=>rhs;simp (disch:=omega) only [go_sem, bytesD, List.length_map, beq_self_eq_true, bne_self_eq_false])); try rfl)
              · first|rfl|(conv=>lhs;simp only [go_sem, bytesD, List.length_map, beq_self_eq_true, bne_self_eq_false])))|exact Sub.refl _|omega)
  · refine does0 c_laws_FnEstimateCost mixed (Nat.le_of_ble_eq_true rfl) ?_
    conv => arg 3; whnf
    repeat' (first|with_reducible refine acc_none ?_ | (conv in hold _=>simp (disch:=omega) only [go_sem, bytesD, List.length_map, beq_self_eq_true, bne_self_eq_false])|refine Stp.go ?_|(with_reducible first|refine it_pos rfl ?_|refine it_neg (by decide) ?_|refine st_nil rfl ?_|refine s_op ?_ ?_|exact trivial)|((with_reducible first|refine dw_reg0 ?_|refine dw_regB ?_);(conv=>arg 3;whnf))|(refine Spl.go (fun hq he=>?_) (fun hq he=>?_)<;>first|(exfalso;clear hq;omega)|((try first|(conv=>arg 8;simp only [hq])|(conv=>arg 4;simp only [hq]));clear hq))|((with_reducible first|refine c_split (fun hq=>?_) (fun hq=>?_)|refine q_split (fun hq=>?_) (fun hq=>?_))<;>(try first|(conv=>arg 8;simp only [hq])|(conv=>arg 4;simp only [hq])))|(with_reducible refine fin_0 ?_ (by first|rfl|(conv=>lhs;simp only [go_sem, bytesD, List.length_map, beq_self_eq_true, bne_self_eq_false])) ?_)|exact Sub.refl _|omega)
theorem walk_FnEstimateCost (a : Option Addr) (len cap : Nat) (zs : List Int) (w : World) (h : IsRow .u8 w a len cap zs) :
    Calls Try.prog 7 #[.slice a len cap] w fun e W' => e = .returned (.bool true) ∧ Below w.heap.size w W' := walk_of does_FnEstimateCost a len cap zs w h
end Go.Proofs.Ytpfedjaedlfdfaa
namespace Go.Proofs.Ytpfedjaedlfdfaa.fnEstimateCost
open Go.ChangeShapes Go.WideShapes Go.ChangeAt Go.RowKit Go.Joins
set_option linter.unusedVariables false
set_option maxRecDepth 100000 in
theorem lifted (os : Os) (started : os.Started) (H : Type) (enc : TypeId × Value → H) :
    ReturnsInHanded {} Try.checked os 7 .any (Rows.fnEstimateCostSpec.pre6 enc Try.prog Try.f7 Rows.fnEstimateCostRow.domain false) (Rows.fnEstimateCostSpec.post enc Try.prog Try.f7 false true false false) := by
  refine returnsInHanded_of_change (C := Try.checked) own started (by kernel_rfl) Try.func7
    (ChangeSpec.witness6 (enc := enc) (C := Try.checked) false ⟨#[], #[.slice none 0 0], []⟩ 8 (by kernel_rfl) (by kernel_rfl) (by kernel_rfl) (by kernel_rfl)) ?_
  intro W base args ds gs before hval0 hW hcnd _
  have hval : ∀ (j : Nat) t v, Try.f7.params[j]? = some t → args[j]? = some v → Value.okWide Try.prog W .any base t v := hval0
  have hW' := hW
  obtain ⟨p, q, hA0, hV, rfl, hfz, hnd⟩ := hW
  have hA : DataW.TrodAll enc Try.prog W 0 (fun _ => true) true Try.f7.params.toList args.toList ds p := hA0
  rw [Try.params7] at hA hval
  obtain ⟨v0, vs0, d0, ds0, p0, q0, hargs, rfl, rfl, h0, r0⟩ := trodAll_cons hA
  obtain ⟨rfl, rfl, rfl⟩ := trodAll_nil r0
  obtain rfl : args = #[v0] := by cases args; simp_all
  obtain ⟨rfl, rfl⟩ := trodVars_none hV
  have k0 := h0
  have lt0 : ∀ x ∈ p0, x.block < W.heap.size := by obtain ⟨m, hm⟩ := k0; exact DataW.trod_lt m _ _ _ hm
  obtain ⟨a0, len0, cap0, z0, hv0, wr0⟩ := open_code (hval 0 22 v0 rfl rfl) h0
  subst hv0
  clear hA0 hval0
  refine (walk_FnEstimateCost a0 len0 cap0 z0 W wr0).mono fun e W' ⟨he, bel⟩ => ?_
  subst he
  exact ⟨_, rfl, _, _, _, [], _, [], hW', trodAll_mk1 (shut_bool Try.underlying4 _), (trodAll_cons_mk (Below.trod laidOut (by kernel_rfl) (of_decide_eq_true (by kernel_rfl)) k0 bel lt0) trodAll_mk0), rfl, bel.frame _, fun h => by cases h⟩
theorem closed : joinedFacts Try.prog 7 Try.f7 Rows.fnEstimateCostSpec Rows.fnEstimateCostRow = true := by
  unfold joinedFacts
  exact Facts.and2 (Facts.and2 (Facts.and2 (Facts.and2 (Facts.and2 (Facts.and2 (Facts.and2 (Facts.and2 (Facts.and2 (Facts.and2 (Facts.and2 (Facts.and2 (Facts.and2 (Facts.and2 (Facts.and2 (Facts.and2 (Facts.and2 (Facts.and2 (Facts.and2 (Facts.and2 (Facts.and2 (Facts.and2 (Facts.and2 (Facts.and2 (Facts.and2 (Facts.and2 (Facts.and2 (Facts.and2 (Facts.and2 (Facts.and2 (Facts.and2 ((by as_aux_lemma => kernel_rfl)) Facts.p2) Facts.p3) (by as_aux_lemma => kernel_rfl)) (by as_aux_lemma => kernel_rfl)) (by as_aux_lemma => kernel_rfl)) Facts.p7) (by as_aux_lemma => kernel_rfl)) Facts.p9) (by as_aux_lemma => kernel_rfl)) (by as_aux_lemma => kernel_rfl)) (by as_aux_lemma => kernel_rfl)) (by as_aux_lemma => kernel_rfl)) (by as_aux_lemma => kernel_rfl)) (by as_aux_lemma => kernel_rfl)) (by as_aux_lemma => kernel_rfl)) (by as_aux_lemma => kernel_rfl)) (by as_aux_lemma => kernel_rfl)) (by as_aux_lemma => kernel_rfl)) (by as_aux_lemma => kernel_rfl)) (by as_aux_lemma => kernel_rfl)) (by as_aux_lemma => kernel_rfl)) Facts.p22) (by as_aux_lemma => kernel_rfl)) Facts.p23b) Facts.p24) Facts.p24b) Facts.p24c) (by as_aux_lemma => kernel_rfl)) (by as_aux_lemma => kernel_rfl)) (by as_aux_lemma => kernel_rfl)) (by as_aux_lemma => kernel_rfl)
theorem over : Rows.fnEstimateCostRow.holds Try.pinned (OpenSpec.ofChange Rows.fnEstimateCostSpec) :=
  OpenClaim.holds_of_wide 7 Try.f7 rfl rfl rfl rfl rfl rfl rfl ⟨rfl, rfl, rfl, rfl, rfl⟩ rfl rfl rfl rfl rfl (by as_aux_lemma => kernel_rfl) Try.func7 closed
    (of_decide_eq_true (by as_aux_lemma => kernel_rfl)) (by unfold Func.isWrapper; rw [if_neg (of_decide_eq_false (by as_aux_lemma => kernel_rfl))]; exact ⟨rfl, rfl⟩)
    (fun os started H enc _ => lifted os started H enc)
theorem proved : Rows.FnEstimateCostSaid := over
end Go.Proofs.Ytpfedjaedlfdfaa.fnEstimateCost

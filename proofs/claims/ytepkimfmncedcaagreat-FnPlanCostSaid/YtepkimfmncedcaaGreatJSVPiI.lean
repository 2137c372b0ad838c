/-
  The width of a plan out of those of its kids, in the model. No condition.
-/
import Derived.Test.YtepkimfmncedcaaGreatJSDcVWid
import Derived.Test.YtepkimfmncedcaaGreatKSDca
import Derived.Test.YtepkimfmncedcaaGreatJSVWidC
import Derived.Test.YtepkimfmncedcaaGreatJSVGo
import Derived.Test.YtepkimfmncedcaaGreatJSDcWPRowE
import Derived.Test.YtepkimfmncedcaaGreatJSVDrawTb
import Derived.Test.YtepkimfmncedcaaGreatJSVTbI
import Derived.Test.YtepkimfmncedcaaGreatJSVGateE
set_option maxHeartbeats 4000000
set_option maxRecDepth 100000
namespace Go.Proofs.YtepkimfmncedcaaGreat
open Go.RowKit
theorem one_sum {ns : List Int} {n : Int} (h : ns.length = 1) (h0 : ns[0]? = some n) : ns.sum = n := by
  match ns, h with
  | [m], _ => cases h0; simp
theorem two_sum {ns : List Int} {n m : Int} (h : ns.length = 2) (h0 : ns[0]? = some n) (h1 : ns[1]? = some m) : ns.sum = n + m := by
  match ns, h with
  | [a, b], _ => cases h0; cases h1; simp
theorem one_all {α : Type} {l : List α} {x : α} {P : α → Prop} (h : l.length = 1) (h0 : l[0]? = some x) : (∀ (j : Nat) (y : α), l[j]? = some y → P y) ↔ P x := by
  match l, h with
  | [m], _ =>
    cases h0
    refine ⟨fun h => h 0 _ rfl, fun h j y hj => ?_⟩
    rcases j with _ | j
    · cases hj; exact h
    · simp at hj
theorem planWidth_main (p : Pl) (ws : List Int) (d : Nat) (hd : d < 1000) (hd0 : 0 < d) (hf : fields p) (hk : ¬ p.k = 1) (hc : p.cs.length ≤ 1048576) (hec : p.es.length ≤ 1048576) (ns : List Int) (hl : ns.length = p.ks.length) (hn : ∀ (j : Nat) (x : Int), ns[j]? = some x → 0 ≤ x ∧ x ≤ 6)
    (hA : ∀ (i : Nat) (x : Pl) (n : Int), p.ks[i]? = some x → ns[i]? = some n → Does Tryz.prog 69 [] [pD x, intsD ws, I ((d : Int) - 1)] (I n) []) : Does Tryz.prog 69 [] [pD p, intsD ws, I d] (I (resV p ns)) [] := by
  have ho := onlyFields_ok p
  rw [decide_eq_true hf] at ho
  have hf1 := hf
  unfold fields at hf1
  have hks : 1 ≤ p.ks.length ∧ p.ks.length ≤ 2 := by omega
  refine Bg c_Z139 mixed (go1 trivial ?_)
  refine Uc trivial (ho) (go1 trivial ?_)
  refine dw_for (c := 2) (l := fun i => [(1, intsD ws), (2, I d), (3, .ref 1000000 0), (7, .own 1000001 1 i), (8, I i), (1000000, .obj [I p.k, I p.t, .sl 5 (p.es.map eD), intsD p.cs, .sl 5 (p.ks.map pD)]), (1000001, .row 1 ((ns.take i).map I))]) p.ks.length (fun i => ∀ (j : Nat) (n : Int), j < i → ns[j]? = some n → ¬ n = 0) 0 (fun j n hj => by omega) ((wk_row 7 2000045 1 (by decide) (by decide) rfl rfl).trans (Wk.list [2000003, 2000045] rfl rfl ?_)) (fun i hi hJ => ?_) (Nat.zero_le _)
  · repeat' (first|(conv in hold _=>simp (disch:=omega) only [go_sem])|exact trivial|exact Sub.refl _|omega)
    exact rfl
  · have hlt := take_len (vs := ns) (i := i) (by omega)
    have hmt := take_map I (vs := ns) (i := i) (by omega)
    by_cases hil : i < p.ks.length
    · obtain ⟨x, hx⟩ : ∃ x, p.ks[i]? = some x := ⟨_, List.getElem?_eq_getElem hil⟩
      obtain ⟨n, hnx, _⟩ := get_ex (ns := ns) (i := i) (by omega)
      have hix := hA i x n hx hnx
      have htn := take_next hnx
      by_cases hn0 : n = 0
      · rw [resV_z ⟨i, by rw [hnx, hn0]⟩]
        refine go1 @hx ?_
        exact Uc trivial (hix) (go0 trivial)
      · refine go1 @hx ?_
        refine Uc trivial (hix) (go1 trivial ?_)
        refine ⟨hil, upto1 (P := fun _ n => ¬ n = 0) hnx hn0 hJ, Wk.list [1000000, 2000045] rfl rfl ?_⟩
        repeat' (first|(conv in hold _=>simp (disch:=omega) only [go_sem])|exact trivial|exact Sub.refl _|omega)
        rw [hmt, htn, List.map_append, List.map_cons, List.map_nil]
    · obtain rfl : i = p.ks.length := by omega
      have hz : ¬ zeroIn ns := fun ⟨j, hj⟩ => hJ j 0 (by rw [← hl]; exact (List.getElem?_eq_some_iff.1 hj).1) hj rfl
      have e1 : ns.take p.ks.length = ns := List.take_of_length_le (by omega)
      obtain ⟨n0, h0, g0⟩ := get_ex (ns := ns) (i := 0) (by omega)
      have r0 := hn 0 n0 h0
      have z0 := hJ 0 n0 (by omega) h0
      by_cases h2 : p.k = 2
      · have hel : p.es.length = 1 := by omega
        obtain ⟨x, hx⟩ : ∃ x, p.es[0]? = some x := ⟨_, List.getElem?_eq_getElem (by omega)⟩
        have hs := one_sum (by omega) h0
        have hfv : fitsV p ns ↔ eOk x n0 8 := by
          unfold fitsV
          rw [if_neg (by omega), if_neg (by omega), one_all (P := fun e => (1 ≤ ns.sum ∧ ns.sum ≤ 6) ∧ eOk e ns.sum 8) hel hx, hs]
          exact ⟨fun h => h.2, fun h => ⟨by omega, h⟩⟩
        have hfi : fieldsI p := ⟨hf, by omega⟩
        have hv := ValidExpr_ok x n0 (by omega)
        by_cases hxo : eOk x n0 8
        · rw [resV_t hz hfi (hfv.2 hxo), show fromV p ns = n0 by unfold fromV; rw [if_neg (by omega), if_neg (by omega), if_neg (by omega), g0]]
          rw [decide_eq_true ⟨by omega, hxo⟩] at hv
          refine go1 (cj3 @e1 @h0 @hx) ?_
          exact Uc @h0 (hv) (go0 @h0)
        · rw [resV_f (fun h => hxo (hfv.1 h.2))]
          rw [decide_eq_false (fun h => hxo h.2)] at hv
          refine go1 (cj3 @e1 @h0 @hx) ?_
          exact Uc trivial (hv) (go0 trivial)
      · by_cases h3 : p.k = 3
        · have hs := one_sum (by omega) h0
          have hv := projectWidth_ok p.es n0 (by omega) hec
          have hfv : fitsV p ns ↔ esOk p.es n0 := by
            unfold fitsV esOk
            rw [if_neg (by omega), if_neg (by omega), hs]
            exact ⟨fun h j e hj => (h j e hj).2, fun h j e hj => ⟨by omega, h j e hj⟩⟩
          have hres : resV p ns = (if p.es.length ≤ 6 ∧ esOk p.es n0 then (p.es.length : Int) else 0) := by
            by_cases hq : p.es.length ≤ 6 ∧ esOk p.es n0
            · rw [if_pos hq]
              by_cases hpos : 1 ≤ p.es.length
              · rw [resV_t hz ⟨hf, fun _ => ⟨hpos, hq.1⟩⟩ (hfv.2 hq.2)]
                unfold fromV
                rw [if_pos h3]
              · rw [resV_f (fun h => hpos (h.1.2 h3).1)]
                omega
            · rw [if_neg hq, resV_f (fun h => hq ⟨(h.1.2 h3).2, hfv.1 h.2⟩)]
          rw [hres]
          refine go1 (cj2 @e1 @h0) ?_
          exact Uc trivial (hv) (go0 trivial)
        · have hfi : fieldsI p := ⟨hf, fun h => (h3 h).elim⟩
          by_cases h45 : p.k = 4 ∨ p.k = 5
          · have hel : p.es.length = 1 := by omega
            obtain ⟨x, hx⟩ : ∃ x, p.es[0]? = some x := ⟨_, List.getElem?_eq_getElem (by omega)⟩
            obtain ⟨n1, h1, g1⟩ := get_ex (ns := ns) (i := 1) (by omega)
            have r1 := hn 1 n1 h1
            have z1 := hJ 1 n1 (by omega) h1
            have hs := two_sum (by omega) h0 h1
            have hv := ValidExpr_ok x (n0 + n1) (by omega)
            have hfv : fitsV p ns ↔ n0 + n1 ≤ 6 ∧ eOk x (n0 + n1) 8 := by
              unfold fitsV
              rw [if_neg (by omega), if_neg (by omega), one_all (P := fun e => (1 ≤ ns.sum ∧ ns.sum ≤ 6) ∧ eOk e ns.sum 8) hel hx, hs]
              exact ⟨fun h => ⟨by omega, h.2⟩, fun h => ⟨by omega, h.2⟩⟩
            by_cases hle : n0 + n1 ≤ 6
            · by_cases hxo : eOk x (n0 + n1) 8
              · rw [resV_t hz hfi (hfv.2 ⟨hle, hxo⟩), show fromV p ns = n0 + n1 by unfold fromV; rw [if_neg h3, if_pos h45, hs]]
                rw [decide_eq_true ⟨by omega, hxo⟩] at hv
                repeat' (first|with_reducible refine acc_none ?_ | (conv in hold _=>simp (disch:=omega) only [go_sem, e1, List.getElem?_map, h0, h1, hx, Option.map_some])|refine Stp.go ?_|(with_reducible first|refine it_pos rfl ?_|refine it_neg (by decide) ?_|refine st_nil rfl ?_|refine s_op ?_ ?_|exact trivial)|((with_reducible first|refine dw_reg0 ?_|refine dw_regB ?_);(conv=>arg 3;whnf))|(refine Spl.go (fun hq he=>?_) (fun hq he=>?_)<;>first|(exfalso;clear hq;omega)|((try first|(conv=>arg 8;simp only [hq])|(conv=>arg 4;simp only [hq]));clear hq))|((with_reducible first|refine c_split (fun hq=>?_) (fun hq=>?_)|refine q_split (fun hq=>?_) (fun hq=>?_))<;>(try first|(conv=>arg 8;simp only [hq])|(conv=>arg 4;simp only [hq])))|(with_reducible refine fin_0 ?_ (by first|rfl|(conv=>lhs;simp only [go_sem, e1, List.getElem?_map, h0, h1, hx, Option.map_some])) ?_)|exact Sub.refl _|omega)
                all_goals
                  exact Uc (cj2 @h0 @h1) (hv) (go0 (cj2 @h0 @h1))
              · rw [resV_f (fun h => hxo (hfv.1 h.2).2)]
                rw [decide_eq_false (fun h => hxo h.2)] at hv
                repeat' (first|with_reducible refine acc_none ?_ | (conv in hold _=>simp (disch:=omega) only [go_sem, e1, List.getElem?_map, h0, h1, hx, Option.map_some])|refine Stp.go ?_|(with_reducible first|refine it_pos rfl ?_|refine it_neg (by decide) ?_|refine st_nil rfl ?_|refine s_op ?_ ?_|exact trivial)|((with_reducible first|refine dw_reg0 ?_|refine dw_regB ?_);(conv=>arg 3;whnf))|(refine Spl.go (fun hq he=>?_) (fun hq he=>?_)<;>first|(exfalso;clear hq;omega)|((try first|(conv=>arg 8;simp only [hq])|(conv=>arg 4;simp only [hq]));clear hq))|((with_reducible first|refine c_split (fun hq=>?_) (fun hq=>?_)|refine q_split (fun hq=>?_) (fun hq=>?_))<;>(try first|(conv=>arg 8;simp only [hq])|(conv=>arg 4;simp only [hq])))|(with_reducible refine fin_0 ?_ (by first|rfl|(conv=>lhs;simp only [go_sem, e1, List.getElem?_map, h0, h1, hx, Option.map_some])) ?_)|exact Sub.refl _|omega)
                all_goals
                  exact Uc trivial (hv) (go0 trivial)
            · rw [resV_f (fun h => hle (hfv.1 h.2).1)]
              exact go0 (cj4 @e1 @h0 @h1 @hx)
          · by_cases h6 : p.k = 6
            · obtain ⟨n1, h1, g1⟩ := get_ex (ns := ns) (i := 1) (by omega)
              have hfv : fitsV p ns ↔ n0 = n1 := by unfold fitsV; rw [if_pos h6, g0, g1]
              by_cases hq : n0 = n1
              · rw [resV_t hz hfi (hfv.2 hq), show fromV p ns = n0 by unfold fromV; rw [if_neg h3, if_neg h45, if_neg (by omega), g0]]
                exact go0 (cj3 @e1 @h0 @h1)
              · rw [resV_f (fun h => hq (hfv.1 h.2))]
                exact go0 (cj3 @e1 @h0 @h1)
            · by_cases h8 : p.k = 8
              · have hv := validCols_ok p.cs n0 (by omega) hc
                have hfv : fitsV p ns ↔ p.cs.length < 6 ∧ colsOk p.cs n0 := by unfold fitsV; rw [if_neg h6, if_pos h8, g0]
                by_cases hco : colsOk p.cs n0
                · rw [decide_eq_true hco] at hv
                  by_cases hq : p.cs.length < 6
                  · rw [resV_t hz hfi (hfv.2 ⟨hq, hco⟩), show fromV p ns = p.cs.length + 1 by unfold fromV; rw [if_neg h3, if_neg h45, if_pos h8]]
                    refine go1 (cj2 @e1 @h0) ?_
                    exact Uc trivial (hv) (go0 trivial)
                  · rw [resV_f (fun h => hq (hfv.1 h.2).1)]
                    refine go1 (cj2 @e1 @h0) ?_
                    exact Uc trivial (hv) (go0 trivial)
                · rw [decide_eq_false hco] at hv
                  rw [resV_f (fun h => hco (hfv.1 h.2).2)]
                  refine go1 (cj2 @e1 @h0) ?_
                  exact Uc trivial (hv) (go0 trivial)
              · have hel : p.es = [] := List.length_eq_zero_iff.1 (by omega)
                have hfv : fitsV p ns := by
                  unfold fitsV
                  rw [if_neg h6, if_neg h8, hel]
                  exact fun j e hj => by simp at hj
                rw [resV_t hz hfi hfv, show fromV p ns = n0 by unfold fromV; rw [if_neg h3, if_neg h45, if_neg h8, g0]]
                exact go0 (cj2 @e1 @h0)
end Go.Proofs.YtepkimfmncedcaaGreat
set_option maxHeartbeats 4000000
set_option maxRecDepth 100000
set_option linter.unusedVariables false
set_option linter.unusedSimpArgs false
namespace Go.Proofs.YtepkimfmncedcaaGreat
open Go.RowKit
structure KeyF (F : FuncId) (caps : List D) (k : List V → List V) (m : Nat) (Q : List V → Prop) : Prop where
  ent : enters Tryz.prog F = true
  pur : D.purL caps = true
  call : ∀ x y, Q x → Q y → Does Tryz.prog F [] (rowD x :: rowD y :: caps) (I (cK k x y)) []
  wid : KeyW k m Q
def curK (F : FuncId) (caps : List D) (rs : List (List V)) (row : List V) : List D := [.obj [.ref 1000002 0], .obj [rowD row], .obj [rowsD rs, .fn F caps]]
attribute [go_sem] curK
section
variable {F : FuncId} {caps : List D} {k : List V → List V} {m : Nat} {Q : List V → Prop}
theorem geK_ok (h : KeyF F caps k m Q) (rs : List (List V)) (r row : List V) (hr : Q r) (ho : Q row) : Does Tryz.prog 209 (curK F caps rs row) [rowD r, .ref 1000000 0, .ref 1000001 0] (Bo (decide (0 ≤ cK k r row))) (curK F caps rs row) := by
  have hc := h.call r row hr ho
  have hp := h.pur
  have hren := fun L => ren_pure.renL_pure L caps hp
  refine Bk c_Z10 mixed 3 (go1 (cj2 @hp @hren) ?_)
  refine v_fn (h.ent) ?_
  refine Uc (cj2 @hp @hren) (hc) (go1 (cj2 @hp @hren) ?_)
  refine fin_L [1000000, 1000001, 1000002] ?_ ?_ rfl ?_
  repeat' (first|(conv in hold _=>simp (disch:=omega) only [go_sem, hp, hren])|exact trivial|exact Sub.refl _|omega)
theorem gtK_ok (h : KeyF F caps k m Q) (rs : List (List V)) (r row : List V) (hr : Q r) (ho : Q row) : Does Tryz.prog 210 (curK F caps rs row) [rowD r, .ref 1000000 0, .ref 1000001 0] (Bo (decide (0 < cK k r row))) (curK F caps rs row) := by
  have hc := h.call r row hr ho
  have hp := h.pur
  have hren := fun L => ren_pure.renL_pure L caps hp
  refine Bk c_Z11 mixed 3 (go1 (cj2 @hp @hren) ?_)
  refine v_fn (h.ent) ?_
  refine Uc (cj2 @hp @hren) (hc) (go1 (cj2 @hp @hren) ?_)
  refine fin_L [1000000, 1000001, 1000002] ?_ ?_ rfl ?_
  repeat' (first|(conv in hold _=>simp (disch:=omega) only [go_sem, hp, hren])|exact trivial|exact Sub.refl _|omega)
theorem searchK_ok (h0 : KeyF F caps k m Q) (ls rs : List (List V)) (row : List V) (hl : rs.length ≤ 400) (f : FuncId) (hf : enters Tryz.prog f = true) (q : List V → Bool) (h : ∀ x, x ∈ rs → Does Tryz.prog f (curK F caps ls row) [rowD x, .ref 1000000 0, .ref 1000001 0] (Bo (q x)) (curK F caps ls row))
    (hq : ∀ (i j : Nat) (x y : List V), i ≤ j → rs[i]? = some x → rs[j]? = some y → q x = true → q y = true) :
    ∃ r : Nat, r ≤ rs.length ∧ (∀ (j : Nat) (x : List V), j < r → rs[j]? = some x → q x = false) ∧ (∀ (j : Nat) (x : List V), r ≤ j → rs[j]? = some x → q x = true) ∧ Does Tryz.prog 208 (curK F caps ls row) [rowsD rs, .fn f [.ref 1000000 0, .ref 1000001 0]] (I r) (curK F caps ls row) := by
  have hcp := h0.pur
  have hren := fun L => ren_pure.renL_pure L caps hcp
  have hat : ∀ (j : Nat) (x : List V), rs[j]? = some x → (fun j => q (rs.getD j [])) j = q x := fun j x hj => by
    show q (rs.getD j []) = q x
    rw [List.getD_eq_getElem?_getD, hj]
    rfl
  have hp : ∀ i j, i ≤ j → j < rs.length → (fun j => q (rs.getD j [])) i = true → (fun j => q (rs.getD j [])) j = true := fun i j hij hj hi => by
    have e1 := List.getElem?_eq_getElem (l := rs) (i := i) (by omega)
    have e2 := List.getElem?_eq_getElem hj
    rw [hat _ _ e1] at hi
    rw [hat _ _ e2]
    exact hq i j _ _ hij e1 e2 hi
  generalize (fun j => q (rs.getD j [])) = p at hat hp
  have hinv := itB_inv (p := p) (n := rs.length) hp
  have hend := hinv rs.length
  have hee : (itB p rs.length rs.length).1 = (itB p rs.length rs.length).2 := by omega
  refine ⟨(itB p rs.length rs.length).1, by omega, fun j x hj hx => ?_, fun j x hj hx => ?_, ?_⟩
  · rw [← hat j x hx]
    exact hend.2.1 j hj
  · rw [← hat j x hx]
    exact hend.2.2 j (by omega) (List.getElem?_eq_some_iff.1 hx).1
  · refine Bk c_Z14 mixed 3 (go1 (cj2 @hcp @hren) ?_)
    refine dw_for (c := 3) (l := fun i => [(0, rowsD rs), (1, .fn f [.ref 1000000 0, .ref 1000001 0]), (5, I (itB p rs.length i).1), (6, I (itB p rs.length i).2), (1000000, .obj [.ref 1000002 0]), (1000001, .obj [rowD row]), (1000002, .obj [rowsD ls, .fn F caps])]) rs.length (fun _ => True) 0 trivial (Wk.list [1000000, 1000001, 1000002] rfl rfl ?_) (fun i hi _ => ?_) (Nat.zero_le _)
    · repeat' (first|(conv in hold _=>simp (disch:=omega) only [go_sem, hren])|exact trivial|exact Sub.refl _|omega)
      exact ⟨rfl, rfl⟩
    · have hi3 := hinv i
      have hnx : itB p rs.length (i + 1) = stepB p (itB p rs.length i) := rfl
      have hstop := itB_end (p := p) (n := rs.length) (i := i)
      generalize itB p rs.length i = s at hi3 hnx hstop
      obtain ⟨lo, hi'⟩ := s
      simp only at hi3 hstop
      by_cases hlt : lo < hi'
      · have hmid : ((lo : Int) + (hi' : Int)).tdiv 2 = (((lo + hi') / 2 : Nat) : Int) := by
          rw [Int.tdiv_eq_ediv_of_nonneg (by omega)]
          omega
        have hw : IntKind.i64.wrap (((lo + hi') / 2 : Nat) : Int) = (((lo + hi') / 2 : Nat) : Int) := wrap64 (by omega) (by omega)
        have hx := List.getElem?_eq_getElem (l := rs) (i := (lo + hi') / 2) (by omega)
        generalize rs[(lo + hi') / 2]'(by omega) = x at hx
        have hfx := h x (List.mem_of_getElem? hx)
        rw [← hat _ x hx] at hfx
        have hmr : (lo + hi') / 2 < rs.length := by omega
        unfold stepB at hnx
        simp only [hlt, if_true] at hnx
        generalize (lo + hi') / 2 = c at hmid hw hx hfx hmr hnx
        cases hm : p c with
        | true =>
          rw [hm] at hfx
          rw [hm] at hnx
          simp only [if_true] at hnx
          refine go1 (cj3 @hmid @hw @hx) ?_
          refine v_fn (hf) ?_
          refine UcR [1000000, 1000001, 1000002] @hren (hfx) (go1 @hren ?_)
          refine ⟨by omega, trivial, Wk.list [1000000, 1000001, 1000002] rfl rfl ?_⟩
          repeat' (first|(conv in hold _=>simp (disch:=omega) only [go_sem, hnx, hren])|exact trivial|exact Sub.refl _|omega)
        | false =>
          rw [hm] at hfx
          rw [hm] at hnx
          simp only [Bool.false_eq_true, if_false] at hnx
          refine go1 (cj3 @hmid @hw @hx) ?_
          refine v_fn (hf) ?_
          refine UcR [1000000, 1000001, 1000002] @hren (hfx) (go1 @hren ?_)
          refine ⟨by omega, trivial, Wk.list [1000000, 1000001, 1000002] rfl rfl ?_⟩
          repeat' (first|(conv in hold _=>simp (disch:=omega) only [go_sem, hnx, hren])|exact trivial|exact Sub.refl _|omega)
      · have he1 := hstop hlt (rs.length - i)
        rw [show i + (rs.length - i) = rs.length by omega] at he1
        rw [he1]
        refine go1 trivial ?_
        refine fin_L [1000000, 1000001, 1000002] ?_ ?_ rfl ?_
        repeat' (first|(conv in hold _=>simp (disch:=omega) only [go_sem, hren])|exact trivial|exact Sub.refl _|omega)
theorem takeK_ok (h : KeyF F caps k m Q) (rs : List (List V)) (row : List V) (hl : rs.length ≤ 400) (hro : Q row) (hq : ∀ x, x ∈ rs → Q x) (ha : AscK k rs) :
    ∃ a b : Nat, (a + b ≤ rs.length ∧ (∀ (j : Nat) (x : List V), j < a → rs[j]? = some x → cK k x row < 0) ∧ (∀ (j : Nat) (x : List V), j < b → rs[a + j]? = some x → ¬ 0 < cK k x row) ∧ (∀ (j : Nat) (x : List V), b ≤ j → rs[a + j]? = some x → 0 < cK k x row)) ∧
      Does Tryz.prog 193 [.obj [rowsD rs, .fn F caps]] [.ref 1000000 0, rowD row] (rowsD ((rs.drop a).take b)) [.obj [rowsD ((rs.drop a).drop b), .fn F caps]] := by
  have hp := h.pur
  have hren := fun L => ren_pure.renL_pure L caps hp
  have htr := ascK_take h.wid hq ha hro
  obtain ⟨a, ha, a1, a2, hA⟩ := searchK_ok h rs rs row hl 209 (by kernel_rfl) (fun x => decide (0 ≤ cK k x row)) (fun x hx => geK_ok h rs x row (hq x hx) hro)
    (fun i j x y hij hx hy h => decide_eq_true ((htr i j x y hij hx hy).1 (of_decide_eq_true h)))
  obtain ⟨b, hb, b1, b2, hB⟩ := searchK_ok h rs (rs.drop a) row (by rw [List.length_drop]; omega) 210 (by kernel_rfl) (fun x => decide (0 < cK k x row)) (fun x hx => gtK_ok h rs x row (hq x (List.mem_of_mem_drop hx)) hro)
    (fun i j x y hij hx hy h => by
      rw [List.getElem?_drop] at hx hy
      exact decide_eq_true ((htr (a + i) (a + j) x y (by omega) hx hy).2 (of_decide_eq_true h)))
  rw [List.length_drop] at hb
  refine ⟨a, b, ⟨by omega, fun j r hj hr => by have := of_decide_eq_false (a1 j r hj hr); omega, fun j r hj hr => of_decide_eq_false (b1 j r hj (by rw [List.getElem?_drop]; exact hr)), fun j r hj hr => of_decide_eq_true (b2 j r hj (by rw [List.getElem?_drop]; exact hr))⟩, ?_⟩
  have hdr : (rs.map rowD).drop a = (rs.drop a).map rowD := List.map_drop.symm
  have hdb : ((rs.drop a).map rowD).drop b = ((rs.drop a).drop b).map rowD := List.map_drop.symm
  have htb : ((rs.drop a).map rowD).take b = ((rs.drop a).take b).map rowD := List.map_take.symm
  have hld : (rs.drop a).length = rs.length - a := List.length_drop ..
  have hdt : ((rs.drop a).map rowD).take (rs.length - a) = (rs.drop a).map rowD := List.take_of_length_le (by rw [List.length_map, List.length_drop]; exact Nat.le_refl _)
  refine Bk c_Z12 mixed 1 (go1 @hren ?_)
  refine UcR [2000002, 2000003, 1000000] (cj6 @hdr @hdt @hdb @htb @hld @hren) (hA) (go1 (cj6 @hdr @hdt @hdb @htb @hld @hren) ?_)
  refine UcR [2000002, 2000003, 1000000] (cj6 @hdr @hdt @hdb @htb @hld @hren) (hB) (go1 (cj6 @hdr @hdt @hdb @htb @hld @hren) ?_)
  refine fin_L [1000000] ?_ ?_ rfl ?_
  repeat' (first|(conv in hold _=>simp (disch:=omega) only [go_sem, hren])|exact trivial|exact Sub.refl _|omega)
def tupS (g : List (List V)) : D := .tup [rowsD g]
theorem tupS_at {gs : List (List (List V))} {i : Nat} {es : List D} (h : (gs.map tupS)[i]? = some (.tup es)) : ∃ g, gs[i]? = some g ∧ es = [rowsD g] := by
  rw [List.getElem?_map] at h
  cases hr : gs[i]? with
  | none => rw [hr] at h; cases h
  | some r =>
    rw [hr] at h
    simp only [Option.map_some, Option.some.injEq, tupS, D.tup.injEq] at h
    exact ⟨r, rfl, h.symm⟩
theorem ascK_sub {l l' : List (List V)} (h : l.Sublist l') (ha : AscK k l') : AscK k l := ha.sublist h
theorem runsK_yields (h : KeyF F caps k m Q) {l : List (List V)} (hq : ∀ x, x ∈ l → Q x) (ha : AscK k l) (hl : l.length ≤ 400) :
    Yields Tryz.prog 192 [.ptr [rowsD l], .ptr [.fn F caps]] ((runK k l).map tupS) := by
  have hp := h.pur
  have hren := fun L => ren_pure.renL_pure L caps hp
  refine yields c_Z17 mixed (Nat.le_of_ble_eq_true rfl) (fun i e => ?_)
  conv => arg 3; whnf
  refine go1 @hren ?_
  refine dw_for (c := 1) (l := fun j => [(0, .v (.func (.yield i) #[] #[])), (4, .ref 1000000 0), (1000000, .obj [rowsD (restK k l j), .fn F caps]), (gh, .gho i ((runK k l).map tupS) e j)]) (runK k l).length (fun j => j ≤ e) 0 (Nat.zero_le _) (Wk.list [2000004] rfl rfl ?_) (fun j hj hJ => ?_) (Nat.zero_le _)
  · rw [restK_0]
    repeat' (first|(conv in hold _=>simp (disch:=omega) only [go_sem, hren])|exact trivial|exact Sub.refl _|omega)
  · by_cases hlt : j < (runK k l).length
    · have hg := List.getElem?_eq_getElem hlt
      generalize (runK k l)[j] = g at hg
      obtain ⟨hg1, hg2⟩ := runK_ne (List.mem_of_getElem? hg)
      have hn := restK_next hg
      have h0 : (restK k l j)[0]? = some (g.headD []) := by
        rw [hn, List.getElem?_append_left (List.length_pos_iff.2 hg1)]
        cases g with
        | nil => exact absurd rfl hg1
        | cons x y => rfl
      have hsub := restK_sub k l j
      have hql : ∀ x, x ∈ restK k l j → Q x := fun x hx => hq x (hsub.subset hx)
      obtain ⟨a, b, ⟨hab, a1, b1, b2⟩, hT⟩ := takeK_ok h (restK k l j) (g.headD []) (by have := hsub.length_le; omega) (hql _ (List.mem_of_getElem? h0)) hql (ascK_sub hsub ha)
      obtain ⟨e1, e2⟩ := takeK_run h.wid hq ha hg hab a1 b1 b2
      rw [e1, e2] at hT
      have hpos : 0 < (restK k l j).length := (List.getElem?_eq_some_iff.1 h0).1
      clear hn hsub hql hab a1 b1 b2 e1 e2
      generalize g.headD [] = hd at *
      generalize restK k l j = R at *
      refine go1 (cj2 @h0 @hren) ?_
      refine UcR [1000000] @hren (hT) (go1 @hren ?_)
      refine v_yld (by ((conv => lhs; simp (disch := omega) only [go_sem]); try rfl)) (hJ) ((by rw [List.getElem?_map, hg]; rfl)) (by first | rfl | (simp only [go_sem])) ?_
      repeat' (first|with_reducible refine acc_none ?_ | (conv in hold _=>simp (disch:=omega) only [go_sem])|refine Stp.go ?_|(with_reducible first|refine it_pos rfl ?_|refine it_neg (by decide) ?_|refine st_nil rfl ?_|refine s_op ?_ ?_|exact trivial)|((with_reducible first|refine dw_reg0 ?_|refine dw_regB ?_);(conv=>arg 3;whnf))|(refine Spl.go (fun hq he=>?_) (fun hq he=>?_)<;>first|(exfalso;clear hq;omega)|((try first|(conv=>arg 8;simp only [hq])|(conv=>arg 4;simp only [hq]));clear hq))|((with_reducible first|refine c_split (fun hq=>?_) (fun hq=>?_)|refine q_split (fun hq=>?_) (fun hq=>?_))<;>(try first|(conv=>arg 8;simp only [hq])|(conv=>arg 4;simp only [hq])))|(with_reducible refine fin_0 ?_ (by first|rfl|(conv=>lhs;simp only [go_sem])) ?_)|exact Sub.refl _|omega)
      · refine ⟨(j + 1), ?_, ?_⟩
        · ((conv => lhs; simp (disch := omega) only [go_sem]); try rfl)
        simp only [List.length_map]
        omega
      · refine ⟨hlt, by omega, Wk.list [1000000] rfl rfl ?_⟩
        repeat' (first|(conv in hold _=>simp (disch:=omega) only [go_sem, hren])|exact trivial|exact Sub.refl _|omega)
    · have hR : restK k l j = [] := restK_end (by omega)
      rw [hR]
      refine go1 trivial ?_
      refine ⟨j, ?_, ?_⟩
      · ((conv => lhs; simp (disch := omega) only [go_sem]); try rfl)
      simp only [List.length_map]
      omega
theorem runsOfK_ok (h : KeyF F caps k m Q) (l : List (List V)) : Does Tryz.prog 159 [] [rowsD l, .fn F caps] (.fn 192 [.ptr [rowsD l], .ptr [.fn F caps]]) [] := by
  have hp := h.pur
  have hren := fun L => ren_pure.renL_pure L caps hp
  refine Bg c_Z20 mixed (go1F (cj2 @hp @hren) ?_)
  refine fin_wk (wk_fro 4 2000002 (by decide) (by decide) rfl ?_) ?_
  rotate_left
  (conv in hold _=>simp (disch:=omega) only [go_sem, hp, hren])
  · refine fin_wk (wk_fro 4 2000003 (by decide) (by decide) rfl ?_) ?_
    rotate_left
    (conv in hold _=>simp (disch:=omega) only [go_sem, hp, hren])
    · refine fin_L [] ?_ ?_ rfl ?_
      repeat' (first|(conv in hold _=>simp (disch:=omega) only [go_sem, hp, hren])|exact trivial|exact Sub.refl _|omega)
    · simp only [go_sem, hp]
  · simp only [go_sem, hp]
theorem ordK (hk : KeyW k m Q) : OrdOn (cK k) Q where
  irrefl a _ := by have := cK_self k a; omega
  trans a b c ha hb hc h1 h2 := (cK_trans hk ha hb hc (by omega)).2 h2
  ntrans a b c ha hb hc h1 h2 := by
    have e1 := cK_anti hk ha hb
    have e2 := cK_anti hk hb hc
    have e3 := cK_anti hk ha hc
    have := (cK_trans hk hc hb ha (by omega)).1 (by omega)
    omega
noncomputable def srK (k : List V → List V) (rs : List (List V)) : List (List V) := sortL (cK k) rs
theorem srK_perm (hk : KeyW k m Q) {rs : List (List V)} (hq : ∀ x, x ∈ rs → Q x) : (srK k rs).Perm rs := sortL_perm (ordK hk) rs hq
theorem srK_asc (hk : KeyW k m Q) {rs : List (List V)} (hq : ∀ x, x ∈ rs → Q x) : AscK k (srK k rs) := by
  refine List.Pairwise.imp_of_mem ?_ (sortL_asc (ordK hk) rs hq)
  intro a b ha hb hab
  have hp := srK_perm hk hq
  have := cK_anti hk (hq a (hp.mem_iff.1 ha)) (hq b (hp.mem_iff.1 hb))
  omega
theorem sortedRows_ok (h : KeyF F caps k m Q) (rs : List (List V)) (hq : ∀ x, x ∈ rs → Q x) (hl : rs.length ≤ 100000) : Does Tryz.prog 160 [] [rowsD rs, .fn F caps] (.own 1000000 1 rs.length) [.row 1 ((srK k rs).map rowD)] := by
  have hp := h.pur
  have hren := fun L => ren_pure.renL_pure L caps hp
  have h1 := Values_rows rs
  have hY := values_rows rs hl
  have h2 := collect_rows (f := 156) (by kernel_rfl) (caps := [.ptr [rowsD rs]]) rfl rs hl hY
  have h3 := sort_own rowsSort h.ent h.pur rowD (fun _ => rfl) (fun _ => rfl) (ordK h.wid) (fun a b ha hb => h.call a b ha hb) rs hq (by omega)
  have h4 : Does Tryz.prog 194 [] [.fn 156 [.ptr [rowsD rs]], .fn F caps] (.own 1000000 1 rs.length) [.row 1 ((srK k rs).map rowD)] := by
    refine Bk c_Z13 mixed 0 (go1 (cj2 @hp @hren) ?_)
    refine UcR [3000001] (cj2 @hp @hren) (h2) (go1 (cj2 @hp @hren) ?_)
    refine UcR [3000001] (cj2 @hp @hren) (h3) (go1 (cj2 @hp @hren) ?_)
    refine fin_L [3000001] ?_ ?_ rfl ?_
    repeat' (first|(conv in hold _=>simp (disch:=omega) only [go_sem, hp, hren, srK])|exact trivial|exact Sub.refl _|omega)
  refine Bk c_Z112 mixed 0 (go1 (cj2 @hp @hren) ?_)
  refine Uc (cj2 @hp @hren) (h1) (go1 (cj2 @hp @hren) ?_)
  refine UcR [3000001] (cj2 @hp @hren) (h4) (go1 (cj2 @hp @hren) ?_)
  refine fin_L [3000001] ?_ ?_ rfl ?_
  repeat' (first|(conv in hold _=>simp (disch:=omega) only [go_sem, hp, hren])|exact trivial|exact Sub.refl _|omega)
end
end Go.Proofs.YtepkimfmncedcaaGreat

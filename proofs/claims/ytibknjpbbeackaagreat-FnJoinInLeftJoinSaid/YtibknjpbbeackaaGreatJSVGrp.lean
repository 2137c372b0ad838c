/-
  The width of a plan out of those of its kids, in the model. No condition.
-/
import Derived.Test.YtibknjpbbeackaaGreatJSDcVWidB
import Derived.Test.YtibknjpbbeackaaGreatKSDca
import Derived.Test.YtibknjpbbeackaaGreatJSVWidC
import Derived.Test.YtibknjpbbeackaaGreatJSVGo
set_option maxHeartbeats 4000000
set_option maxRecDepth 100000
namespace Go.Proofs.YtibknjpbbeackaaGreat
open Go.RowKit
theorem one_sum {ns : List Int} {n : Int} (h : ns.length = 1) (h0 : ns[0]? = some n) : ns.sum = n := by
  match ns, h with
  | [m], _ => cases h0; simp
theorem two_sum {ns : List Int} {n m : Int} (h : ns.length = 2) (h0 : ns[0]? = some n) (h1 : ns[1]? = some m) : ns.sum = n + m := by
  match ns, h with
  | [a, b], _ => cases h0; cases h1; simp
theorem one_all {α : Type} {l : List α} {x : α} {P : α → Prop} (h : l.length = 1) (h0 : l[0]? = some x) : (∀ (j : Nat) (y : α), l[j]? = some y → P y) ↔ P x := by
  match l, h with
  | [m], _ =>
    cases h0
    refine ⟨fun h => h 0 _ rfl, fun h j y hj => ?_⟩
    rcases j with _ | j
    · cases hj; exact h
    · simp at hj
theorem planWidth_main (p : Pl) (ws : List Int) (d : Nat) (hd : d < 1000) (hd0 : 0 < d) (hf : fields p) (hk : ¬ p.k = 1) (hc : p.cs.length ≤ 1048576) (hec : p.es.length ≤ 1048576) (ns : List Int) (hl : ns.length = p.ks.length) (hn : ∀ (j : Nat) (x : Int), ns[j]? = some x → 0 ≤ x ∧ x ≤ 6)
    (hA : ∀ (i : Nat) (x : Pl) (n : Int), p.ks[i]? = some x → ns[i]? = some n → Does Tryz.prog 61 [] [pD x, intsD ws, I ((d : Int) - 1)] (I n) []) : Does Tryz.prog 61 [] [pD p, intsD ws, I d] (I (resV p ns)) [] := by
  have ho := onlyFields_ok p
  rw [decide_eq_true hf] at ho
  have hf1 := hf
  unfold fields at hf1
  have hks : 1 ≤ p.ks.length ∧ p.ks.length ≤ 2 := by omega
  refine Bg c_Z125 mixed (go1 trivial ?_)
  refine Uc trivial (ho) (go1 trivial ?_)
  refine dw_for (c := 2) (l := fun i => [(1, intsD ws), (2, I d), (3, .ref 1000000 0), (7, .own 1000001 1 i), (8, I i), (1000000, .obj [I p.k, I p.t, .sl 5 (p.es.map eD), intsD p.cs, .sl 5 (p.ks.map pD)]), (1000001, .row 1 ((ns.take i).map I))]) p.ks.length (fun i => ∀ (j : Nat) (n : Int), j < i → ns[j]? = some n → ¬ n = 0) 0 (fun j n hj => by omega) ((wk_row 7 2000045 1 (by decide) (by decide) rfl rfl).trans (Wk.list [2000003, 2000045] rfl rfl ?_)) (fun i hi hJ => ?_) (Nat.zero_le _)
  · repeat' (first|(conv in hold _=>simp (disch:=omega) only [go_sem])|exact trivial|exact Sub.refl _|omega)
    exact rfl
  · have hlt := take_len (vs := ns) (i := i) (by omega)
    have hmt := take_map I (vs := ns) (i := i) (by omega)
    by_cases hil : i < p.ks.length
    · obtain ⟨x, hx⟩ : ∃ x, p.ks[i]? = some x := ⟨_, List.getElem?_eq_getElem hil⟩
      obtain ⟨n, hnx, _⟩ := get_ex (ns := ns) (i := i) (by omega)
      have hix := hA i x n hx hnx
      have htn := take_next hnx
      by_cases hn0 : n = 0
      · rw [resV_z ⟨i, by rw [hnx, hn0]⟩]
        refine go1 @hx ?_
        exact Uc trivial (hix) (go0 trivial)
      · refine go1 @hx ?_
        refine Uc trivial (hix) (go1 trivial ?_)
        refine ⟨hil, upto1 (P := fun _ n => ¬ n = 0) hnx hn0 hJ, Wk.list [1000000, 2000045] rfl rfl ?_⟩
        repeat' (first|(conv in hold _=>simp (disch:=omega) only [go_sem])|exact trivial|exact Sub.refl _|omega)
        rw [hmt, htn, List.map_append, List.map_cons, List.map_nil]
    · obtain rfl : i = p.ks.length := by omega
      have hz : ¬ zeroIn ns := fun ⟨j, hj⟩ => hJ j 0 (by rw [← hl]; exact (List.getElem?_eq_some_iff.1 hj).1) hj rfl
      have e1 : ns.take p.ks.length = ns := List.take_of_length_le (by omega)
      obtain ⟨n0, h0, g0⟩ := get_ex (ns := ns) (i := 0) (by omega)
      have r0 := hn 0 n0 h0
      have z0 := hJ 0 n0 (by omega) h0
      by_cases h2 : p.k = 2
      · have hel : p.es.length = 1 := by omega
        obtain ⟨x, hx⟩ : ∃ x, p.es[0]? = some x := ⟨_, List.getElem?_eq_getElem (by omega)⟩
        have hs := one_sum (by omega) h0
        have hfv : fitsV p ns ↔ eOk x n0 8 := by
          unfold fitsV
          rw [if_neg (by omega), if_neg (by omega), one_all (P := fun e => (1 ≤ ns.sum ∧ ns.sum ≤ 6) ∧ eOk e ns.sum 8) hel hx, hs]
          exact ⟨fun h => h.2, fun h => ⟨by omega, h⟩⟩
        have hfi : fieldsI p := ⟨hf, by omega⟩
        have hv := ValidExpr_ok x n0 (by omega)
        by_cases hxo : eOk x n0 8
        · rw [resV_t hz hfi (hfv.2 hxo), show fromV p ns = n0 by unfold fromV; rw [if_neg (by omega), if_neg (by omega), if_neg (by omega), g0]]
          rw [decide_eq_true ⟨by omega, hxo⟩] at hv
          refine go1 (cj3 @e1 @h0 @hx) ?_
          exact Uc @h0 (hv) (go0 @h0)
        · rw [resV_f (fun h => hxo (hfv.1 h.2))]
          rw [decide_eq_false (fun h => hxo h.2)] at hv
          refine go1 (cj3 @e1 @h0 @hx) ?_
          exact Uc trivial (hv) (go0 trivial)
      · by_cases h3 : p.k = 3
        · have hs := one_sum (by omega) h0
          have hv := projectWidth_ok p.es n0 (by omega) hec
          have hfv : fitsV p ns ↔ esOk p.es n0 := by
            unfold fitsV esOk
            rw [if_neg (by omega), if_neg (by omega), hs]
            exact ⟨fun h j e hj => (h j e hj).2, fun h j e hj => ⟨by omega, h j e hj⟩⟩
          have hres : resV p ns = (if p.es.length ≤ 6 ∧ esOk p.es n0 then (p.es.length : Int) else 0) := by
            by_cases hq : p.es.length ≤ 6 ∧ esOk p.es n0
            · rw [if_pos hq]
              by_cases hpos : 1 ≤ p.es.length
              · rw [resV_t hz ⟨hf, fun _ => ⟨hpos, hq.1⟩⟩ (hfv.2 hq.2)]
                unfold fromV
                rw [if_pos h3]
              · rw [resV_f (fun h => hpos (h.1.2 h3).1)]
                omega
            · rw [if_neg hq, resV_f (fun h => hq ⟨(h.1.2 h3).2, hfv.1 h.2⟩)]
          rw [hres]
          refine go1 (cj2 @e1 @h0) ?_
          exact Uc trivial (hv) (go0 trivial)
        · have hfi : fieldsI p := ⟨hf, fun h => (h3 h).elim⟩
          by_cases h45 : p.k = 4 ∨ p.k = 5
          · have hel : p.es.length = 1 := by omega
            obtain ⟨x, hx⟩ : ∃ x, p.es[0]? = some x := ⟨_, List.getElem?_eq_getElem (by omega)⟩
            obtain ⟨n1, h1, g1⟩ := get_ex (ns := ns) (i := 1) (by omega)
            have r1 := hn 1 n1 h1
            have z1 := hJ 1 n1 (by omega) h1
            have hs := two_sum (by omega) h0 h1
            have hv := ValidExpr_ok x (n0 + n1) (by omega)
            have hfv : fitsV p ns ↔ n0 + n1 ≤ 6 ∧ eOk x (n0 + n1) 8 := by
              unfold fitsV
              rw [if_neg (by omega), if_neg (by omega), one_all (P := fun e => (1 ≤ ns.sum ∧ ns.sum ≤ 6) ∧ eOk e ns.sum 8) hel hx, hs]
              exact ⟨fun h => ⟨by omega, h.2⟩, fun h => ⟨by omega, h.2⟩⟩
            by_cases hle : n0 + n1 ≤ 6
            · by_cases hxo : eOk x (n0 + n1) 8
              · rw [resV_t hz hfi (hfv.2 ⟨hle, hxo⟩), show fromV p ns = n0 + n1 by unfold fromV; rw [if_neg h3, if_pos h45, hs]]
                rw [decide_eq_true ⟨by omega, hxo⟩] at hv
                repeat' (first|with_reducible refine acc_none ?_ | (conv in hold _=>simp (disch:=omega) only [go_sem, e1, List.getElem?_map, h0, h1, hx, Option.map_some])|refine Stp.go ?_|(with_reducible first|refine it_pos rfl ?_|refine it_neg (by decide) ?_|refine st_nil rfl ?_|refine s_op ?_ ?_|exact trivial)|((with_reducible first|refine dw_reg0 ?_|refine dw_regB ?_);(conv=>arg 3;whnf))|(refine Spl.go (fun hq he=>?_) (fun hq he=>?_)<;>first|(exfalso;clear hq;omega)|((try first|(conv=>arg 8;simp only [hq])|(conv=>arg 4;simp only [hq]));clear hq))|((with_reducible first|refine c_split (fun hq=>?_) (fun hq=>?_)|refine q_split (fun hq=>?_) (fun hq=>?_))<;>(try first|(conv=>arg 8;simp only [hq])|(conv=>arg 4;simp only [hq])))|(with_reducible refine fin_0 ?_ (by first|rfl|(conv=>lhs;simp only [go_sem, e1, List.getElem?_map, h0, h1, hx, Option.map_some])) ?_)|exact Sub.refl _|omega)
                all_goals
                  exact Uc (cj2 @h0 @h1) (hv) (go0 (cj2 @h0 @h1))
              · rw [resV_f (fun h => hxo (hfv.1 h.2).2)]
                rw [decide_eq_false (fun h => hxo h.2)] at hv
                repeat' (first|with_reducible refine acc_none ?_ | (conv in hold _=>simp (disch:=omega) only [go_sem, e1, List.getElem?_map, h0, h1, hx, Option.map_some])|refine Stp.go ?_|(with_reducible first|refine it_pos rfl ?_|refine it_neg (by decide) ?_|refine st_nil rfl ?_|refine s_op ?_ ?_|exact trivial)|((with_reducible first|refine dw_reg0 ?_|refine dw_regB ?_);(conv=>arg 3;whnf))|(refine Spl.go (fun hq he=>?_) (fun hq he=>?_)<;>first|(exfalso;clear hq;omega)|((try first|(conv=>arg 8;simp only [hq])|(conv=>arg 4;simp only [hq]));clear hq))|((with_reducible first|refine c_split (fun hq=>?_) (fun hq=>?_)|refine q_split (fun hq=>?_) (fun hq=>?_))<;>(try first|(conv=>arg 8;simp only [hq])|(conv=>arg 4;simp only [hq])))|(with_reducible refine fin_0 ?_ (by first|rfl|(conv=>lhs;simp only [go_sem, e1, List.getElem?_map, h0, h1, hx, Option.map_some])) ?_)|exact Sub.refl _|omega)
                all_goals
                  exact Uc trivial (hv) (go0 trivial)
            · rw [resV_f (fun h => hle (hfv.1 h.2).1)]
              exact go0 (cj4 @e1 @h0 @h1 @hx)
          · by_cases h6 : p.k = 6
            · obtain ⟨n1, h1, g1⟩ := get_ex (ns := ns) (i := 1) (by omega)
              have hfv : fitsV p ns ↔ n0 = n1 := by unfold fitsV; rw [if_pos h6, g0, g1]
              by_cases hq : n0 = n1
              · rw [resV_t hz hfi (hfv.2 hq), show fromV p ns = n0 by unfold fromV; rw [if_neg h3, if_neg h45, if_neg (by omega), g0]]
                exact go0 (cj3 @e1 @h0 @h1)
              · rw [resV_f (fun h => hq (hfv.1 h.2))]
                exact go0 (cj3 @e1 @h0 @h1)
            · by_cases h8 : p.k = 8
              · have hv := validCols_ok p.cs n0 (by omega) hc
                have hfv : fitsV p ns ↔ p.cs.length < 6 ∧ colsOk p.cs n0 := by unfold fitsV; rw [if_neg h6, if_pos h8, g0]
                by_cases hco : colsOk p.cs n0
                · rw [decide_eq_true hco] at hv
                  by_cases hq : p.cs.length < 6
                  · rw [resV_t hz hfi (hfv.2 ⟨hq, hco⟩), show fromV p ns = p.cs.length + 1 by unfold fromV; rw [if_neg h3, if_neg h45, if_pos h8]]
                    refine go1 (cj2 @e1 @h0) ?_
                    exact Uc trivial (hv) (go0 trivial)
                  · rw [resV_f (fun h => hq (hfv.1 h.2).1)]
                    refine go1 (cj2 @e1 @h0) ?_
                    exact Uc trivial (hv) (go0 trivial)
                · rw [decide_eq_false hco] at hv
                  rw [resV_f (fun h => hco (hfv.1 h.2).2)]
                  refine go1 (cj2 @e1 @h0) ?_
                  exact Uc trivial (hv) (go0 trivial)
              · have hel : p.es = [] := List.length_eq_zero_iff.1 (by omega)
                have hfv : fitsV p ns := by
                  unfold fitsV
                  rw [if_neg h6, if_neg h8, hel]
                  exact fun j e hj => by simp at hj
                rw [resV_t hz hfi hfv, show fromV p ns = n0 by unfold fromV; rw [if_neg h3, if_neg h45, if_neg h8, g0]]
                exact go0 (cj2 @e1 @h0)
end Go.Proofs.YtibknjpbbeackaaGreat
set_option linter.unusedVariables false
namespace Go.Proofs.YtibknjpbbeackaaGreat
open Go.RowKit
def grp : List (List V) → List (List V × Nat)
  | [] => []
  | r :: l => match grp l with
    | [] => [(r, 1)]
    | g :: gs => if cmpR g.1 r = 0 then (r, g.2 + 1) :: gs else (r, 1) :: g :: gs
theorem grp_cons (r : List V) (l : List (List V)) : grp (r :: l) = match grp l with
    | [] => [(r, 1)]
    | g :: gs => if cmpR g.1 r = 0 then (r, g.2 + 1) :: gs else (r, 1) :: g :: gs := rfl
theorem grp_mem : ∀ {l : List (List V)} {g : List V × Nat}, g ∈ grp l → g.1 ∈ l ∧ 1 ≤ g.2
  | r :: l, g, h => by
    rw [grp_cons] at h
    cases hg : grp l with
    | nil =>
      rw [hg] at h
      obtain rfl := List.mem_singleton.1 h
      exact ⟨List.mem_cons_self .., Nat.le_refl _⟩
    | cons g0 gs =>
      rw [hg] at h
      simp only at h
      have hm : ∀ x, x ∈ g0 :: gs → x.1 ∈ l ∧ 1 ≤ x.2 := fun x hx => grp_mem (hg ▸ hx)
      split at h
      · rcases List.mem_cons.1 h with rfl | h
        · exact ⟨List.mem_cons_self .., by simp⟩
        · exact ⟨List.mem_cons_of_mem _ (hm g (List.mem_cons_of_mem _ h)).1, (hm g (List.mem_cons_of_mem _ h)).2⟩
      · rcases List.mem_cons.1 h with rfl | h
        · exact ⟨List.mem_cons_self .., Nat.le_refl _⟩
        · exact ⟨List.mem_cons_of_mem _ (hm g h).1, (hm g h).2⟩
def flatF (f : List V × Nat → Nat) (gs : List (List V × Nat)) : List (List V) := gs.flatMap fun g => List.replicate (f g) g.1
theorem flatF_cons (f : List V × Nat → Nat) (g : List V × Nat) (gs : List (List V × Nat)) : flatF f (g :: gs) = List.replicate (f g) g.1 ++ flatF f gs := by unfold flatF; rw [List.flatMap_cons]
theorem flatF_app (f : List V × Nat → Nat) (gs hs : List (List V × Nat)) : flatF f (gs ++ hs) = flatF f gs ++ flatF f hs := by unfold flatF; rw [List.flatMap_append]
theorem grp_flat : ∀ l : List (List V), flatF (fun g => g.2) (grp l) = l
  | [] => rfl
  | r :: l => by
    have ih := grp_flat l
    rw [grp_cons]
    cases hg : grp l with
    | nil => rw [hg] at ih; rw [← ih]; rfl
    | cons g0 gs =>
      rw [hg, flatF_cons] at ih
      simp only
      split
      · rename_i h
        rw [flatF_cons, ← ih, ← cmpR_eq h, List.replicate_succ, List.cons_append]
      · rw [flatF_cons, flatF_cons, ih]; rfl
def ltG (g h : List V × Nat) : Prop := cmpR g.1 h.1 < 0
theorem grp_pw {w : Nat} : ∀ {l : List (List V)}, RsW w l → Asc l → (grp l).Pairwise ltG
  | [], _, _ => List.Pairwise.nil
  | r :: l, hw, ha => by
    have ih := grp_pw hw.tail (List.pairwise_cons.1 ha).2
    have hle : ∀ x, x ∈ l → leR r x := (List.pairwise_cons.1 ha).1
    have hr := hw r (List.mem_cons_self ..)
    rw [grp_cons]
    cases hg : grp l with
    | nil => exact List.pairwise_singleton _ _
    | cons g0 gs =>
      rw [hg] at ih
      simp only
      have hm : ∀ x, x ∈ g0 :: gs → x.1 ∈ l := fun x hx => (grp_mem (hg ▸ hx)).1
      have h0 := hm g0 (List.mem_cons_self ..)
      split
      · rename_i h
        have e := cmpR_eq h
        refine List.pairwise_cons.2 ⟨fun x hx => ?_, (List.pairwise_cons.1 ih).2⟩
        have := (List.pairwise_cons.1 ih).1 x hx
        unfold ltG at this ⊢
        rw [e] at this
        exact this
      · rename_i h
        have hg0 := hw g0.1 (List.mem_cons_of_mem _ h0)
        have hlt : cmpR r g0.1 < 0 := by
          have h1 := hle g0.1 h0
          have h2 := cmpR_anti r g0.1 (by rw [hr.1, hg0.1]) hr.2 hg0.2
          unfold leR at h1
          omega
        refine List.pairwise_cons.2 ⟨fun x hx => ?_, ih⟩
        rcases List.mem_cons.1 hx with rfl | hx'
        · exact hlt
        · have h3 := (List.pairwise_cons.1 ih).1 x hx'
          have hxw := hw x.1 (List.mem_cons_of_mem _ (hm x hx))
          exact (cmpR_trans r g0.1 x.1 (by rw [hr.1, hg0.1]) (by rw [hg0.1, hxw.1]) hr.2 hg0.2 hxw.2 (by omega)).2 h3
theorem cnt_rep (r : List V) (k : Nat) : cntE r (List.replicate k r) = k := by
  rw [cntE_all (fun a ha => by rw [(List.mem_replicate.1 ha).2]; exact cmpR_self r), List.length_replicate]
theorem cnt_repN {x r : List V} (h : r ≠ x) (k : Nat) : cntE x (List.replicate k r) = 0 := cntE_none (fun a ha h0 => h (by rw [← (List.mem_replicate.1 ha).2]; exact cmpR_eq h0))
theorem cnt_flat (f : List V × Nat → Nat) (x : List V) : ∀ {gs : List (List V × Nat)}, gs.Pairwise ltG → (∀ g, g ∈ gs → g.1 = x → cntE x (flatF f gs) = f g) ∧ ((∀ g, g ∈ gs → g.1 ≠ x) → cntE x (flatF f gs) = 0)
  | [], _ => ⟨fun g h => (by cases h), fun _ => rfl⟩
  | g0 :: gs, hp => by
    obtain ⟨ih1, ih2⟩ := cnt_flat f x (List.pairwise_cons.1 hp).2
    have hlt := (List.pairwise_cons.1 hp).1
    rw [flatF_cons, cntE_app]
    constructor
    · intro g hg hgx
      rcases List.mem_cons.1 hg with rfl | hg
      · rw [← hgx, cnt_rep, hgx, ih2 (fun h hh e => by
          have := hlt h hh
          unfold ltG at this
          rw [hgx, e, cmpR_self] at this
          exact absurd this (by decide))]
        rfl
      · have hne : ¬ g0.1 = x := fun e => by
          have := hlt g hg
          unfold ltG at this
          rw [e, hgx, cmpR_self] at this
          exact absurd this (by decide)
        rw [cnt_repN hne, Nat.zero_add]
        exact ih1 g hg hgx
    · intro h
      rw [cnt_repN (h g0 (List.mem_cons_self ..)), Nat.zero_add]
      exact ih2 (fun g hg => h g (List.mem_cons_of_mem _ hg))
def restG (l : List (List V)) (i : Nat) : List (List V) := flatF (fun g => g.2) ((grp l).drop i)
theorem restG_0 (l : List (List V)) : restG l 0 = l := by unfold restG; rw [List.drop_zero, grp_flat]
theorem restG_next {l : List (List V)} {i : Nat} {g : List V × Nat} (h : (grp l)[i]? = some g) : restG l i = List.replicate g.2 g.1 ++ restG l (i + 1) := by
  unfold restG
  obtain ⟨hh, rfl⟩ := List.getElem?_eq_some_iff.1 h
  rw [List.drop_eq_getElem_cons hh, flatF_cons]
theorem restG_end {l : List (List V)} {i : Nat} (h : (grp l).length ≤ i) : restG l i = [] := by unfold restG; rw [List.drop_of_length_le h]; rfl
theorem restG_sub (l : List (List V)) (i : Nat) : (restG l i).Sublist l := by
  have h : (restG l i).Sublist (flatF (fun g => g.2) (grp l)) := by
    unfold restG
    conv => rhs; rw [← List.take_append_drop i (grp l), flatF_app]
    exact List.sublist_append_right ..
  rwa [grp_flat] at h
theorem take_run {w : Nat} {l : List (List V)} (hw : RsW w l) (ha : Asc l) {i : Nat} {g : List V × Nat} (h : (grp l)[i]? = some g) {a b : Nat} (hab : a + b ≤ (restG l i).length) (a1 : ∀ (j : Nat) (x : List V), j < a → (restG l i)[j]? = some x → cmpR x g.1 < 0)
    (b1 : ∀ (j : Nat) (x : List V), j < b → (restG l i)[a + j]? = some x → ¬ 0 < cmpR x g.1) (b2 : ∀ (j : Nat) (x : List V), b ≤ j → (restG l i)[a + j]? = some x → 0 < cmpR x g.1) : ((restG l i).drop a).take b = List.replicate g.2 g.1 ∧ ((restG l i).drop a).drop b = restG l (i + 1) := by
  obtain ⟨hg1, hg2⟩ := grp_mem (List.mem_of_getElem? h)
  have hn := restG_next h
  have h0 : ∀ j, j < g.2 → (restG l i)[j]? = some g.1 := fun j hj => by
    rw [hn, List.getElem?_append_left (by rw [List.length_replicate]; exact hj), List.getElem?_replicate, if_pos hj]
  obtain rfl : a = 0 := by
    cases a with
    | zero => rfl
    | succ a =>
      have := a1 0 g.1 (by omega) (h0 0 (by omega))
      rw [cmpR_self] at this
      exact absurd this (by decide)
  have hbg : g.2 ≤ b := by
    by_cases hlt : b < g.2
    · have := b2 b g.1 (Nat.le_refl _) (by rw [Nat.zero_add]; exact h0 b hlt)
      rw [cmpR_self] at this
      exact absurd this (by decide)
    · omega
  have hgb : b ≤ g.2 := by
    by_cases hlt : g.2 < b
    · exfalso
      have hlen : g.2 < (restG l i).length := by omega
      have hx := List.getElem?_eq_getElem hlen
      generalize (restG l i)[g.2] = x at hx
      have h1 := b1 g.2 x hlt (by rw [Nat.zero_add]; exact hx)
      rw [hn, List.getElem?_append_right (by rw [List.length_replicate]; exact Nat.le_refl _), List.length_replicate, Nat.sub_self] at hx
      cases hi : (grp l)[i + 1]? with
      | none =>
        rw [restG_end (List.getElem?_eq_none_iff.1 hi)] at hx
        cases hx
      | some g' =>
        obtain ⟨hg1', hg2'⟩ := grp_mem (List.mem_of_getElem? hi)
        rw [restG_next hi, List.getElem?_append_left (by rw [List.length_replicate]; omega), List.getElem?_replicate, if_pos (by omega)] at hx
        obtain rfl := Option.some.inj hx
        have hp := List.pairwise_iff_getElem.1 (grp_pw hw ha) i (i + 1) (List.getElem?_eq_some_iff.1 h).1 (List.getElem?_eq_some_iff.1 hi).1 (by omega)
        obtain ⟨q1, q2⟩ := List.getElem?_eq_some_iff.1 h
        obtain ⟨q3, q4⟩ := List.getElem?_eq_some_iff.1 hi
        rw [q2, q4] at hp
        unfold ltG at hp
        have hgw := hw g.1 hg1
        have hgw' := hw g'.1 hg1'
        have := cmpR_anti g.1 g'.1 (by rw [hgw.1, hgw'.1]) hgw.2 hgw'.2
        omega
    · omega
  have hbe : b = g.2 := by omega
  subst hbe
  rw [List.drop_zero, hn]
  exact ⟨by rw [List.take_append_of_le_length (by rw [List.length_replicate]; exact Nat.le_refl _), List.take_of_length_le (by rw [List.length_replicate]; exact Nat.le_refl _)], by rw [List.drop_append_of_le_length (by rw [List.length_replicate]; exact Nat.le_refl _), List.drop_of_length_le (by rw [List.length_replicate]; exact Nat.le_refl _), List.nil_append]⟩
def restB (bs : List (List V)) (gs : List (List V × Nat)) : Nat → List (List V)
  | 0 => bs
  | i + 1 => (restB bs gs i).filter fun x => decide (0 < cmpR x (gs.getD i ([], 0)).1)
theorem restB_sub (bs : List (List V)) (gs : List (List V × Nat)) : ∀ i, (restB bs gs i).Sublist bs
  | 0 => List.Sublist.refl _
  | i + 1 => (List.filter_sublist).trans (restB_sub bs gs i)
theorem cntE_filter {x : List V} {l : List (List V)} {p : List V → Bool} (h : p x = true) : cntE x (l.filter p) = cntE x l := by
  unfold cntE
  rw [List.filter_filter]
  congr 1
  apply List.filter_congr
  intro a _
  by_cases e : cmpR a x = 0
  · rw [cmpR_eq e, h]; simp
  · simp [e]
theorem restB_cnt {w : Nat} {l bs : List (List V)} (hw : RsW w l) (ha : Asc l) {g : List V × Nat} {n : Nat} (h : (grp l)[n]? = some g) : ∀ i, i ≤ n → cntE g.1 (restB bs (grp l) i) = cntE g.1 bs
  | 0, _ => rfl
  | i + 1, hi => by
    rw [restB, cntE_filter, restB_cnt hw ha h i (by omega)]
    have hin : i < (grp l).length := by have := (List.getElem?_eq_some_iff.1 h).1; omega
    have hgi := List.getElem?_eq_getElem hin
    rw [List.getD_eq_getElem?_getD, hgi, Option.getD_some]
    have hp := List.pairwise_iff_getElem.1 (grp_pw hw ha) i n hin (List.getElem?_eq_some_iff.1 h).1 (by omega)
    rw [(List.getElem?_eq_some_iff.1 h).2] at hp
    have h1 := hw g.1 (grp_mem (List.mem_of_getElem? h)).1
    have h2 := hw _ (grp_mem (List.mem_of_getElem? hgi)).1
    have := cmpR_anti (grp l)[i].1 g.1 (by rw [h1.1, h2.1]) h2.2 h1.2
    unfold ltG at hp
    exact decide_eq_true (by omega)
theorem take_filter {rs : List (List V)} {row : List V} {a b : Nat} (hab : a + b ≤ rs.length) (a1 : ∀ (j : Nat) (x : List V), j < a → rs[j]? = some x → cmpR x row < 0) (a2 : ∀ (j : Nat) (x : List V), a ≤ j → rs[j]? = some x → 0 ≤ cmpR x row)
    (b1 : ∀ (j : Nat) (x : List V), j < b → rs[a + j]? = some x → ¬ 0 < cmpR x row) (b2 : ∀ (j : Nat) (x : List V), b ≤ j → rs[a + j]? = some x → 0 < cmpR x row) :
    (rs.drop a).take b = List.replicate (cntE row rs) row ∧ (rs.drop a).drop b = rs.filter (fun x => decide (0 < cmpR x row)) := by
  have hc : cntE row rs = b := cntE_two (by omega) (by omega) a1 a2 b1 b2
  have m1 : ∀ x, x ∈ rs.take a → cmpR x row < 0 := fun x hx => by
    obtain ⟨j, hj⟩ := List.mem_iff_getElem?.1 hx
    have hl := (List.getElem?_eq_some_iff.1 hj).1
    rw [List.length_take] at hl
    rw [List.getElem?_take_of_lt (by omega)] at hj
    exact a1 j x (by omega) hj
  have m2 : ∀ x, x ∈ (rs.drop a).take b → x = row := fun x hx => by
    obtain ⟨j, hj⟩ := List.mem_iff_getElem?.1 hx
    have hl := (List.getElem?_eq_some_iff.1 hj).1
    rw [List.length_take] at hl
    rw [List.getElem?_take_of_lt (by omega), List.getElem?_drop] at hj
    have h1 := b1 j x (by omega) hj
    have h2 := a2 (a + j) x (by omega) hj
    exact cmpR_eq (by omega)
  have m3 : ∀ x, x ∈ (rs.drop a).drop b → 0 < cmpR x row := fun x hx => by
    obtain ⟨j, hj⟩ := List.mem_iff_getElem?.1 hx
    rw [List.getElem?_drop, List.getElem?_drop] at hj
    exact b2 (b + j) x (by omega) hj
  constructor
  · rw [hc]
    refine List.eq_replicate_iff.2 ⟨by rw [List.length_take, List.length_drop]; omega, m2⟩
  · have e : rs = rs.take a ++ ((rs.drop a).take b ++ (rs.drop a).drop b) := by rw [List.take_append_drop, List.take_append_drop]
    conv => rhs; rw [e]
    rw [List.filter_append, List.filter_append, List.filter_eq_nil_iff.2 (fun x hx => by have := m1 x hx; simp; omega), List.filter_eq_nil_iff.2 (fun x hx => by rw [m2 x hx, cmpR_self]; simp), List.nil_append, List.nil_append, List.filter_eq_self.2 (fun x hx => by have := m3 x hx; simp; omega)]
theorem asc_take {w : Nat} {rs : List (List V)} (hw : RsW w rs) (ha : Asc rs) {row : List V} (hr : row.length = w) (hro : ∀ v, v ∈ row → v.ok) : ∀ (i j : Nat) (x y : List V), i ≤ j → rs[i]? = some x → rs[j]? = some y → (0 ≤ cmpR x row → 0 ≤ cmpR y row) ∧ (0 < cmpR x row → 0 < cmpR y row) := by
  intro i j x y hij hx hy
  have hle : cmpR x y ≤ 0 := by
    by_cases e : i = j
    · subst e
      rw [hx] at hy
      cases hy
      rw [cmpR_self]
      exact Int.le_refl _
    · exact asc_at ha (show i < j by omega) hx hy
  have gx := hw x (List.mem_of_getElem? hx)
  have gy := hw y (List.mem_of_getElem? hy)
  have hT := cmpR_trans x y row (by rw [gx.1, gy.1]) (by rw [gy.1, hr]) gx.2 gy.2 hro hle
  constructor
  · intro h
    refine Classical.byContradiction fun hn => ?_
    have := hT.2 (by omega)
    omega
  · intro h
    refine Classical.byContradiction fun hn => ?_
    have := hT.1 (by omega)
    omega
def bagC (c : Bool) (n nth seen : Nat) : Prop := (c = true ∧ nth < n) ∨ (c = false ∧ n ≤ seen)
instance bagDec (c : Bool) (n nth seen : Nat) : Decidable (bagC c n nth seen) := inferInstanceAs (Decidable (_ ∨ _))
end Go.Proofs.YtibknjpbbeackaaGreat

/-
  Drawn plans whose lists are rows of one's own: projections. No condition.
-/
import Derived.Test.YtepkimfmncedcaaGreatKSDca
import Derived.Test.YtepkimfmncedcaaGreatKSDch
import Derived.Test.YtepkimfmncedcaaGreatJSVPlanO
import Derived.Test.YtepkimfmncedcaaGreatJSVGo
import Derived.Test.YtepkimfmncedcaaGreatJSVLaw
import Derived.Test.YtepkimfmncedcaaGreatKSDcj
import Derived.Test.YtepkimfmncedcaaGreatJSVPiJ
import Derived.Test.YtepkimfmncedcaaGreatJSVWidC
set_option maxHeartbeats 4000000
set_option maxRecDepth 100000
set_option linter.unusedVariables false
set_option linter.unusedSimpArgs false
namespace Go.Proofs.YtepkimfmncedcaaGreat
open Go.RowKit
variable {bs : List Nat} {ws : List Int} {p j u d : Nat} {x : Pl} {t k6 c n : Int} {q j1 u1 : Nat}
theorem oplan_proj (h : Pre bs ws p j u d x t k6 c n q j1 u1) (hc : c = 3 ∨ c = 4) {mm : Nat} (hmm : DPick bs (q + 1) 2 mm) (hm1 : mm ≤ 1) {es : List E} {ps : Nat → Nat} (hel : es.length = 1 + mm) (h0 : ps 0 = q + 2) (hes : ∀ i e, es[i]? = some e → DOne bs n (ps i) e (ps (i + 1))) : OPlan bs ws p j u ((d + 1 : Nat) : Int) (.mk 3 0 es [] [x]) (ps (1 + mm)) j1 u1 := by
  obtain ⟨hl, hd, h1, h2, h6, hk, hw, hn, h3, hj, hu⟩ := h
  rcases hc with rfl | rfl
  all_goals
    refine Bk c_Z62 mixed 3 (go1 trivial ?_)
    refine UcR [1000001] trivial (h1) (go1 trivial ?_)
    refine UcR [1000001] trivial (h2) (go1 trivial ?_)
    refine UcR [1000000, 1000001, 1000002] trivial (hk) (go1 trivial ?_)
    refine UcR [1000002] trivial (hw) (go1 trivial ?_)
    refine UcR [1000001] trivial (h3) (go1 trivial ?_)
    refine UcR [1000001] trivial (hmm) (go1 trivial ?_)
    refine dw_for (c := 6) (l := fun i => [(4, .ref 1000003 0), (5, .ref 1000001 0), (7, .ref 1000004 0), (8, I n), (9, .own 1000005 5 i), (10, I (1 + (mm : Int) - i)), (1000000, gnD ws j1 u1), (1000001, rdD bs (ps i)), (1000002, wrD ws), (1000003, .obj [I 0, I 0, .nul, .nul, .nul]), (1000004, .obj [I x.k, I x.t, .sl 5 (x.es.map eD), .sl 1 (x.cs.map I), .sl 5 (x.ks.map pD)]), (1000005, .row 5 ((es.take i).map eD))]) (1 + mm) (fun _ => True) 0 trivial ((wk_row 9 2000099 5 (by decide) (by decide) rfl rfl).trans (Wk.list [1000000, 1000001, 1000002, 2000004, 2000007, 2000099] rfl rfl ?_)) (fun i hi _ => ?_) (Nat.zero_le _)
    · rw [h0]
      repeat' (first|(conv in hold _=>simp (disch:=omega) only [go_sem])|exact trivial|exact Sub.refl _|omega)
      exact congrArg (fun n => D.v (Value.int .i64 n)) (by omega)
    · have hlt := take_len (vs := es) (i := i) (by omega)
      have hmt := take_map eD (vs := es) (i := i) (by omega)
      by_cases hil : i < 1 + mm
      · obtain ⟨e, he1⟩ : ∃ e, es[i]? = some e := ⟨es[i], List.getElem?_eq_getElem (by omega)⟩
        obtain ⟨⟨dd, hx1, hx2⟩, _⟩ := hes i e he1
        have hnx := take_next he1
        refine go1 trivial ?_
        refine UcR [1000001] trivial (hx1) (go1 trivial ?_)
        refine UcR [1000001] trivial (hx2) (go1 trivial ?_)
        refine ⟨by omega, trivial, Wk.list [1000000, 1000001, 1000002, 1000003, 1000004, 2000072] rfl rfl ?_⟩
        repeat' (first|(conv in hold _=>simp (disch:=omega) only [go_sem])|exact trivial|exact Sub.refl _|omega)
        refine ⟨congrArg (fun n => D.v (Value.int .i64 n)) (by omega), ?_⟩
        rw [hmt, hnx, List.map_append, List.map_cons, List.map_nil, eD_eq e]
      · obtain rfl : i = 1 + mm := by omega
        have e1 : es.take (1 + mm) = es := List.take_of_length_le (by omega)
        have e2 : (es.map eD).take (1 + mm) = es.map eD := List.take_of_length_le (by rw [List.length_map]; omega)
        refine go1F @e1 ?_
        refine fin_wk (wk_rowO 1000003 2000099 1 3 (by decide) (by decide) (by decide) rfl rfl rfl) ?_
        (conv in hold _=>simp (disch:=omega) only [go_sem, e1, e2])
        refine fin_L [1000000, 1000001, 1000002, 1000005, 2000099] ?_ ?_ rfl ?_
        repeat' (first|(conv in hold _=>simp (disch:=omega) only [go_sem, e1, e2])|exact trivial|exact Sub.refl _|omega)
        exact Sub.of_eq (by rw [hel])
end Go.Proofs.YtepkimfmncedcaaGreat
set_option maxHeartbeats 4000000
set_option maxRecDepth 100000
set_option linter.unusedVariables false
set_option linter.unusedSimpArgs false
namespace Go.Proofs.YtepkimfmncedcaaGreat
open Go.RowKit
def dfV (ws : List Int) (sets : List Bool) : D := .ifc 78 (.agg [intsD ws, boolsD sets])
theorem dfV_ren (L : List Nat) (ws : List Int) (sets : List Bool) : (dfV ws sets).ren L = dfV ws sets := rfl
attribute [go_sem] dfV dfV_ren
theorem um_scan : methOf Tryz.prog 78 name_impl_scan = some 269 := by kernel_rfl
theorem um_filter : methOf Tryz.prog 78 name_impl_filter = some 264 := by kernel_rfl
theorem um_project : methOf Tryz.prog 78 name_impl_project = some 268 := by kernel_rfl
theorem um_join : methOf Tryz.prog 78 name_impl_join = some 266 := by kernel_rfl
theorem um_leftJoin : methOf Tryz.prog 78 name_impl_leftJoin = some 267 := by kernel_rfl
theorem um_union : methOf Tryz.prog 78 name_impl_union = some 270 := by kernel_rfl
theorem um_distinct : methOf Tryz.prog 78 name_impl_distinct = some 263 := by kernel_rfl
theorem um_group : methOf Tryz.prog 78 name_impl_group = some 265 := by kernel_rfl
theorem un_filter : NilFree Tryz.prog 78 name_impl_filter := fun v w => by kernel_rfl
theorem un_project : NilFree Tryz.prog 78 name_impl_project := fun v w => by kernel_rfl
theorem un_join : NilFree Tryz.prog 78 name_impl_join := fun v w => by kernel_rfl
theorem un_leftJoin : NilFree Tryz.prog 78 name_impl_leftJoin := fun v w => by kernel_rfl
theorem un_union : NilFree Tryz.prog 78 name_impl_union := fun v w => by kernel_rfl
theorem un_distinct : NilFree Tryz.prog 78 name_impl_distinct := fun v w => by kernel_rfl
theorem un_group : NilFree Tryz.prog 78 name_impl_group := fun v w => by kernel_rfl
theorem getB_ex {l : List Bool} {i : Nat} (h : i < l.length) : ∃ b, l[i]? = some b ∧ l.getD i false = b := ⟨l[i], List.getElem?_eq_getElem h, by rw [List.getD_eq_getElem?_getD, List.getElem?_eq_getElem h]; rfl⟩
def dfK (sets : List Bool) (k t : Int) (kp : Bool) (l : List Bool) : Bool := if k = 1 then sets.getD t.toNat false else if k = 6 then false else if k = 7 ∨ k = 8 then true else if k = 3 then (l.getD 0 false && kp) else l.all id
section
variable (ws : List Int) (sets : List Bool) (p : Pl)
theorem u_scan (h : 0 ≤ p.t ∧ p.t ≤ (sets.length : Int) - 1) : Does Tryz.prog 269 [] [.agg [intsD ws, boolsD sets], pD p] (Bo (sets.getD p.t.toNat false)) [] := by
  obtain ⟨x, hx, hg⟩ := getB_ex (l := sets) (i := p.t.toNat) (by omega)
  rw [hg]
  exact Bg c_Z52 mixed (go0 @hx)
theorem u_filter (a : Bool) : Does Tryz.prog 264 [] [.agg [intsD ws, boolsD sets], pD p, Bo a] (Bo a) [] := by
  exact Bg c_Z37 mixed (go0 trivial)
theorem u_join (a b : Bool) : Does Tryz.prog 266 [] [.agg [intsD ws, boolsD sets], pD p, Bo a, Bo b] (Bo (a && b)) [] := by
  cases a <;> cases b
  all_goals
    exact Bg c_Z51 mixed (go0 trivial)
theorem u_leftJoin (a b : Bool) : Does Tryz.prog 267 [] [.agg [intsD ws, boolsD sets], pD p, Bo a, Bo b] (Bo (a && b)) [] := by
  cases a <;> cases b
  all_goals
    exact Bg c_Z31 mixed (go0 trivial)
theorem u_union (a b : Bool) : Does Tryz.prog 270 [] [.agg [intsD ws, boolsD sets], pD p, Bo a, Bo b] (Bo false) [] := by
  exact Bg c_Z43 mixed (go0 trivial)
theorem u_distinct (a : Bool) : Does Tryz.prog 263 [] [.agg [intsD ws, boolsD sets], pD p, Bo a] (Bo true) [] := by
  exact Bg c_Z30 mixed (go0 trivial)
theorem u_group (a : Bool) : Does Tryz.prog 265 [] [.agg [intsD ws, boolsD sets], pD p, Bo a] (Bo true) [] := by
  exact Bg c_Z42 mixed (go0 trivial)
theorem u_project (hel : p.es.length ≤ 1048576) (x0 : Pl) (hx : p.ks[0]? = some x0) (n : Int) (hn : 0 ≤ n ∧ n ≤ 6) (hw : Does Tryz.prog 28 [] [pD x0, intsD ws] (I n) []) (a : Bool) : Does Tryz.prog 268 [] [.agg [intsD ws, boolsD sets], pD p, Bo a] (Bo (a && keepsI p.es n.toNat)) [] := by
  have r := keepsColumns_ok p.es hel n hn
  have hlt := (List.getElem?_eq_some_iff.1 hx).1
  cases a with
  | false =>
    rw [Bool.false_and]
    exact Bg c_Z33 mixed (go0 trivial)
  | true =>
    rw [Bool.true_and]
    refine Bg c_Z33 mixed (go1 @hx ?_)
    refine Uc trivial (hw) (go1 trivial ?_)
    exact Uc trivial (r) (go0 trivial)
theorem propertyB_ok (hf : fields p) (hsc : p.k = 1 → 0 ≤ p.t ∧ p.t ≤ (sets.length : Int) - 1) (kp : Bool) (hkp : p.k = 3 → ∀ a : Bool, Does Tryz.prog 268 [] [.agg [intsD ws, boolsD sets], pD p, Bo a] (Bo (a && kp)) []) {l : List Bool} (hl : l.length = p.ks.length) : Does Tryz.prog 94 [] [pD p, boolsD l, dfV ws sets] (Bo (dfK sets p.k p.t kp l)) [] := by
  unfold fields at hf
  by_cases h1 : p.k = 1
  · have r := u_scan ws sets p (hsc h1)
    rw [show dfK sets p.k p.t kp l = sets.getD p.t.toNat false by unfold dfK; rw [if_pos h1]]
    refine Bg c_Z41 mixed (go1 trivial ?_)
    refine i_meth (um_scan) ?_
    exact Uc trivial (r) (go0 trivial)
  · obtain ⟨a, ha, ga⟩ := getB_ex (l := l) (i := 0) (by omega)
    unfold dfK
    rw [if_neg h1, ga]
    by_cases h6 : p.k = 6
    · obtain ⟨b, hb, gb⟩ := getB_ex (l := l) (i := 1) (by omega)
      have r := u_union ws sets p a b
      rw [if_pos h6]
      refine Bg c_Z41 mixed (go1N (cj2 @ha @hb) ?_)
      refine s_nilb ?_
      (conv in hold _=>simp (disch:=omega) only [go_sem, List.getElem?_map, ha, hb, Option.map_some])
      refine v_nil (un_union) ?_
      refine go1N (cj2 @ha @hb) ?_
      refine i_meth (um_union) ?_
      exact Uc trivial (r) (go0N trivial)
    · rw [if_neg h6]
      by_cases h45 : p.k = 4 ∨ p.k = 5
      · obtain ⟨b, hb, gb⟩ := getB_ex (l := l) (i := 1) (by omega)
        have hall : l.all id = (a && b) := by
          match l, (by omega : l.length = 2) with
          | [c, d], _ =>
            cases ha
            cases hb
            simp
        rw [if_neg (by omega), if_neg (by omega), hall]
        by_cases h4 : p.k = 4
        · have r := u_join ws sets p a b
          refine Bg c_Z41 mixed (go1N (cj2 @ha @hb) ?_)
          refine s_nilb ?_
          (conv in hold _=>simp (disch:=omega) only [go_sem, List.getElem?_map, ha, hb, Option.map_some])
          refine v_nil (un_join) ?_
          refine go1N (cj2 @ha @hb) ?_
          refine i_meth (um_join) ?_
          exact Uc trivial (r) (go0N trivial)
        · have r := u_leftJoin ws sets p a b
          refine Bg c_Z41 mixed (go1N (cj2 @ha @hb) ?_)
          refine s_nilb ?_
          (conv in hold _=>simp (disch:=omega) only [go_sem, List.getElem?_map, ha, hb, Option.map_some])
          refine v_nil (un_leftJoin) ?_
          refine go1N (cj2 @ha @hb) ?_
          refine i_meth (um_leftJoin) ?_
          exact Uc trivial (r) (go0N trivial)
      · by_cases h8 : p.k = 8
        · have r := u_group ws sets p a
          rw [if_pos (by omega)]
          refine Bg c_Z41 mixed (go1N @ha ?_)
          refine s_nilb ?_
          (conv in hold _=>simp (disch:=omega) only [go_sem, List.getElem?_map, ha, Option.map_some])
          refine v_nil (un_group) ?_
          refine go1N @ha ?_
          refine i_meth (um_group) ?_
          exact Uc trivial (r) (go0N trivial)
        · by_cases h7 : p.k = 7
          · have r := u_distinct ws sets p a
            rw [if_pos (by omega)]
            refine Bg c_Z41 mixed (go1N @ha ?_)
            refine s_nilb ?_
            (conv in hold _=>simp (disch:=omega) only [go_sem, List.getElem?_map, ha, Option.map_some])
            refine v_nil (un_distinct) ?_
            refine go1N @ha ?_
            refine i_meth (um_distinct) ?_
            exact Uc trivial (r) (go0N trivial)
          · rw [if_neg (by omega)]
            by_cases h3 : p.k = 3
            · have r := hkp h3 a
              rw [if_pos h3]
              refine Bg c_Z41 mixed (go1N @ha ?_)
              refine s_nilb ?_
              (conv in hold _=>simp (disch:=omega) only [go_sem, List.getElem?_map, ha, Option.map_some])
              refine v_nil (un_project) ?_
              refine go1N @ha ?_
              refine i_meth (um_project) ?_
              exact Uc trivial (r) (go0N trivial)
            · have hall : l.all id = a := by
                match l, (by omega : l.length = 1) with
                | [c], _ =>
                  cases ha
                  simp
              rw [if_neg h3, hall]
              have r := u_filter ws sets p a
              refine Bg c_Z41 mixed (go1N @ha ?_)
              refine s_nilb ?_
              (conv in hold _=>simp (disch:=omega) only [go_sem, List.getElem?_map, ha, Option.map_some])
              refine v_nil (un_filter) ?_
              refine go1N @ha ?_
              refine i_meth (um_filter) ?_
              exact Uc trivial (r) (go0N trivial)
end
end Go.Proofs.YtepkimfmncedcaaGreat
set_option maxHeartbeats 4000000
set_option maxRecDepth 100000
set_option linter.unusedVariables false
set_option linter.unusedSimpArgs false
namespace Go.Proofs.YtepkimfmncedcaaGreat
open Go.RowKit
def AscS (l : List (List V)) : Prop := l.Pairwise (fun a b => cmpR a b < 0)
theorem AscS.asc {l : List (List V)} (h : AscS l) : Asc l := List.Pairwise.imp (fun h => Int.le_of_lt h) h
theorem AscS.cnt {l : List (List V)} (h : AscS l) (x : List V) : cntE x l ≤ 1 := by
  induction l with
  | nil => exact Nat.zero_le _
  | cons a l ih =>
    obtain ⟨h1, h2⟩ := List.pairwise_cons.1 h
    by_cases ha : a = x
    · subst ha
      have h0 : cntE a l = 0 := Nat.eq_zero_of_not_pos (fun hp => by
        have := h1 a (cntE_pos.1 hp)
        rw [cmpR_self] at this
        exact absurd this (by decide))
      rw [cntE_same, h0]
      decide
    · rw [cntE_ne ha]; exact ih h2
theorem ascS_unique {w : Nat} {l m : List (List V)} (hm : RsW w m) (al : AscS l) (am : AscS m) (h : ∀ x, x ∈ l ↔ x ∈ m) : l = m :=
  asc_unique hm al.asc am.asc fun x => by
    have h1 := al.cnt x
    have h2 := am.cnt x
    have h3 := h x
    rw [← cntE_pos, ← cntE_pos] at h3
    omega
theorem ascR_at {l : List (List V)} (h : Asc l) {i j : Nat} {x y : List V} (hij : i < j) (hx : l[i]? = some x) (hy : l[j]? = some y) : cmpR x y ≤ 0 := by
  obtain ⟨h1, e1⟩ := List.getElem?_eq_some_iff.1 hx
  obtain ⟨h2, e2⟩ := List.getElem?_eq_some_iff.1 hy
  have := List.pairwise_iff_getElem.1 h i j h1 h2 hij
  rw [e1, e2] at this
  exact this
theorem dst_in {w : Nat} {rs : List (List V)} (hr : RsW w rs) (ha : Asc rs) : ∀ i, i ≤ rs.length → AscS (dstL rs i) ∧ ∀ x, x ∈ dstL rs i ↔ x ∈ rs.take i
  | 0, _ => ⟨List.Pairwise.nil, fun x => by rw [List.take_zero]; exact Iff.rfl⟩
  | i + 1, hi => by
    obtain ⟨h1, h2⟩ := dst_in hr ha i (by omega)
    obtain ⟨x, hx⟩ : ∃ x, rs[i]? = some x := ⟨_, List.getElem?_eq_getElem (by omega)⟩
    have hgx : rs.getD i [] = x := by rw [List.getD_eq_getElem?_getD, hx]; rfl
    have htk := take_next hx
    rw [dstL, hgx]
    cases i with
    | zero =>
      rw [if_pos (show dstP rs 0 = true from rfl), htk, List.take_zero]
      exact ⟨List.pairwise_singleton .., fun z => Iff.rfl⟩
    | succ j =>
      obtain ⟨y, hy⟩ : ∃ y, rs[j]? = some y := ⟨_, List.getElem?_eq_getElem (by omega)⟩
      have hgy : rs.getD j [] = y := by rw [List.getD_eq_getElem?_getD, hy]; rfl
      have hdp : dstP rs (j + 1) = !(cmpR y x == 0) := by
        show (!(cmpR (rs.getD j []) (rs.getD (j + 1) []) == 0)) = _
        rw [hgy, hgx]
      have hyx : cmpR y x ≤ 0 := ascR_at ha (Nat.lt_succ_self j) hy hx
      have hym : y ∈ rs.take (j + 1) := by rw [take_next hy]; exact List.mem_append_right _ (List.mem_singleton.2 rfl)
      have hxr := hr x (List.mem_of_getElem? hx)
      have hyr := hr y (List.mem_of_getElem? hy)
      by_cases he : cmpR y x = 0
      · have hyx := cmpR_eq he
        rw [if_neg (by rw [hdp, he]; decide), List.append_nil]
        refine ⟨h1, fun z => ?_⟩
        rw [h2 z, htk, List.mem_append, List.mem_singleton]
        exact ⟨Or.inl, fun h => h.elim id (fun h => by rw [h, ← hyx]; exact hym)⟩
      · have hlt : cmpR y x < 0 := by omega
        rw [if_pos (by rw [hdp]; simp [he])]
        refine ⟨List.pairwise_append.2 ⟨h1, List.pairwise_singleton .., fun z hz u hu => ?_⟩, fun z => ?_⟩
        · rw [List.mem_singleton.1 hu]
          have hzm := (h2 z).1 hz
          have hzr := hr z (List.mem_of_mem_take hzm)
          rw [take_next hy, List.mem_append, List.mem_singleton] at hzm
          rcases hzm with hzm | rfl
          · obtain ⟨k, hk⟩ := List.mem_iff_getElem?.1 hzm
            have hkl := (List.getElem?_eq_some_iff.1 hk).1
            rw [List.length_take] at hkl
            have hk2 : rs[k]? = some z := by rw [List.getElem?_take] at hk; split at hk <;> first | exact hk | cases hk
            exact (cmpR_trans z y x (by rw [hzr.1, hyr.1]) (by rw [hyr.1, hxr.1]) hzr.2 hyr.2 hxr.2 (ascR_at ha (by omega) hk2 hy)).2 hlt
          · exact hlt
        · rw [List.mem_append, h2 z, htk, List.mem_append]
theorem dst_ascS {w : Nat} {rs : List (List V)} (hr : RsW w rs) (ha : Asc rs) : AscS (dstL rs rs.length) ∧ ∀ x, x ∈ dstL rs rs.length ↔ x ∈ rs := by
  have h := dst_in hr ha rs.length (Nat.le_refl _)
  rw [List.take_length] at h
  exact h
end Go.Proofs.YtepkimfmncedcaaGreat

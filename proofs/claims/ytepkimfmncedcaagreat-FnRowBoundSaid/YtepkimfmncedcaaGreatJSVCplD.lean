/-
  PlanCost of both packages. No condition.
-/
import Derived.Test.YtepkimfmncedcaaGreatKSDca
import Derived.Test.YtepkimfmncedcaaGreatJSDcf
import Derived.Test.YtepkimfmncedcaaGreatJSVRwb
import Derived.Test.YtepkimfmncedcaaGreatJSVPiP
import Derived.Test.YtepkimfmncedcaaGreatJSVGo
import Derived.Test.YtepkimfmncedcaaGreatJSVWidC
import Derived.Test.YtepkimfmncedcaaGreatJSVRb
set_option maxHeartbeats 4000000
set_option maxRecDepth 100000
set_option linter.unusedVariables false
set_option linter.unusedSimpArgs false
namespace Go.Proofs.YtepkimfmncedcaaGreat
open Go.RowKit
mutual
def pcS (db : List Ta) : Pl → Nat
  | .mk k t es cs ks => (evP db (.mk k t es cs ks)).rows.length + pcL db ks
def pcL (db : List Ta) : List Pl → Nat
  | [] => 0
  | p :: l => pcS db p + pcL db l
end
theorem pcS_eq (db : List Ta) (p : Pl) : pcS db p = (evP db p).rows.length + pcL db p.ks := by
  cases p with
  | mk k t es cs ks => rw [pcS]; rfl
theorem pcL_app (db : List Ta) : ∀ l m : List Pl, pcL db (l ++ m) = pcL db l + pcL db m
  | [], m => by rw [List.nil_append, pcL, Nat.zero_add]
  | p :: l, m => by rw [List.cons_append, pcL, pcL, pcL_app db l m, Nat.add_assoc]
theorem pcL_next {db : List Ta} {ks : List Pl} {i : Nat} {x : Pl} (h : ks[i]? = some x) : pcL db (ks.take (i + 1)) = pcL db (ks.take i) + pcS db x := by
  rw [take_next h, pcL_app, pcL, pcL, Nat.add_zero]
theorem pcL_le (db : List Ta) (ks : List Pl) (i : Nat) : pcL db (ks.take i) ≤ pcL db ks := by
  have h := pcL_app db (ks.take i) (ks.drop i)
  rw [List.take_append_drop] at h
  omega
theorem pc_bound {ws : List Nat} {db : List Ta} (hd : DbW ws db) {p : Pl} {n : Nat} (h : Wt ws p n) : pcS db p ≤ 400 * (psz p + 1) := by
  have hfew : ∀ {p : Pl} {n : Nat}, Wt ws p n → (evP db p).rows.length ≤ 400 := fun h => (evalPlan_ok hd h).1.few
  induction h with
  | @scan p j w hk ht hw hks =>
    have := hfew (Wt.scan hk ht hw hks)
    rw [pcS_eq, hks, pcL]
    omega
  | @filter p q w e hk hks hes hq he ih =>
    have := hfew (Wt.filter hk hks hes hq he)
    rw [pcS_eq, psz_eq, hks, pcL, pcL, pszL, pszL]
    omega
  | @project p q w hk hks hq hes hl ih =>
    have := hfew (Wt.project hk hks hq hes hl)
    rw [pcS_eq, psz_eq, hks, pcL, pcL, pszL, pszL]
    omega
  | @join p q r wa wb e hk hks hes hq hr he hw iq ir =>
    have := hfew (Wt.join hk hks hes hq hr he hw)
    rw [pcS_eq, psz_eq, hks, pcL, pcL, pcL, pszL, pszL, pszL]
    omega
  | @union p q r w hk hks hq hr iq ir =>
    have := hfew (Wt.union hk hks hq hr)
    rw [pcS_eq, psz_eq, hks, pcL, pcL, pcL, pszL, pszL, pszL]
    omega
  | @distinct p q w hk hks hq ih =>
    have := hfew (Wt.distinct hk hks hq)
    rw [pcS_eq, psz_eq, hks, pcL, pcL, pszL, pszL]
    omega
  | @group p q w hk hks hq hc hl ih =>
    have := hfew (Wt.group hk hks hq hc hl)
    rw [pcS_eq, psz_eq, hks, pcL, pcL, pszL, pszL]
    omega
/-! The model. -/
theorem planCost_step {db : List Ta} {p : Pl} (hb : pcS db p ≤ 1000000000) (hlen : p.ks.length ≤ 1048576) (hev : Does Tryz.prog 37 [] [pD p, tasD db] (taD (evP db p)) []) (hk : ∀ x, x ∈ p.ks → Does Tryz.prog 54 [] [pD x, tasD db] (I (pcS db x)) []) : Does Tryz.prog 54 [] [pD p, tasD db] (I (pcS db p)) [] := by
  have hS := pcS_eq db p
  have hSi : ((pcS db p : Nat) : Int) = ((evP db p).rows.length : Int) + (pcL db (p.ks.take p.ks.length) : Int) := by rw [List.take_length]; omega
  rw [hSi]
  generalize evP db p = t at *
  refine Bg c_Z168 mixed (go1 trivial ?_)
  refine Uc trivial (hev) (go1 trivial ?_)
  refine dw_for (c := 1) (l := fun i => [(1, tasD db), (2, .ref 1000000 0), (5, I ((t.rows.length : Int) + (pcL db (p.ks.take i) : Int))), (6, I i), (1000000, .obj [I p.k, I p.t, .sl 5 (p.es.map eD), intsD p.cs, .sl 5 (p.ks.map pD)])]) p.ks.length (fun _ => True) 0 trivial (Wk.list [2000002] rfl rfl ?_) (fun i hi _ => ?_) (Nat.zero_le _)
  · repeat' (first|(conv in hold _=>simp (disch:=omega) only [go_sem])|exact trivial|exact Sub.refl _|omega)
    (repeat' apply And.intro) <;> first | rfl | exact congrArg (fun n => D.v (Value.int .i64 n)) (by simp [pcL])
  · have hle := pcL_le db p.ks i
    rcases at_or_end hi with ⟨x, hx, hlt⟩ | rfl
    · have hix := hk x (List.mem_of_getElem? hx)
      have hnx := pcL_next (db := db) hx
      have hle2 := pcL_le db p.ks (i + 1)
      have hsn : (t.rows.length : Int) + (pcL db (p.ks.take (i + 1)) : Int) = (t.rows.length : Int) + (pcL db (p.ks.take i) : Int) + (pcS db x : Int) := by omega
      refine go1 @hx ?_
      refine Uc @hx (hix) (go1 @hx ?_)
      refine ⟨hlt, trivial, Wk.list [1000000] rfl rfl ?_⟩
      repeat' (first|(conv in hold _=>simp (disch:=omega) only [go_sem, hsn])|exact trivial|exact Sub.refl _|omega)
    · exact go0 trivial
theorem planCost_ok {ws : List Nat} {db : List Ta} (hd : DbW ws db) {p : Pl} {n : Nat} (h : Wt ws p n) : psz p ≤ 1048576 → Does Tryz.prog 54 [] [pD p, tasD db] (I (pcS db p)) [] := by
  have hB : ∀ {p : Pl} {n : Nat}, Wt ws p n → psz p ≤ 1048576 → pcS db p ≤ 1000000000 := fun h hs => by have := pc_bound hd h; omega
  have hL : ∀ {p : Pl}, psz p ≤ 1048576 → p.ks.length ≤ 1048576 := fun {p} hs => by rw [psz_eq] at hs; have := pszL_len p.ks; omega
  induction h with
  | @scan p j w hk ht hw hks => exact fun hs => planCost_step (hB (Wt.scan hk ht hw hks) hs) (hL hs) (evalPlan_ok hd (Wt.scan hk ht hw hks)).2 (fun x hx => by rw [hks] at hx; cases hx)
  | @filter p q w e hk hks hes hq he ih => exact fun hs => planCost_step (hB (Wt.filter hk hks hes hq he) hs) (hL hs) (evalPlan_ok hd (Wt.filter hk hks hes hq he)).2 (fun x hx => by
      have hz := psz_kid hx hs
      rw [hks] at hx
      obtain rfl := List.mem_singleton.1 hx
      exact ih hz)
  | @project p q w hk hks hq hes hl ih => exact fun hs => planCost_step (hB (Wt.project hk hks hq hes hl) hs) (hL hs) (evalPlan_ok hd (Wt.project hk hks hq hes hl)).2 (fun x hx => by
      have hz := psz_kid hx hs
      rw [hks] at hx
      obtain rfl := List.mem_singleton.1 hx
      exact ih hz)
  | @join p q r wa wb e hk hks hes hq hr he hw iq ir => exact fun hs => planCost_step (hB (Wt.join hk hks hes hq hr he hw) hs) (hL hs) (evalPlan_ok hd (Wt.join hk hks hes hq hr he hw)).2 (fun x hx => by
      have hz := psz_kid hx hs
      rw [hks] at hx
      rcases List.mem_cons.1 hx with rfl | hx
      · exact iq hz
      · obtain rfl := List.mem_singleton.1 hx
        exact ir hz)
  | @union p q r w hk hks hq hr iq ir => exact fun hs => planCost_step (hB (Wt.union hk hks hq hr) hs) (hL hs) (evalPlan_ok hd (Wt.union hk hks hq hr)).2 (fun x hx => by
      have hz := psz_kid hx hs
      rw [hks] at hx
      rcases List.mem_cons.1 hx with rfl | hx
      · exact iq hz
      · obtain rfl := List.mem_singleton.1 hx
        exact ir hz)
  | @distinct p q w hk hks hq ih => exact fun hs => planCost_step (hB (Wt.distinct hk hks hq) hs) (hL hs) (evalPlan_ok hd (Wt.distinct hk hks hq)).2 (fun x hx => by
      have hz := psz_kid hx hs
      rw [hks] at hx
      obtain rfl := List.mem_singleton.1 hx
      exact ih hz)
  | @group p q w hk hks hq hc hl ih => exact fun hs => planCost_step (hB (Wt.group hk hks hq hc hl) hs) (hL hs) (evalPlan_ok hd (Wt.group hk hks hq hc hl)).2 (fun x hx => by
      have hz := psz_kid hx hs
      rw [hks] at hx
      obtain rfl := List.mem_singleton.1 hx
      exact ih hz)
/-! The program. -/
def cstT (db : List Ta) (u : Int) : List D := [.obj [.fn 97 [.ref 1000002 0]], .obj [I u], .obj [tasD db]]
def cstTV : D := .fn 96 [.ref 1000000 0, .ref 1000001 0]
attribute [go_sem] cstT cstTV
theorem modelT_ok {db q : List Ta} {p : Pl} {t : Ta} (r : Does Tryz.prog 32 [] [pD p, tasD q, tasD db] (taD t) []) : Does Tryz.prog 97 [.obj [tasD db]] [pD p, tasD q, .ref 1000000 0] (.tup [taD t, I t.rows.length]) [.obj [tasD db]] := by
  refine Bk c_Z68 mixed 1 (go1 trivial ?_)
  refine Uc trivial (r) (go1 trivial ?_)
  refine fin_L [1000000] ?_ ?_ rfl ?_
  repeat' (first|(conv in hold _=>simp (disch:=omega) only [go_sem])|exact trivial|exact Sub.refl _|omega)
theorem visitT_ok {db q : List Ta} {p : Pl} {t : Ta} {u : Int} (hu : 0 ≤ u ∧ u ≤ 1000000000000) (ht : t.rows.length ≤ 1000) (r : Does Tryz.prog 32 [] [pD p, tasD q, tasD db] (taD t) []) :
    Does Tryz.prog 96 (cstT db u) [pD p, tasD q, .ref 1000000 0, .ref 1000001 0] (taD t) (cstT db (u + t.rows.length)) := by
  have hm := modelT_ok r
  refine Bk c_Z15 mixed 3 (go1 trivial ?_)
  refine v_fn ((by kernel_rfl)) ?_
  refine UcR [1000002] trivial (hm) (go1 trivial ?_)
  refine fin_L [1000000, 1000001, 1000002] ?_ ?_ rfl ?_
  repeat' (first|(conv in hold _=>simp (disch:=omega) only [go_sem])|exact trivial|exact Sub.refl _|omega)
theorem foldP_ok {db : List Ta} {p : Pl} {t : Ta} (h : ResT db p t) : ∀ u : Int, 0 ≤ u → u + pcS db p ≤ 1000000000 →
    Does Tryz.prog 30 (cstT db u) [pD p, cstTV] (taD t) (cstT db (u + pcS db p)) := by
  induction h with
  | @mk p t q hl hk4 hk hr hp hfew ih =>
    intro u hu0 hub
    have hrl := hp.length_eq
    have hS := pcS_eq db p
    have hv := visitT_ok (u := u + (pcL db p.ks : Int)) (by omega) (by omega) hr
    have he : u + ((pcS db p : Nat) : Int) = u + (pcL db p.ks : Int) + (t.rows.length : Int) := by omega
    rw [he]
    refine Bk c_Z19 mixed 3 (go1 trivial ?_)
    refine dw_for (c := 6) (l := fun i => [(1, cstTV), (2, .ref 1000003 0), (4, .ref 1000004 0), (5, .own 1000005 2 i), (9, .sl 5 (p.ks.map pD)), (10, I p.ks.length), (11, I i), (1000000, .obj [.fn 97 [.ref 1000002 0]]), (1000001, .obj [I (u + (pcL db (p.ks.take i) : Int))]), (1000002, .obj [tasD db]), (1000003, .obj [I p.k, I p.t, .sl 5 (p.es.map eD), intsD p.cs, .sl 5 (p.ks.map pD)]), (1000004, .obj [I 0, .nul]), (1000005, .row 2 ((q.take i).map taD))]) p.ks.length (fun _ => True) 0 trivial ((wk_row 5 2000090 2 (by decide) (by decide) rfl rfl).trans (Wk.list [1000000, 1000001, 1000002, 2000002, 2000004, 2000090] rfl rfl ?_)) (fun i hi _ => ?_) (Nat.zero_le _)
    · repeat' (first|(conv in hold _=>simp (disch:=omega) only [go_sem])|exact trivial|exact Sub.refl _|omega)
      (repeat' apply And.intro) <;> first | rfl | exact congrArg (fun n => D.obj [D.v (Value.int .i64 n)]) (by simp [pcL])
    · have htl : (q.take i).length = i := by rw [List.length_take]; omega
      have hmk := take_map taD (vs := q) (i := i) (by omega)
      have hle := pcL_le db p.ks i
      rcases at_or_end hi with ⟨x, hx, hlt⟩ | rfl
      · obtain ⟨c, hqx⟩ : ∃ c, q[i]? = some c := ⟨_, List.getElem?_eq_getElem (by omega)⟩
        have hnx := take_next hqx
        have hpn := pcL_next (db := db) hx
        have hle2 := pcL_le db p.ks (i + 1)
        have hsn : u + ((pcL db (p.ks.take (i + 1)) : Nat) : Int) = u + (pcL db (p.ks.take i) : Int) + (pcS db x : Int) := by omega
        have hix := ih i x c hx hqx (u + (pcL db (p.ks.take i) : Int)) (by omega) (by omega)
        refine go1 @hx ?_
        refine UcR [1000000, 1000001, 1000002] @htl (hix) (go1 @htl ?_)
        refine ⟨hlt, trivial, Wk.list [1000000, 1000001, 1000002, 1000003, 1000004, 2000020] rfl rfl ?_⟩
        repeat' (first|(conv in hold _=>simp (disch:=omega) only [go_sem, List.length_map, htl])|exact trivial|exact Sub.refl _|omega)
        rw [hmk, hnx, List.map_append, hsn]
        (repeat' apply And.intro) <;> rfl
      · have e1 : q.take p.ks.length = q := List.take_of_length_le (by omega)
        have e2 : (q.map taD).take p.ks.length = q.map taD := List.take_of_length_le (by rw [List.length_map]; omega)
        have e3 : p.ks.take p.ks.length = p.ks := List.take_length
        rw [e1, e3]
        refine go1C trivial ?_
        refine s_pre (pre_frz (t := 24) (g := 1000005) (by decide) (by decide) rfl ?_) ?_
        rotate_left
        refine go1 (cj2 @e2 @hl) ?_
        · refine v_fn ((by kernel_rfl)) ?_
          refine UcR [1000000, 1000001, 1000002] trivial (hv) (go1 trivial ?_)
          refine fin_L [1000000, 1000001, 1000002] ?_ ?_ rfl ?_
          repeat' (first|(conv in hold _=>simp (disch:=omega) only [go_sem])|exact trivial|exact Sub.refl _|omega)
        · exact tas_pur _
theorem actualCost_ok (db : List Ta) : Does Tryz.prog 53 [] [tasD db] (.fn 97 [.ref 1000000 0]) [.obj [tasD db]] := by
  refine Bk c_Z108 mixed 0 (go1 trivial ?_)
  refine fin_L [2000001] ?_ ?_ rfl ?_
  repeat' (first|(conv in hold _=>simp (disch:=omega) only [go_sem])|exact trivial|exact Sub.refl _|omega)
theorem totalT_ok {db : List Ta} {p : Pl} {t : Ta} {c : Nat} (h : Does Tryz.prog 30 (cstT db 0) [pD p, cstTV] (taD t) (cstT db ((0 : Int) + c))) : Does Tryz.prog 52 [.obj [tasD db]] [pD p, .fn 97 [.ref 1000000 0]] (I c) [.obj [tasD db]] := by
  rw [Int.zero_add] at h
  refine Bk c_Z18 mixed 1 (go1 trivial ?_)
  refine UcR [2000003, 2000005, 1000000] trivial (h) (go1 trivial ?_)
  refine fin_L [1000000] ?_ ?_ rfl ?_
  repeat' (first|(conv in hold _=>simp (disch:=omega) only [go_sem])|exact trivial|exact Sub.refl _|omega)
theorem PlanCost_fit {db : List Ta} {p : Pl} (hf : fitB db p) (hs : psz p ≤ 1048576) (hl : db.length ≤ 1000) (hsz : ∀ t, t ∈ db → rsz t.rows ≤ 1048576) :
    Does Tryz.prog 24 [] [pD p, tasD db] (I (pcS db p)) [] ∧ Does Tryz.prog 25 [] [pD p, tasD db] (I (pcS db p)) [] := by
  obtain ⟨n, hn, hwt, hd, hT⟩ := fit_wt hf
  have hwl : (natI (dbWs db)).length ≤ 1048576 := by unfold natI dbWs; rw [List.length_map, List.length_map]; omega
  obtain ⟨_, g1, g2⟩ := PlanWidth_fn p hs (natI (dbWs db)) hwl
  have hw1 := tableWidths_t hl hf.1 hsz
  have hw2 := widthsOf_t hl hf.1
  have hpc := planCost_ok hd hwt hs
  obtain ⟨t, _, _, hR⟩ := res_ok hd hwt hs
  have hb := pc_bound hd hwt
  have hfo := foldP_ok hR 0 (by decide) (by omega)
  have hto := totalT_ok hfo
  have hac := actualCost_ok db
  have hne : (PV (natI (dbWs db)) p == 0) = false := beq_eq_false_iff_ne.2 hf.2
  generalize PV (natI (dbWs db)) p = w at *
  constructor
  · refine Bg c_Z144 mixed (go1 trivial ?_)
    refine Uc trivial (hw1) (go1 trivial ?_)
    refine Uc @hne (g2) (go1 @hne ?_)
    refine UcR [3000001] trivial (hac) (go1 trivial ?_)
    exact UcR [3000001] trivial (hto) (go0 trivial)
  · refine Bg c_Z155 mixed (go1 trivial ?_)
    refine Uc trivial (hw2) (go1 trivial ?_)
    refine Uc @hne (g1) (go1 @hne ?_)
    exact Uc trivial (hpc) (go0 trivial)
theorem PlanCost_no {db : List Ta} {p : Pl} (hf : ¬ fitB db p) (hs : psz p ≤ 1048576) (hl : db.length ≤ 1000) (hsz : ∀ t, t ∈ db → rsz t.rows ≤ 1048576) :
    Does Tryz.prog 24 [] [pD p, tasD db] (I (-1)) [] ∧ Does Tryz.prog 25 [] [pD p, tasD db] (I (-1)) [] := by
  have hwl : (natI (dbWs db)).length ≤ 1048576 := by unfold natI dbWs; rw [List.length_map, List.length_map]; omega
  by_cases hok : dbOk db
  · obtain ⟨_, g1, g2⟩ := PlanWidth_fn p hs (natI (dbWs db)) hwl
    have h0 : PV (natI (dbWs db)) p = 0 := Classical.byContradiction fun hne => hf ⟨hok, hne⟩
    rw [h0] at g1 g2
    have hw1 := tableWidths_t hl hok hsz
    have hw2 := widthsOf_t hl hok
    constructor
    · refine Bg c_Z144 mixed (go1 trivial ?_)
      refine Uc trivial (hw1) (go1 trivial ?_)
      exact Uc trivial (g2) (go0 trivial)
    · refine Bg c_Z155 mixed (go1 trivial ?_)
      refine Uc trivial (hw2) (go1 trivial ?_)
      exact Uc trivial (g1) (go0 trivial)
  · obtain ⟨_, g1, g2⟩ := PlanWidth_fn p hs (natI []) (by decide)
    have h0 : PV (natI []) p = 0 := if_neg (fun h => by have := h.1.1; simp [natI] at this)
    rw [h0] at g1 g2
    have hw1 := tableWidths_f hl hsz hok
    have hw2 := widthsOf_f hl hsz hok
    constructor
    · refine Bg c_Z144 mixed (go1 trivial ?_)
      refine Uc trivial (hw1) (go1 trivial ?_)
      exact Uc trivial (g2) (go0 trivial)
    · refine Bg c_Z155 mixed (go1 trivial ?_)
      refine Uc trivial (hw2) (go1 trivial ?_)
      exact Uc trivial (g1) (go0 trivial)
end Go.Proofs.YtepkimfmncedcaaGreat
set_option maxHeartbeats 4000000
set_option maxRecDepth 100000
set_option linter.unusedVariables false
set_option linter.unusedSimpArgs false
namespace Go.Proofs.YtepkimfmncedcaaGreat
open Go.RowKit
theorem fit_kid {db : List Ta} {p x : Pl} (h : fitB db p) (hx : x ∈ p.ks) : fitB db x := ⟨h.1, PV_kid h.2 hx⟩
/-! Joins by a condition. -/
theorem joi_flat (n : Nat) (e : E) (ra rb : List (List V)) : joiL false n e ra rb = (ra.flatMap (fun r => rb.map (fun b => r ++ b))).filter (holdsB e) := by
  rw [List.filter_flatMap]
  rfl
theorem pair_len (ra rb : List (List V)) : (ra.flatMap (fun r => rb.map (fun b => r ++ b))).length = ra.length * rb.length := by
  induction ra with
  | nil => rw [List.flatMap_nil, List.length_nil, Nat.zero_mul]
  | cons r ra ih => rw [List.flatMap_cons, List.length_append, ih, List.length_map, List.length_cons, Nat.add_mul]; omega
end Go.Proofs.YtepkimfmncedcaaGreat
set_option maxHeartbeats 4000000
set_option maxRecDepth 100000
set_option linter.unusedVariables false
set_option linter.unusedSimpArgs false
namespace Go.Proofs.YtepkimfmncedcaaGreat
open Go.RowKit
/-! Groups. -/
theorem isK_iff {key a : List V} : isK key a = true ↔ a = key := by
  unfold isK
  rw [beq_iff_eq]
  exact ⟨cmpR_eq, fun h => by rw [h]; exact cmpR_self key⟩
theorem sum_set : ∀ (l : List Int) (i : Nat) (c : Int), l[i]? = some c → (l.set i (c + 1)).sum = l.sum + 1
  | [], i, c, h => by simp at h
  | a :: l, 0, c, h => by
    obtain rfl : a = c := by simpa using h
    rw [List.set_cons_zero, List.sum_cons, List.sum_cons]
    omega
  | a :: l, i + 1, c, h => by
    have := sum_set l i c (by simpa using h)
    rw [List.set_cons_succ, List.sum_cons, List.sum_cons, this]
    omega
structure GroK (cs : List Int) (rs : List (List V)) (n : Nat) (s : List (List V) × List Int) : Prop where
  mem : ∀ k, k ∈ s.1 ↔ ∃ r, r ∈ rs.take n ∧ pkR cs r = k
  one : s.1.Nodup
  sum : s.2.sum = n
  pos : ∀ c, c ∈ s.2 → 1 ≤ c
  same : s.2.length = s.1.length
theorem groK (cs : List Int) (rs : List (List V)) : ∀ i, i ≤ rs.length → GroK cs rs i (groG cs (rs.take i))
  | 0, _ => ⟨fun k => ⟨(fun h => by cases h), (fun ⟨r, h, _⟩ => by rw [List.take_zero] at h; cases h)⟩, List.nodup_nil, rfl, (fun c h => by cases h), rfl⟩
  | i + 1, hi => by
    obtain ⟨x, hx⟩ : ∃ x, rs[i]? = some x := ⟨_, List.getElem?_eq_getElem (by omega)⟩
    obtain ⟨h1, h2, h3, h4, h5⟩ := groK cs rs i (by omega)
    have htk := take_next hx
    rw [groG_next hx]
    generalize groG cs (rs.take i) = s at h1 h2 h3 h4 h5
    have hmem : ∀ k, (∃ r, r ∈ rs.take (i + 1) ∧ pkR cs r = k) ↔ (k ∈ s.1 ∨ k = pkR cs x) := fun k => by
      rw [h1 k, htk]
      constructor
      · rintro ⟨r, hr, he⟩
        rcases List.mem_append.1 hr with hr | hr
        · exact Or.inl ⟨r, hr, he⟩
        · exact Or.inr (by rw [← he, List.mem_singleton.1 hr])
      · rintro (⟨r, hr, he⟩ | he)
        · exact ⟨r, List.mem_append_left _ hr, he⟩
        · exact ⟨x, List.mem_append_right _ (List.mem_singleton.2 rfl), he.symm⟩
    generalize pkR cs x = key at hmem
    unfold stpG
    split
    · rename_i hp
      have hn : key ∉ s.1 := fun hk => by
        have := List.findIdx_lt_length.2 ⟨key, hk, isK_iff.2 rfl⟩
        unfold posG at hp
        omega
      refine ⟨fun k => ?_, List.nodup_append.2 ⟨h2, List.nodup_cons.2 ⟨List.not_mem_nil, List.nodup_nil⟩, fun a ha b hb => ?_⟩, ?_, fun c hc => ?_, ?_⟩
      · rw [hmem k, List.mem_append, List.mem_singleton]
      · rw [List.mem_singleton.1 hb]
        exact fun h => hn (h ▸ ha)
      · rw [List.sum_append, h3]; simp
      · rcases List.mem_append.1 hc with hc | hc
        · exact h4 c hc
        · rw [List.mem_singleton.1 hc]; decide
      · rw [List.length_append, List.length_append, h5]; rfl
    · rename_i hp
      have hlt : posG key s.1 < s.1.length := Nat.lt_of_le_of_ne (posG_le key s.1) hp
      obtain ⟨a, ha⟩ : ∃ a, s.1[posG key s.1]? = some a := ⟨_, List.getElem?_eq_getElem hlt⟩
      have hak := cmpR_eq (posG_eq ha)
      have hkm : key ∈ s.1 := by rw [← hak]; exact List.mem_of_getElem? ha
      obtain ⟨c, hc⟩ : ∃ c, s.2[posG key s.1]? = some c := ⟨_, List.getElem?_eq_getElem (by omega)⟩
      have hgd : s.2.getD (posG key s.1) 0 = c := by rw [List.getD_eq_getElem?_getD, hc]; rfl
      rw [hgd]
      refine ⟨fun k => ?_, h2, ?_, fun c' hc' => ?_, ?_⟩
      · rw [hmem k]
        exact ⟨Or.inl, fun h => h.elim id (fun h => by rw [h]; exact hkm)⟩
      · show (s.2.set (posG key s.1) (c + 1)).sum = _
        rw [sum_set _ _ _ hc, h3]
        omega
      · rcases List.mem_or_eq_of_mem_set hc' with h | h
        · exact h4 c' h
        · have := h4 c (List.mem_of_getElem? hc); omega
      · show (s.2.set (posG key s.1) (c + 1)).length = _
        rw [List.length_set]
        exact h5
theorem groK_all (cs : List Int) (rs : List (List V)) : GroK cs rs rs.length (groG cs rs) := by
  have h := groK cs rs rs.length (Nat.le_refl _)
  rw [List.take_length] at h
  exact h
end Go.Proofs.YtepkimfmncedcaaGreat

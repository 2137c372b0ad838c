/-
  Drawn plans whose lists are rows of one's own: projections. No condition.
-/
import Derived.Test.YtikfanemeglcoaaDca
import Derived.Test.YtikfanemeglcoaaDcd
import Derived.Test.YtikfanemeglcoaaKVPlanO
import Derived.Test.YtikfanemeglcoaaVLend
import Derived.Test.YtikfanemeglcoaaJVRwA
set_option maxHeartbeats 4000000
set_option maxRecDepth 100000
set_option linter.unusedVariables false
set_option linter.unusedSimpArgs false
namespace Go.Proofs.Ytikfanemeglcoaa
open Go.RowKit

variable {bs : List Nat} {ws : List Int} {p j u d : Nat} {x : Pl} {t k6 c n : Int} {q j1 u1 : Nat}
theorem oplan_proj (h : Pre bs ws p j u d x t k6 c n q j1 u1) (hc : c = 3 ∨ c = 4) {mm : Nat} (hmm : DPick bs (q + 1) 2 mm) (hm1 : mm ≤ 1) {es : List E} {ps : Nat → Nat} (hel : es.length = 1 + mm) (h0 : ps 0 = q + 2) (hes : ∀ i e, es[i]? = some e → DOne bs n (ps i) e (ps (i + 1))) : OPlan bs ws p j u ((d + 1 : Nat) : Int) (.mk 3 0 es [] [x]) (ps (1 + mm)) j1 u1 := by
  obtain ⟨hl, hd, h1, h2, h6, hk, hw, hn, h3, hj, hu⟩ := h
  rcases hc with rfl | rfl
  all_goals
    refine does c_spec_pplanner_planO mixed (Nat.le_of_ble_eq_true rfl) 3 rfl ?_
    conv => arg 3; whnf
    repeat' (first
      | with_reducible refine acc_none ?_ | (conv in hold _ => simp (disch := omega) only [go_sem]) | refine Stp.go ?_ | (with_reducible first | refine it_pos rfl ?_ | refine it_neg (by decide) ?_ | refine st_nil rfl ?_ | refine s_op ?_ ?_ | exact True.intro) | ((with_reducible first | refine dw_reg0 ?_ | refine dw_regB ?_); (conv => arg 3; whnf)) | (refine Spl.go (fun hq he => ?_) (fun hq he => ?_) <;> first | (exfalso; clear hq; omega) | ((try (first | (conv => arg 8; simp only [hq]) | (conv => arg 4; simp only [hq]))); clear hq)) | ((with_reducible first | refine c_split (fun hq => ?_) (fun hq => ?_) | refine q_split (fun hq => ?_) (fun hq => ?_)) <;> (try (first | (conv => arg 8; simp only [hq]) | (conv => arg 4; simp only [hq])))) | (with_reducible refine fin_0 ?_ (by first | rfl | (conv => lhs; simp only [go_sem])) ?_)
      | (with_reducible show evC _ _ _ _ _ _ _ _ _ _ _ _
         first
         | (refine c_doesR [1000001] (h1) (callOK_of rfl (Nat.le_of_ble_eq_true rfl) rfl ?_ ?_) ?_ ?_
            iterate 2 · repeat' (first | (conv in hold _ => simp (disch := omega) only [go_sem]) | exact True.intro | exact Sub.refl _ | omega)
            · ((conv => rhs; simp (disch := omega) only [go_sem]); try rfl))
         | (refine c_doesR [1000001] (h2) (callOK_of rfl (Nat.le_of_ble_eq_true rfl) rfl ?_ ?_) ?_ ?_
            iterate 2 · repeat' (first | (conv in hold _ => simp (disch := omega) only [go_sem]) | exact True.intro | exact Sub.refl _ | omega)
            · ((conv => rhs; simp (disch := omega) only [go_sem]); try rfl))
         | (refine c_doesR [1000000, 1000001, 1000002] (hk) (callOK_of rfl (Nat.le_of_ble_eq_true rfl) rfl ?_ ?_) ?_ ?_
            iterate 2 · repeat' (first | (conv in hold _ => simp (disch := omega) only [go_sem]) | exact True.intro | exact Sub.refl _ | omega)
            · ((conv => rhs; simp (disch := omega) only [go_sem]); try rfl))
         | (refine c_doesR [1000002] (hw) (callOK_of rfl (Nat.le_of_ble_eq_true rfl) rfl ?_ ?_) ?_ ?_
            iterate 2 · repeat' (first | (conv in hold _ => simp (disch := omega) only [go_sem]) | exact True.intro | exact Sub.refl _ | omega)
            · ((conv => rhs; simp (disch := omega) only [go_sem]); try rfl))
         | (refine c_doesR [1000001] (h3) (callOK_of rfl (Nat.le_of_ble_eq_true rfl) rfl ?_ ?_) ?_ ?_
            iterate 2 · repeat' (first | (conv in hold _ => simp (disch := omega) only [go_sem]) | exact True.intro | exact Sub.refl _ | omega)
            · ((conv => rhs; simp (disch := omega) only [go_sem]); try rfl))
         | (refine c_doesR [1000001] (hmm) (callOK_of rfl (Nat.le_of_ble_eq_true rfl) rfl ?_ ?_) ?_ ?_
            iterate 2 · repeat' (first | (conv in hold _ => simp (disch := omega) only [go_sem]) | exact True.intro | exact Sub.refl _ | omega)
            · ((conv => rhs; simp (disch := omega) only [go_sem]); try rfl)))
      | exact Sub.refl _ | omega)
    refine dw_for (c := 6) (l := fun i => [(4, .ref 1000003 0), (5, .ref 1000001 0), (7, .ref 1000004 0), (8, I n), (9, .own 1000005 5 i), (10, I (1 + (mm : Int) - i)), (1000000, gnD ws j1 u1), (1000001, rdD bs (ps i)), (1000002, wrD ws), (1000003, .obj [I 0, I 0, .nul, .nul, .nul]), (1000004, .obj [I x.k, I x.t, .sl 5 (x.es.map eD), .sl 1 (x.cs.map I), .sl 5 (x.ks.map pD)]), (1000005, .row 5 ((es.take i).map eD))]) (1 + mm) (fun _ => True) 0 trivial ((wk_row 9 2000099 5 (by decide) (by decide) rfl rfl).trans (Wk.list [1000000, 1000001, 1000002, 2000004, 2000007, 2000099] rfl rfl ?_)) (fun i hi _ => ?_) (Nat.zero_le _)
    · rw [h0]
      repeat' (first | (conv in hold _ => simp (disch := omega) only [go_sem]) | exact True.intro | exact Sub.refl _ | omega)
      exact congrArg (fun n => D.v (Value.int .i64 n)) (by omega)
    · have hlt := take_len (vs := es) (i := i) (by omega)
      have hmt := take_map eD (vs := es) (i := i) (by omega)
      by_cases hil : i < 1 + mm
      · obtain ⟨e, he1⟩ : ∃ e, es[i]? = some e := ⟨es[i], List.getElem?_eq_getElem (by omega)⟩
        obtain ⟨⟨dd, hx1, hx2⟩, _⟩ := hes i e he1
        have hnx := take_next he1
        repeat' (first
          | with_reducible refine acc_none ?_ | (conv in hold _ => simp (disch := omega) only [go_sem]) | refine Stp.go ?_ | (with_reducible first | refine it_pos rfl ?_ | refine it_neg (by decide) ?_ | refine st_nil rfl ?_ | refine s_op ?_ ?_ | exact True.intro) | ((with_reducible first | refine dw_reg0 ?_ | refine dw_regB ?_); (conv => arg 3; whnf)) | (refine Spl.go (fun hq he => ?_) (fun hq he => ?_) <;> first | (exfalso; clear hq; omega) | ((try (first | (conv => arg 8; simp only [hq]) | (conv => arg 4; simp only [hq]))); clear hq)) | ((with_reducible first | refine c_split (fun hq => ?_) (fun hq => ?_) | refine q_split (fun hq => ?_) (fun hq => ?_)) <;> (try (first | (conv => arg 8; simp only [hq]) | (conv => arg 4; simp only [hq])))) | (with_reducible refine fin_0 ?_ (by first | rfl | (conv => lhs; simp only [go_sem])) ?_)
          | (with_reducible show evC _ _ _ _ _ _ _ _ _ _ _ _
             first
             | (refine c_doesR [1000001] (hx1) (callOK_of rfl (Nat.le_of_ble_eq_true rfl) rfl ?_ ?_) ?_ ?_
                iterate 2 · repeat' (first | (conv in hold _ => simp (disch := omega) only [go_sem]) | exact True.intro | exact Sub.refl _ | omega)
                · ((conv => rhs; simp (disch := omega) only [go_sem]); try rfl))
             | (refine c_doesR [1000001] (hx2) (callOK_of rfl (Nat.le_of_ble_eq_true rfl) rfl ?_ ?_) ?_ ?_
                iterate 2 · repeat' (first | (conv in hold _ => simp (disch := omega) only [go_sem]) | exact True.intro | exact Sub.refl _ | omega)
                · ((conv => rhs; simp (disch := omega) only [go_sem]); try rfl)))
          | exact Sub.refl _ | omega)
        refine ⟨by omega, trivial, Wk.list [1000000, 1000001, 1000002, 1000003, 1000004, 2000072] rfl rfl ?_⟩
        repeat' (first | (conv in hold _ => simp (disch := omega) only [go_sem]) | exact True.intro | exact Sub.refl _ | omega)
        refine ⟨congrArg (fun n => D.v (Value.int .i64 n)) (by omega), ?_⟩
        rw [hmt, hnx, List.map_append, List.map_cons, List.map_nil, eD_eq e]
      · obtain rfl : i = 1 + mm := by omega
        have e1 : es.take (1 + mm) = es := List.take_of_length_le (by omega)
        have e2 : (es.map eD).take (1 + mm) = es.map eD := List.take_of_length_le (by rw [List.length_map]; omega)
        repeat' (first | with_reducible refine acc_none ?_ | (conv in hold _ => simp (disch := omega) only [go_sem, e1]) | refine Stp.go ?_ | (with_reducible first | refine it_pos rfl ?_ | refine it_neg (by decide) ?_ | refine st_nil rfl ?_ | refine s_op ?_ ?_ | exact True.intro) | ((with_reducible first | refine dw_reg0 ?_ | refine dw_regB ?_); (conv => arg 3; whnf)) | (refine Spl.go (fun hq he => ?_) (fun hq he => ?_) <;> first | (exfalso; clear hq; omega) | ((try (first | (conv => arg 8; simp only [hq]) | (conv => arg 4; simp only [hq]))); clear hq)) | ((with_reducible first | refine c_split (fun hq => ?_) (fun hq => ?_) | refine q_split (fun hq => ?_) (fun hq => ?_)) <;> (try (first | (conv => arg 8; simp only [hq]) | (conv => arg 4; simp only [hq])))) | exact Sub.refl _ | omega)
        refine fin_wk (wk_rowO 1000003 2000099 1 3 (by decide) (by decide) (by decide) rfl rfl rfl) ?_
        (conv in hold _ => simp (disch := omega) only [go_sem, e1, e2])
        refine fin_L [1000000, 1000001, 1000002, 1000005, 2000099] ?_ ?_ rfl ?_
        repeat' (first | (conv in hold _ => simp (disch := omega) only [go_sem, e1, e2]) | exact True.intro | exact Sub.refl _ | omega)
        exact Sub.of_eq (by rw [hel])
end Go.Proofs.Ytikfanemeglcoaa
set_option maxHeartbeats 4000000
set_option maxRecDepth 100000
set_option linter.unusedVariables false
set_option linter.unusedSimpArgs false
namespace Go.Proofs.Ytikfanemeglcoaa
open Go.RowKit

/-- How large a drawn plan is, how far the reader goes; S and K: those of the other kid of a join. -/
def pzb (S : Nat) : Nat → Nat
  | 0 => 0
  | d + 1 => 2 * pzb S d + S + 100
def prb (K : Nat) : Nat → Nat
  | 0 => 10
  | d + 1 => prb K d + K + 1000
theorem psz_one (k t : Int) (es : List E) (cs : List Int) (x : Pl) : psz (.mk k t es cs [x]) = eszL es + cs.length + (1 + psz x) := by
  rw [psz, pszL, pszL]; omega
theorem psz_two (k t : Int) (es : List E) (cs : List Int) (x y : Pl) : psz (.mk k t es cs [x, y]) = eszL es + cs.length + (1 + psz x + (1 + psz y)) := by
  rw [psz, pszL, pszL, pszL]; omega
theorem eszL_1 (e : E) : eszL [e] = esz e := by rw [eszL, eszL]; omega
theorem psz_scan (t : Int) : psz (.mk 1 t [] [] []) = 0 := by rw [psz, eszL, pszL]; rfl
/-- A plan is drawn from here. -/
def PlanAt (bs : List Nat) (ws : List Int) (p j u d : Nat) (S K : Nat) : Prop := ∃ (x : Pl) (q j' u' : Nat), (DPlan bs ws p j u d x q j' u' ∧ OPlan bs ws p j u d x q j' u') ∧ p ≤ q ∧ q ≤ p + K ∧ psz x ≤ S ∧ j' ≤ j ∧ u' ≤ u ∧ rb x ≤ capB (j - j') (u - u') ∧ (x.k = 6 → x.es = [])
theorem pD_pur (x : Pl) : (pD x).pur = true := by
  have := plans_pur [x]
  rw [List.map_cons, D.purL, Bool.and_eq_true] at this
  exact this.1
theorem wid_of {ws : List Int} (hw : wsOk ws) (x : Pl) (hx : psz x ≤ 900000) : ∃ n : Int, (0 ≤ n ∧ n ≤ 6) ∧ DWid ws x n := by
  obtain ⟨n, hn, h, _⟩ := width_ok hw x (by omega) 8 (by omega)
  exact ⟨n, hn, Does.lent (H := [wrD ws]) (ds := [pD x, .own 1000000 1 ws.length, I 8]) h rfl (Lent.cons (.same _ (pD_pur x)) (Lent.cons (Lent.row 0 rfl (List.length_map ..) _ rfl) (Lent.one (.same _ rfl)))) (flats_1 (flat_ints _)) flats_0 rfl⟩
theorem plan_ind {bs : List Nat} (hs : Src bs) {ws : List Int} (hw : wsOk ws) (S K j T : Nat) (hT : T ≤ 250000000) (hj : j ≤ 1) (hoth : j = 1 → ∀ (u d p : Nat), u ≤ 1 → d ≤ 1 → p < T → PlanAt bs ws p 0 u d S K) :
    ∀ (d u p : Nat), u ≤ 1 → d ≤ 100 → p + prb K d < T → pzb S d ≤ 400000 → PlanAt bs ws p j u d (pzb S d) (prb K d) := by
  have hl := hw.1
  intro d
  induction d with
  | zero =>
    intro u p hu hd hp hz
    rw [prb] at hp
    obtain ⟨t, h1, _⟩ := pick_ok hs p (by omega) ws.length (by omega)
    exact ⟨_, _, _, _, ⟨plan_zero (by omega) h1, oplan_zero (by omega) h1⟩, by omega, by rw [prb]; omega, by rw [psz_scan]; exact Nat.zero_le _, Nat.le_refl _, Nat.le_refl _, by rw [rb_0 rfl]; exact cap_5 _ _, fun h => absurd h (by decide : ¬ (1 : Int) = 6)⟩
  | succ d ih =>
    intro u p hu hd hp hz
    rw [prb] at hp
    rw [pzb] at hz
    obtain ⟨t, h1, _⟩ := pick_ok hs p (by omega) ws.length (by omega)
    obtain ⟨k6, h2, _⟩ := pick_ok hs (p + 1) (by omega) 6 (by omega)
    by_cases h6 : k6 = 0
    · subst h6
      exact ⟨_, _, _, _, ⟨plan_scan (by omega) d h1 h2, oplan_scan (by omega) d h1 h2⟩, by omega, by rw [prb]; omega, by rw [psz_scan]; exact Nat.zero_le _, Nat.le_refl _, Nat.le_refl _, by rw [rb_0 rfl]; exact cap_5 _ _, fun h => absurd h (by decide : ¬ (1 : Int) = 6)⟩
    obtain ⟨x, q, j1, u1, ⟨hk, _⟩, hq0, hq1, hxs, hj1, hu1, hrb, _⟩ := ih u (p + 2) hu (by omega) (by omega) (by omega)
    obtain ⟨n, hn, hwx⟩ := wid_of hw x (by omega)
    obtain ⟨c, h3, c0, c1, _⟩ := pick_ok hs q (by omega) 10 (by omega)
    have hc9 := c1 (by omega)
    have hpre : Pre bs ws p j u d x t k6 c n q j1 u1 := ⟨by omega, by omega, h1, h2, h6, hk, hwx, hn, h3, by omega, by omega⟩
    obtain ⟨e, q2, hce, he0, he1, hez⟩ := randomCondition_ok hs n (by omega) (q + 1) (by omega)
    have hfz : psz (.mk 2 0 [e] [] [x]) = esz e + 0 + (1 + psz x) := by rw [psz_one, eszL_1]; rfl
    rw [PlanAt, prb, pzb]
    by_cases hA : c = 0 ∨ c = 1 ∨ c = 2
    · exact ⟨_, _, _, _, ⟨plan_fil hpre hA hce, oplan_fil hpre hA hce⟩, by omega, by omega, by omega, hj1, hu1, by rw [rb_1 rfl]; exact hrb, fun h => absurd h (by decide : ¬ (2 : Int) = 6)⟩
    by_cases hB : c = 3 ∨ c = 4
    · obtain ⟨mm, hmm, m0, m1, _⟩ := pick_ok hs (q + 1) (by omega) 2 (by omega)
      have hm1 := m1 (by omega)
      obtain ⟨m, rfl⟩ := Int.eq_ofNat_of_zero_le m0
      obtain ⟨es, ps, hel, h0, hes, hp0, hp1⟩ := draws (DOne bs n) 600000000 60 (fun p hp => one_drawn hs n (by omega) p hp) (1 + m) (q + 2) (by omega)
      have hpj := plan_proj hpre hB hmm (by omega) hel h0 hes
      have hpo := oplan_proj hpre hB hmm (by omega) hel h0 hes
      have hez := eszL_bound es (fun i e he => (hes i e he).2)
      refine ⟨_, _, _, _, ⟨hpj, hpo⟩, by omega, by omega, ?_, hj1, hu1, by rw [rb_1 rfl]; exact hrb, fun h => absurd h (by decide : ¬ (3 : Int) = 6)⟩
      rw [psz_one]
      show eszL es + 0 + (1 + psz x) ≤ _
      rw [hel] at hez
      omega
    by_cases hC : (c = 5 ∨ c = 6) ∧ 0 < j1 ∧ n ≤ 4
    · obtain ⟨hc5, hj0, hn4⟩ := hC
      obtain ⟨dd, hdd, d0, d1, _⟩ := pick_ok hs (q + 1) (by omega) 2 (by omega)
      have hd1 := d1 (by omega)
      obtain ⟨m, rfl⟩ := Int.eq_ofNat_of_zero_le d0
      have hj11 : j1 - 1 = 0 := by omega
      obtain ⟨y, q3, j2, u2, ⟨hy, _⟩, hy0, hy1, hyz, hj2, hu2, hrby, _⟩ := hoth (by omega) u1 m (q + 2) (by omega) (by omega) (by omega)
      rw [← hj11] at hy
      obtain ⟨n2, hn2, hwy⟩ := wid_of hw y (by omega)
      by_cases hwide : n + n2 ≤ 6
      · obtain ⟨k, hkk, hkm⟩ := one_ok hs q3 (by omega) [4, 5] (by decide) (by decide)
        obtain ⟨e', q4, hce', he0', he1', hez'⟩ := randomCondition_ok hs (n + n2) (by omega) (q3 + 1) (by omega)
        have hk6 : k ≠ 6 := by
          rcases List.mem_cons.1 hkm with rfl | hkm
          · decide
          · rw [List.mem_singleton.1 hkm]; decide
        have hb0 : j - j1 = 0 := by omega
        have hb1 : j1 - 1 - j2 = 0 := by omega
        have hjb : rb (.mk k 0 [e'] [] [x, y]) ≤ capB (j - j2) (u - u2) := by
          rw [rb_2 (q := x) (r := y) rfl, if_neg (show ¬ (Pl.mk k 0 [e'] [] [x, y]).k = 6 from hk6)]
          rw [hb0] at hrb
          rw [show 0 - j2 = 0 by omega] at hrby
          refine Nat.le_trans (cap_join hrb hrby (by omega)) (cap_mono (by omega) (by omega))
        have hjz : psz (.mk k 0 [e'] [] [x, y]) = esz e' + 0 + (1 + psz x + (1 + psz y)) := by rw [psz_two, eszL_1]; rfl
        exact ⟨_, _, _, _, ⟨plan_join hpre hc5 hj0 hn4 hdd hy hwy hn2 hwide hkk hce', oplan_join hpre hc5 hj0 hn4 hdd hy hwy hn2 hwide hkk hce'⟩, by omega, by omega, by omega, by omega, by omega, hjb, fun h => absurd h hk6⟩
      · obtain ⟨e', q4, hce', he0', he1', hez'⟩ := randomCondition_ok hs n (by omega) q3 (by omega)
        have hfz' : psz (.mk 2 0 [e'] [] [x]) = esz e' + 0 + (1 + psz x) := by rw [psz_one, eszL_1]; rfl
        exact ⟨_, _, _, _, ⟨plan_wide hpre hc5 hj0 hn4 hdd hy hwy hn2 hwide hce', oplan_wide hpre hc5 hj0 hn4 hdd hy hwy hn2 hwide hce'⟩, by omega, by omega, by omega, by omega, by omega, by rw [rb_1 rfl]; exact Nat.le_trans hrb (cap_mono (by omega) (by omega)), fun h => absurd h (by decide : ¬ (2 : Int) = 6)⟩
    by_cases hD : c = 7 ∧ 0 < u1
    · have hub : rb (.mk 6 0 [] [] [x, .mk 2 0 [e] [] [x]]) ≤ capB (j - j1) (u - (u1 - 1)) := by
        rw [rb_2 (q := x) (r := .mk 2 0 [e] [] [x]) rfl, if_pos (show (Pl.mk 6 0 [] [] [x, .mk 2 0 [e] [] [x]]).k = 6 from rfl), rb_1 (p := .mk 2 0 [e] [] [x]) (q := x) rfl, show u - (u1 - 1) = 1 by omega]
        rw [show u - u1 = 0 by omega] at hrb
        exact cap_uni hrb
      have huz : psz (.mk 6 0 [] [] [x, .mk 2 0 [e] [] [x]]) = 0 + 0 + (1 + psz x + (1 + psz (.mk 2 0 [e] [] [x]))) := by rw [psz_two]; rfl
      exact ⟨_, _, _, _, ⟨plan_uni hpre hD.1 hD.2 (by omega) hce, oplan_uni hpre hD.1 hD.2 (by omega) hce⟩, by omega, by omega, by omega, hj1, by omega, hub, fun _ => rfl⟩
    by_cases hE : c = 8
    · have hdz : psz (.mk 7 0 [] [] [x]) = 0 + 0 + (1 + psz x) := by rw [psz_one]; rfl
      exact ⟨_, _, _, _, ⟨plan_dist hpre hE, oplan_dist hpre hE⟩, by omega, by omega, by omega, hj1, hu1, by rw [rb_1 rfl]; exact hrb, fun h => absurd h (by decide : ¬ (7 : Int) = 6)⟩
    by_cases hF : c = 9
    · by_cases hn1 : 1 < n
      · obtain ⟨g, hg, _⟩ := pick_ok hs (q + 1) (by omega) n (by omega)
        have hgz : psz (.mk 8 0 [] [g] [x]) = 0 + 1 + (1 + psz x) := by rw [psz_one]; rfl
        exact ⟨_, _, _, _, ⟨plan_grpc hpre hF hn1 hg, oplan_grpc hpre hF hn1 hg⟩, by omega, by omega, by omega, hj1, hu1, by rw [rb_1 rfl]; exact hrb, fun h => absurd h (by decide : ¬ (8 : Int) = 6)⟩
      · have hgz : psz (.mk 8 0 [] [] [x]) = 0 + 0 + (1 + psz x) := by rw [psz_one]; rfl
        exact ⟨_, _, _, _, ⟨plan_grp hpre hF hn1, oplan_grp hpre hF hn1⟩, by omega, by omega, by omega, hj1, hu1, by rw [rb_1 rfl]; exact hrb, fun h => absurd h (by decide : ¬ (8 : Int) = 6)⟩
    · have hdf : ((c = 5 ∨ c = 6) ∧ ¬ (0 < j1 ∧ n ≤ 4)) ∨ (c = 7 ∧ u1 = 0) := by
        by_cases h5 : c = 5 ∨ c = 6
        · exact Or.inl ⟨h5, fun h => hC ⟨h5, h.1, h.2⟩⟩
        · have h7 : c = 7 := by omega
          refine Or.inr ⟨h7, ?_⟩
          by_cases h0 : 0 < u1
          · exact (hD ⟨h7, h0⟩).elim
          · omega
      exact ⟨_, _, _, _, ⟨plan_def hpre hdf hce, oplan_def hpre hdf hce⟩, by omega, by omega, by omega, hj1, hu1, by rw [rb_1 rfl]; exact hrb, fun h => absurd h (by decide : ¬ (2 : Int) = 6)⟩
theorem PlanAt.wide {bs : List Nat} {ws : List Int} {p j u d S K S' K' : Nat} (h : PlanAt bs ws p j u d S K) (hS : S ≤ S') (hK : K ≤ K') : PlanAt bs ws p j u d S' K' := by
  obtain ⟨x, q, j', u', h0, h1, h2, h3, h4, h5, h6, h7⟩ := h
  exact ⟨x, q, j', u', h0, h1, by omega, by omega, h4, h5, h6, h7⟩
theorem plan_any {bs : List Nat} (hs : Src bs) {ws : List Int} (hw : wsOk ws) (d p : Nat) (hd : d ≤ 4) (hp : p < 200000000) : PlanAt bs ws p 1 1 d 10000 20000 := by
  have z : ∀ d, d ≤ 4 → pzb 0 d ≤ 1500 ∧ prb 0 d ≤ 4010 := by decide
  have z2 : ∀ d, d ≤ 4 → pzb 1500 d ≤ 30000 ∧ prb 4010 d ≤ 30000 := by decide
  have z3 : pzb 0 1 ≤ 100 ∧ prb 0 1 ≤ 1010 := by decide
  have z4 : ∀ d, d ≤ 4 → pzb 100 d ≤ 10000 ∧ prb 1010 d ≤ 20000 := by decide
  have h0 : ∀ (u d p : Nat), u ≤ 1 → d ≤ 1 → p < 240000000 → PlanAt bs ws p 0 u d 100 1010 := fun u d p hu hd hp => by
    have hd' : d = 0 ∨ d = 1 := by omega
    have z5 := z d (by omega)
    refine (plan_ind hs hw 0 0 0 250000000 (by omega) (by omega) (fun h => by omega) d u p hu (by omega) (by omega) (by omega)).wide ?_ ?_
    · rcases hd' with rfl | rfl
      · decide
      · exact z3.1
    · rcases hd' with rfl | rfl
      · decide
      · exact z3.2
  have z6 := z4 d hd
  exact (plan_ind hs hw 100 1010 1 240000000 (by omega) (by omega) (fun _ u d p hu hd hp => h0 u d p hu hd hp) d 1 p (by omega) (by omega) (by omega) (by omega)).wide z6.1 z6.2
end Go.Proofs.Ytikfanemeglcoaa
set_option maxHeartbeats 4000000
set_option maxRecDepth 100000
set_option linter.unusedVariables false
set_option linter.unusedSimpArgs false
namespace Go.Proofs.Ytikfanemeglcoaa
open Go.RowKit

theorem randomWidths_own {bs : List Nat} (hs : Src bs) (p : Nat) (hp : p < 100000000) : ∃ (ws : List Int) (q : Nat), (Does Try.prog 29 [rdD bs p] [.ref 1000000 0] (.own 1000001 1 ws.length) [rdD bs q, wrD ws] ∧ (2 ≤ ws.length ∧ ws.length ≤ 3) ∧ ∀ (i : Nat) (w : Int), ws[i]? = some w → 1 ≤ w ∧ w ≤ 2) ∧ p ≤ q ∧ q ≤ p + 10 := by
  obtain ⟨k, hk, k0, k1, _⟩ := pick_ok hs p (by omega) 2 (by omega)
  have hk1 := k1 (by omega)
  obtain ⟨m, rfl⟩ := Int.eq_ofNat_of_zero_le k0
  obtain ⟨ws, ps, hl, h0, hd, hp0, hp1⟩ := draws (fun p (w : Int) q => q = p + 1 ∧ DPick bs p 2 (w - 1) ∧ 1 ≤ w ∧ w ≤ 2) 900000000 1 (fun p hp => by
    obtain ⟨v, hv, v0, v1, _⟩ := pick_ok hs p (by omega) 2 (by omega)
    have hv1 := v1 (by omega)
    refine ⟨v + 1, p + 1, ⟨rfl, by rw [show v + 1 - 1 = v by omega]; exact hv, by omega, by omega⟩, by omega, by omega⟩) (2 + m) (p + 1) (by omega)
  refine ⟨ws, ps (2 + m), ⟨?_, by omega, fun i w hi => (hd i w hi).2.2⟩, by omega, by omega⟩
  refine does c_spec_randomWidths mixed (Nat.le_of_ble_eq_true rfl) 1 rfl ?_
  conv => arg 3; whnf
  repeat' (first
    | with_reducible refine acc_none ?_ | (conv in hold _ => simp (disch := omega) only [go_sem]) | refine Stp.go ?_ | (with_reducible first | refine it_pos rfl ?_ | refine it_neg (by decide) ?_ | refine st_nil rfl ?_ | refine s_op ?_ ?_ | exact True.intro) | ((with_reducible first | refine dw_reg0 ?_ | refine dw_regB ?_); (conv => arg 3; whnf)) | (refine Spl.go (fun hq he => ?_) (fun hq he => ?_) <;> first | (exfalso; clear hq; omega) | ((try (first | (conv => arg 8; simp only [hq]) | (conv => arg 4; simp only [hq]))); clear hq)) | ((with_reducible first | refine c_split (fun hq => ?_) (fun hq => ?_) | refine q_split (fun hq => ?_) (fun hq => ?_)) <;> (try (first | (conv => arg 8; simp only [hq]) | (conv => arg 4; simp only [hq])))) | (with_reducible refine fin_0 ?_ (by first | rfl | (conv => lhs; simp only [go_sem])) ?_)
    | (with_reducible show evC _ _ _ _ _ _ _ _ _ _ _ _
       first
       | (refine c_doesR [1000000] (hk) (callOK_of rfl (Nat.le_of_ble_eq_true rfl) rfl ?_ ?_) ?_ ?_
          iterate 2 · repeat' (first | (conv in hold _ => simp (disch := omega) only [go_sem]) | exact True.intro | exact Sub.refl _ | omega)
          · ((conv => rhs; simp (disch := omega) only [go_sem]); try rfl)))
    | exact Sub.refl _ | omega)
  refine dw_for (c := 2) (l := fun i => [(0, .ref 1000000 0), (3, .own 1000001 1 i), (4, I (2 + (m : Int) - i)), (1000000, rdD bs (ps i)), (1000001, .row 1 ((ws.take i).map I))]) (2 + m) (fun _ => True) 0 trivial ((wk_row 3 2000018 1 (by decide) (by decide) rfl rfl).trans (Wk.list [1000000, 2000018] rfl rfl ?_)) (fun i hi _ => ?_) (Nat.zero_le _)
  · rw [h0]
    repeat' (first | (conv in hold _ => simp (disch := omega) only [go_sem]) | exact True.intro | exact Sub.refl _ | omega)
    exact congrArg (fun n => D.v (Value.int .i64 n)) (by omega)
  · have hlt := take_len (vs := ws) (i := i) (by omega)
    have hmt := take_map I (vs := ws) (i := i) (by omega)
    by_cases hil : i < 2 + m
    · obtain ⟨w, hw⟩ : ∃ w, ws[i]? = some w := ⟨ws[i], List.getElem?_eq_getElem (by omega)⟩
      obtain ⟨x1, x2, x3, x4⟩ := hd i w hw
      have hnx := take_next hw
      have hw1 : 1 + (w - 1) = w := by omega
      repeat' (first
        | with_reducible refine acc_none ?_ | (conv in hold _ => simp (disch := omega) only [go_sem, hw1]) | refine Stp.go ?_ | (with_reducible first | refine it_pos rfl ?_ | refine it_neg (by decide) ?_ | refine st_nil rfl ?_ | refine s_op ?_ ?_ | exact True.intro) | ((with_reducible first | refine dw_reg0 ?_ | refine dw_regB ?_); (conv => arg 3; whnf)) | (refine Spl.go (fun hq he => ?_) (fun hq he => ?_) <;> first | (exfalso; clear hq; omega) | ((try (first | (conv => arg 8; simp only [hq]) | (conv => arg 4; simp only [hq]))); clear hq)) | ((with_reducible first | refine c_split (fun hq => ?_) (fun hq => ?_) | refine q_split (fun hq => ?_) (fun hq => ?_)) <;> (try (first | (conv => arg 8; simp only [hq]) | (conv => arg 4; simp only [hq])))) | (with_reducible refine fin_0 ?_ (by first | rfl | (conv => lhs; simp only [go_sem, hw1])) ?_)
        | (with_reducible show evC _ _ _ _ _ _ _ _ _ _ _ _
           first
           | (refine c_doesR [1000000] (x2) (callOK_of rfl (Nat.le_of_ble_eq_true rfl) rfl ?_ ?_) ?_ ?_
              iterate 2 · repeat' (first | (conv in hold _ => simp (disch := omega) only [go_sem, hw1]) | exact True.intro | exact Sub.refl _ | omega)
              · ((conv => rhs; simp (disch := omega) only [go_sem, hw1]); try rfl)))
        | exact Sub.refl _ | omega)
      refine ⟨by omega, trivial, Wk.list [1000000, 2000018] rfl rfl ?_⟩
      repeat' (first | (conv in hold _ => simp (disch := omega) only [go_sem, hw1, x1]) | exact True.intro | exact Sub.refl _ | omega)
      refine ⟨congrArg (fun n => D.v (Value.int .i64 n)) (by omega), ?_⟩
      rw [hmt, hnx, List.map_append]
      rfl
    · obtain rfl : i = 2 + m := by omega
      have e1 : ws.take (2 + m) = ws := List.take_of_length_le (by omega)
      have e2 : (ws.map I).take (2 + m) = ws.map I := List.take_of_length_le (by rw [List.length_map]; omega)
      have hl2 : ws.length = 2 + m := hl
      rw [hl2]
      repeat' (first | with_reducible refine acc_none ?_ | (conv in hold _ => simp (disch := omega) only [go_sem, e1]) | refine Stp.go ?_ | (with_reducible first | refine it_pos rfl ?_ | refine it_neg (by decide) ?_ | refine st_nil rfl ?_ | refine s_op ?_ ?_ | exact True.intro) | ((with_reducible first | refine dw_reg0 ?_ | refine dw_regB ?_); (conv => arg 3; whnf)) | (refine Spl.go (fun hq he => ?_) (fun hq he => ?_) <;> first | (exfalso; clear hq; omega) | ((try (first | (conv => arg 8; simp only [hq]) | (conv => arg 4; simp only [hq]))); clear hq)) | ((with_reducible first | refine c_split (fun hq => ?_) (fun hq => ?_) | refine q_split (fun hq => ?_) (fun hq => ?_)) <;> (try (first | (conv => arg 8; simp only [hq]) | (conv => arg 4; simp only [hq])))) | (with_reducible refine fin_0 ?_ (by first | rfl | (conv => lhs; simp only [go_sem, e1])) ?_) | exact Sub.refl _ | omega)
      refine fin_L [1000000, 1000001] ?_ ?_ rfl ?_
      repeat' (first | (conv in hold _ => simp (disch := omega) only [go_sem, e1, e2]) | exact True.intro | exact Sub.refl _ | omega)
      all_goals (try rw [e2])
theorem randomPlan_own {bs : List Nat} (hs : Src bs) {ws : List Int} (hw : wsOk ws) (p : Nat) (hp : p < 100000000) : ∃ (x : Pl) (q : Nat), Does Try.prog 50 [rdD bs p, wrD ws] [.ref 1000000 0, .own 1000001 1 ws.length] (rootD 1000002 1000003 x) [rdD bs q, wrD ws, esR x, csR x] ∧ p ≤ q ∧ q ≤ p + 21000 ∧ psz x ≤ 11000 ∧ rb x ≤ 60 ∧ (x.k = 6 → x.es = []) := by
  obtain ⟨k, hk, k0, k1, _⟩ := pick_ok hs p (by omega) 4 (by omega)
  have hk1 := k1 (by omega)
  obtain ⟨m, rfl⟩ := Int.eq_ofNat_of_zero_le k0
  obtain ⟨x, q, j', u', ⟨hD, hO⟩, hq0, hq1, hz, _, _, hrb, h66⟩ := plan_any hs hw (m + 1) (p + 1) (by omega) (by omega)
  have hm1 : ((m + 1 : Nat) : Int) = 1 + (m : Int) := by omega
  unfold DPlan at hD
  unfold OPlan at hO
  rw [hm1] at hD hO
  have hg : gnD ws 1 1 = .obj [.ref 1000001 0, .own 1000002 1 ws.length, I 1, I 1] := rfl
  rw [hg] at hD hO
  obtain ⟨kk, hkk, _⟩ := pick_ok hs q (by omega) 2 (by omega)
  by_cases hkk0 : kk = 0
  · subst hkk0
    obtain ⟨n, hn, hwx⟩ := wid_of hw x (by omega)
    obtain ⟨e, q2, hce, he0, he1, hez⟩ := randomCondition_ok hs n (by omega) (q + 1) (by omega)
    have hf := filterOf_own e x
    have hfz : psz (.mk 2 0 [e] [] [x]) = esz e + 0 + (1 + psz x) := by rw [psz_one, eszL_1]; rfl
    refine ⟨.mk 2 0 [e] [] [x], q2, ?_, by omega, by omega, by omega, by rw [rb_1 (q := x) rfl]; exact Nat.le_trans hrb (cap_60 _ _), fun h => absurd h (by decide : ¬ (2 : Int) = 6)⟩
    refine does c_spec_randomPlan mixed (Nat.le_of_ble_eq_true rfl) 2 rfl ?_
    conv => arg 3; whnf
    repeat' (first
      | with_reducible refine acc_none ?_ | (conv in hold _ => simp (disch := omega) only [go_sem]) | refine Stp.go ?_ | (with_reducible first | refine it_pos rfl ?_ | refine it_neg (by decide) ?_ | refine st_nil rfl ?_ | refine s_op ?_ ?_ | exact True.intro) | ((with_reducible first | refine dw_reg0 ?_ | refine dw_regB ?_); (conv => arg 3; whnf)) | (refine Spl.go (fun hq he => ?_) (fun hq he => ?_) <;> first | (exfalso; clear hq; omega) | ((try (first | (conv => arg 8; simp only [hq]) | (conv => arg 4; simp only [hq]))); clear hq)) | ((with_reducible first | refine c_split (fun hq => ?_) (fun hq => ?_) | refine q_split (fun hq => ?_) (fun hq => ?_)) <;> (try (first | (conv => arg 8; simp only [hq]) | (conv => arg 4; simp only [hq])))) | (with_reducible refine fin_0 ?_ (by first | rfl | (conv => lhs; simp only [go_sem])) ?_)
      | (with_reducible show evC _ _ _ _ _ _ _ _ _ _ _ _
         first
         | (refine c_doesR [1000000] (hk) (callOK_of rfl (Nat.le_of_ble_eq_true rfl) rfl ?_ ?_) ?_ ?_
            iterate 2 · repeat' (first | (conv in hold _ => simp (disch := omega) only [go_sem]) | exact True.intro | exact Sub.refl _ | omega)
            · ((conv => rhs; simp (disch := omega) only [go_sem]); try rfl))
         | (refine c_doesR [2000010, 1000000, 1000001] (hD) (callOK_of rfl (Nat.le_of_ble_eq_true rfl) rfl ?_ ?_) ?_ ?_
            iterate 2 · repeat' (first | (conv in hold _ => simp (disch := omega) only [go_sem]) | exact True.intro | exact Sub.refl _ | omega)
            · ((conv => rhs; simp (disch := omega) only [go_sem]); try rfl))
         | (refine c_doesR [1000000] (hkk) (callOK_of rfl (Nat.le_of_ble_eq_true rfl) rfl ?_ ?_) ?_ ?_
            iterate 2 · repeat' (first | (conv in hold _ => simp (disch := omega) only [go_sem]) | exact True.intro | exact Sub.refl _ | omega)
            · ((conv => rhs; simp (disch := omega) only [go_sem]); try rfl))
         | (refine c_doesR [1000001] (hwx) (callOK_of rfl (Nat.le_of_ble_eq_true rfl) rfl ?_ ?_) ?_ ?_
            iterate 2 · repeat' (first | (conv in hold _ => simp (disch := omega) only [go_sem]) | exact True.intro | exact Sub.refl _ | omega)
            · ((conv => rhs; simp (disch := omega) only [go_sem]); try rfl))
         | (refine c_doesR [1000000] (hce) (callOK_of rfl (Nat.le_of_ble_eq_true rfl) rfl ?_ ?_) ?_ ?_
            iterate 2 · repeat' (first | (conv in hold _ => simp (disch := omega) only [go_sem]) | exact True.intro | exact Sub.refl _ | omega)
            · ((conv => rhs; simp (disch := omega) only [go_sem]); try rfl))
         | (refine c_doesR [3000001, 3000002] (hf) (callOK_of rfl (Nat.le_of_ble_eq_true rfl) rfl ?_ ?_) ?_ ?_
            iterate 2 · repeat' (first | (conv in hold _ => simp (disch := omega) only [go_sem]) | exact True.intro | exact Sub.refl _ | omega)
            · ((conv => rhs; simp (disch := omega) only [go_sem]); try rfl)))
      | exact Sub.refl _ | omega)
    refine fin_L [1000000, 1000001, 3000001, 3000002] ?_ ?_ rfl ?_
    repeat' (first | (conv in hold _ => simp (disch := omega) only [go_sem]) | exact True.intro | exact Sub.refl _ | omega)
  · refine ⟨x, q + 1, ?_, by omega, by omega, by omega, Nat.le_trans hrb (cap_60 _ _), h66⟩
    refine does c_spec_randomPlan mixed (Nat.le_of_ble_eq_true rfl) 2 rfl ?_
    conv => arg 3; whnf
    repeat' (first
      | with_reducible refine acc_none ?_ | (conv in hold _ => simp (disch := omega) only [go_sem]) | refine Stp.go ?_ | (with_reducible first | refine it_pos rfl ?_ | refine it_neg (by decide) ?_ | refine st_nil rfl ?_ | refine s_op ?_ ?_ | exact True.intro) | ((with_reducible first | refine dw_reg0 ?_ | refine dw_regB ?_); (conv => arg 3; whnf)) | (refine Spl.go (fun hq he => ?_) (fun hq he => ?_) <;> first | (exfalso; clear hq; omega) | ((try (first | (conv => arg 8; simp only [hq]) | (conv => arg 4; simp only [hq]))); clear hq)) | ((with_reducible first | refine c_split (fun hq => ?_) (fun hq => ?_) | refine q_split (fun hq => ?_) (fun hq => ?_)) <;> (try (first | (conv => arg 8; simp only [hq]) | (conv => arg 4; simp only [hq])))) | (with_reducible refine fin_0 ?_ (by first | rfl | (conv => lhs; simp only [go_sem])) ?_)
      | (with_reducible show evC _ _ _ _ _ _ _ _ _ _ _ _
         first
         | (refine c_doesR [1000000] (hk) (callOK_of rfl (Nat.le_of_ble_eq_true rfl) rfl ?_ ?_) ?_ ?_
            iterate 2 · repeat' (first | (conv in hold _ => simp (disch := omega) only [go_sem]) | exact True.intro | exact Sub.refl _ | omega)
            · ((conv => rhs; simp (disch := omega) only [go_sem]); try rfl))
         | (refine c_doesR [2000010, 1000000, 1000001, 3000001, 3000002] (hO) (callOK_of rfl (Nat.le_of_ble_eq_true rfl) rfl ?_ ?_) ?_ ?_
            iterate 2 · repeat' (first | (conv in hold _ => simp (disch := omega) only [go_sem]) | exact True.intro | exact Sub.refl _ | omega)
            · ((conv => rhs; simp (disch := omega) only [go_sem]); try rfl))
         | (refine c_doesR [1000000] (hkk) (callOK_of rfl (Nat.le_of_ble_eq_true rfl) rfl ?_ ?_) ?_ ?_
            iterate 2 · repeat' (first | (conv in hold _ => simp (disch := omega) only [go_sem]) | exact True.intro | exact Sub.refl _ | omega)
            · ((conv => rhs; simp (disch := omega) only [go_sem]); try rfl)))
      | exact Sub.refl _ | omega)
    refine fin_L [1000000, 1000001, 3000001, 3000002] ?_ ?_ rfl ?_
    repeat' (first | (conv in hold _ => simp (disch := omega) only [go_sem]) | exact True.intro | exact Sub.refl _ | omega)
end Go.Proofs.Ytikfanemeglcoaa

/-
  Drawn plans. No condition.
-/
import Derived.Test.YtpfedjaedlfdfaaKSVPlanQ
import Derived.Test.YtpfedjaedlfdfaaKSVLend
set_option maxHeartbeats 4000000
set_option maxRecDepth 100000
set_option linter.unusedVariables false
set_option linter.unusedSimpArgs false
namespace Go.Proofs.Ytpfedjaedlfdfaa
open Go.RowKit
/-- How large a drawn plan is, how far the reader goes; S and K: those of the other kid of a join. -/
def pzb (S : Nat) : Nat → Nat
  | 0 => 0
  | d + 1 => 2 * pzb S d + S + 100
def prb (K : Nat) : Nat → Nat
  | 0 => 10
  | d + 1 => prb K d + K + 1000
theorem psz_one (k t : Int) (es : List E) (cs : List Int) (x : Pl) : psz (.mk k t es cs [x]) = eszL es + cs.length + (1 + psz x) := by
  rw [psz, pszL, pszL]; omega
theorem psz_two (k t : Int) (es : List E) (cs : List Int) (x y : Pl) : psz (.mk k t es cs [x, y]) = eszL es + cs.length + (1 + psz x + (1 + psz y)) := by
  rw [psz, pszL, pszL, pszL]; omega
theorem eszL_1 (e : E) : eszL [e] = esz e := by rw [eszL, eszL]; omega
theorem psz_scan (t : Int) : psz (.mk 1 t [] [] []) = 0 := by rw [psz, eszL, pszL]; rfl
/-- A plan is drawn from here. -/
def PlanAt (bs : List Nat) (ws : List Int) (p j u d : Nat) (S K : Nat) : Prop := ∃ (x : Pl) (q j' u' : Nat), (DPlan bs ws p j u d x q j' u' ∧ OPlan bs ws p j u d x q j' u') ∧ p ≤ q ∧ q ≤ p + K ∧ psz x ≤ S ∧ j' ≤ j ∧ u' ≤ u
theorem pD_pur (x : Pl) : (pD x).pur = true := by
  have := plans_pur [x]
  rw [List.map_cons, D.purL, Bool.and_eq_true] at this
  exact this.1
theorem wid_of {ws : List Int} (hw : wsOk ws) (x : Pl) (hx : psz x ≤ 900000) : ∃ n : Int, (0 ≤ n ∧ n ≤ 6) ∧ DWid ws x n := by
  obtain ⟨n, hn, h, _⟩ := width_ok hw x (by omega) 8 (by omega)
  exact ⟨n, hn, Does.lent (H := [wrD ws]) (ds := [pD x, .own 1000000 1 ws.length, I 8]) h rfl (Lent.cons (.same _ (pD_pur x)) (Lent.cons (Lent.row 0 rfl (List.length_map ..) _ rfl) (Lent.one (.same _ rfl)))) (flats_1 (flat_ints _)) flats_0 rfl⟩
theorem plan_ind {bs : List Nat} (hs : Src bs) {ws : List Int} (hw : wsOk ws) (S K j T : Nat) (hT : T ≤ 250000000) (hj : j ≤ 1) (hoth : j = 1 → ∀ (u d p : Nat), u ≤ 1 → d ≤ 1 → p < T → PlanAt bs ws p 0 u d S K) :
    ∀ (d u p : Nat), u ≤ 1 → d ≤ 100 → p + prb K d < T → pzb S d ≤ 400000 → PlanAt bs ws p j u d (pzb S d) (prb K d) := by
  have hl := hw.1
  intro d
  induction d with
  | zero =>
    intro u p hu hd hp hz
    rw [prb] at hp
    obtain ⟨t, h1, _⟩ := pick_ok hs p (by omega) ws.length (by omega)
    exact ⟨_, _, _, _, ⟨plan_zero (by omega) h1, oplan_zero (by omega) h1⟩, by omega, by rw [prb]; omega, by rw [psz_scan]; exact Nat.zero_le _, Nat.le_refl _, Nat.le_refl _⟩
  | succ d ih =>
    intro u p hu hd hp hz
    rw [prb] at hp
    rw [pzb] at hz
    obtain ⟨t, h1, _⟩ := pick_ok hs p (by omega) ws.length (by omega)
    obtain ⟨k6, h2, _⟩ := pick_ok hs (p + 1) (by omega) 6 (by omega)
    by_cases h6 : k6 = 0
    · subst h6
      exact ⟨_, _, _, _, ⟨plan_scan (by omega) d h1 h2, oplan_scan (by omega) d h1 h2⟩, by omega, by rw [prb]; omega, by rw [psz_scan]; exact Nat.zero_le _, Nat.le_refl _, Nat.le_refl _⟩
    obtain ⟨x, q, j1, u1, ⟨hk, _⟩, hq0, hq1, hxs, hj1, hu1⟩ := ih u (p + 2) hu (by omega) (by omega) (by omega)
    obtain ⟨n, hn, hwx⟩ := wid_of hw x (by omega)
    obtain ⟨c, h3, c0, c1, _⟩ := pick_ok hs q (by omega) 10 (by omega)
    have hc9 := c1 (by omega)
    have hpre : Pre bs ws p j u d x t k6 c n q j1 u1 := ⟨by omega, by omega, h1, h2, h6, hk, hwx, hn, h3, by omega, by omega⟩
    obtain ⟨e, q2, hce, he0, he1, hez⟩ := randomCondition_ok hs n (by omega) (q + 1) (by omega)
    have hfz : psz (.mk 2 0 [e] [] [x]) = esz e + 0 + (1 + psz x) := by rw [psz_one, eszL_1]; rfl
    rw [PlanAt, prb, pzb]
    by_cases hA : c = 0 ∨ c = 1 ∨ c = 2
    · exact ⟨_, _, _, _, ⟨plan_fil hpre hA hce, oplan_fil hpre hA hce⟩, by omega, by omega, by omega, hj1, hu1⟩
    by_cases hB : c = 3 ∨ c = 4
    · obtain ⟨mm, hmm, m0, m1, _⟩ := pick_ok hs (q + 1) (by omega) 2 (by omega)
      have hm1 := m1 (by omega)
      obtain ⟨m, rfl⟩ := Int.eq_ofNat_of_zero_le m0
      obtain ⟨es, ps, hel, h0, hes, hp0, hp1⟩ := draws (DOne bs n) 600000000 60 (fun p hp => one_drawn hs n (by omega) p hp) (1 + m) (q + 2) (by omega)
      have hpj := plan_proj hpre hB hmm (by omega) hel h0 hes
      have hpo := oplan_proj hpre hB hmm (by omega) hel h0 hes
      have hez := eszL_bound es (fun i e he => (hes i e he).2)
      refine ⟨_, _, _, _, ⟨hpj, hpo⟩, by omega, by omega, ?_, hj1, hu1⟩
      rw [psz_one]
      show eszL es + 0 + (1 + psz x) ≤ _
      rw [hel] at hez
      omega
    by_cases hC : (c = 5 ∨ c = 6) ∧ 0 < j1 ∧ n ≤ 4
    · obtain ⟨hc5, hj0, hn4⟩ := hC
      obtain ⟨dd, hdd, d0, d1, _⟩ := pick_ok hs (q + 1) (by omega) 2 (by omega)
      have hd1 := d1 (by omega)
      obtain ⟨m, rfl⟩ := Int.eq_ofNat_of_zero_le d0
      have hj11 : j1 - 1 = 0 := by omega
      obtain ⟨y, q3, j2, u2, ⟨hy, _⟩, hy0, hy1, hyz, hj2, hu2⟩ := hoth (by omega) u1 m (q + 2) (by omega) (by omega) (by omega)
      rw [← hj11] at hy
      obtain ⟨n2, hn2, hwy⟩ := wid_of hw y (by omega)
      by_cases hwide : n + n2 ≤ 6
      · obtain ⟨k, hkk, _⟩ := one_ok hs q3 (by omega) [4, 5] (by decide) (by decide)
        obtain ⟨e', q4, hce', he0', he1', hez'⟩ := randomCondition_ok hs (n + n2) (by omega) (q3 + 1) (by omega)
        have hjz : psz (.mk k 0 [e'] [] [x, y]) = esz e' + 0 + (1 + psz x + (1 + psz y)) := by rw [psz_two, eszL_1]; rfl
        exact ⟨_, _, _, _, ⟨plan_join hpre hc5 hj0 hn4 hdd hy hwy hn2 hwide hkk hce', oplan_join hpre hc5 hj0 hn4 hdd hy hwy hn2 hwide hkk hce'⟩, by omega, by omega, by omega, by omega, by omega⟩
      · obtain ⟨e', q4, hce', he0', he1', hez'⟩ := randomCondition_ok hs n (by omega) q3 (by omega)
        have hfz' : psz (.mk 2 0 [e'] [] [x]) = esz e' + 0 + (1 + psz x) := by rw [psz_one, eszL_1]; rfl
        exact ⟨_, _, _, _, ⟨plan_wide hpre hc5 hj0 hn4 hdd hy hwy hn2 hwide hce', oplan_wide hpre hc5 hj0 hn4 hdd hy hwy hn2 hwide hce'⟩, by omega, by omega, by omega, by omega, by omega⟩
    by_cases hD : c = 7 ∧ 0 < u1
    · have huz : psz (.mk 6 0 [] [] [x, .mk 2 0 [e] [] [x]]) = 0 + 0 + (1 + psz x + (1 + psz (.mk 2 0 [e] [] [x]))) := by rw [psz_two]; rfl
      exact ⟨_, _, _, _, ⟨plan_uni hpre hD.1 hD.2 (by omega) hce, oplan_uni hpre hD.1 hD.2 (by omega) hce⟩, by omega, by omega, by omega, hj1, by omega⟩
    by_cases hE : c = 8
    · have hdz : psz (.mk 7 0 [] [] [x]) = 0 + 0 + (1 + psz x) := by rw [psz_one]; rfl
      exact ⟨_, _, _, _, ⟨plan_dist hpre hE, oplan_dist hpre hE⟩, by omega, by omega, by omega, hj1, hu1⟩
    by_cases hF : c = 9
    · by_cases hn1 : 1 < n
      · obtain ⟨g, hg, _⟩ := pick_ok hs (q + 1) (by omega) n (by omega)
        have hgz : psz (.mk 8 0 [] [g] [x]) = 0 + 1 + (1 + psz x) := by rw [psz_one]; rfl
        exact ⟨_, _, _, _, ⟨plan_grpc hpre hF hn1 hg, oplan_grpc hpre hF hn1 hg⟩, by omega, by omega, by omega, hj1, hu1⟩
      · have hgz : psz (.mk 8 0 [] [] [x]) = 0 + 0 + (1 + psz x) := by rw [psz_one]; rfl
        exact ⟨_, _, _, _, ⟨plan_grp hpre hF hn1, oplan_grp hpre hF hn1⟩, by omega, by omega, by omega, hj1, hu1⟩
    · have hdf : ((c = 5 ∨ c = 6) ∧ ¬ (0 < j1 ∧ n ≤ 4)) ∨ (c = 7 ∧ u1 = 0) := by
        by_cases h5 : c = 5 ∨ c = 6
        · exact Or.inl ⟨h5, fun h => hC ⟨h5, h.1, h.2⟩⟩
        · have h7 : c = 7 := by omega
          refine Or.inr ⟨h7, ?_⟩
          by_cases h0 : 0 < u1
          · exact (hD ⟨h7, h0⟩).elim
          · omega
      exact ⟨_, _, _, _, ⟨plan_def hpre hdf hce, oplan_def hpre hdf hce⟩, by omega, by omega, by omega, hj1, hu1⟩
theorem PlanAt.wide {bs : List Nat} {ws : List Int} {p j u d S K S' K' : Nat} (h : PlanAt bs ws p j u d S K) (hS : S ≤ S') (hK : K ≤ K') : PlanAt bs ws p j u d S' K' := by
  obtain ⟨x, q, j', u', h0, h1, h2, h3, h4, h5⟩ := h
  exact ⟨x, q, j', u', h0, h1, by omega, by omega, h4, h5⟩
theorem plan_any {bs : List Nat} (hs : Src bs) {ws : List Int} (hw : wsOk ws) (d p : Nat) (hd : d ≤ 4) (hp : p < 200000000) : PlanAt bs ws p 1 1 d 10000 20000 := by
  have z : ∀ d, d ≤ 4 → pzb 0 d ≤ 1500 ∧ prb 0 d ≤ 4010 := by decide
  have z2 : ∀ d, d ≤ 4 → pzb 1500 d ≤ 30000 ∧ prb 4010 d ≤ 30000 := by decide
  have z3 : pzb 0 1 ≤ 100 ∧ prb 0 1 ≤ 1010 := by decide
  have z4 : ∀ d, d ≤ 4 → pzb 100 d ≤ 10000 ∧ prb 1010 d ≤ 20000 := by decide
  have h0 : ∀ (u d p : Nat), u ≤ 1 → d ≤ 1 → p < 240000000 → PlanAt bs ws p 0 u d 100 1010 := fun u d p hu hd hp => by
    have hd' : d = 0 ∨ d = 1 := by omega
    have z5 := z d (by omega)
    refine (plan_ind hs hw 0 0 0 250000000 (by omega) (by omega) (fun h => by omega) d u p hu (by omega) (by omega) (by omega)).wide ?_ ?_
    · rcases hd' with rfl | rfl
      · decide
      · exact z3.1
    · rcases hd' with rfl | rfl
      · decide
      · exact z3.2
  have z6 := z4 d hd
  exact (plan_ind hs hw 100 1010 1 240000000 (by omega) (by omega) (fun _ u d p hu hd hp => h0 u d p hu hd hp) d 1 p (by omega) (by omega) (by omega) (by omega)).wide z6.1 z6.2
end Go.Proofs.Ytpfedjaedlfdfaa

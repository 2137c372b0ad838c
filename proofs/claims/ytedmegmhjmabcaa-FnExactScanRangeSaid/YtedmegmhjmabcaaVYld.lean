/-
  Calls that are handed a loop's yield and hand out elements by it: what they say, how they are made, how they are proved. No condition.
-/
import Derived.Test.YtedmegmhjmabcaaVLib
set_option maxHeartbeats 4000000
set_option maxRecDepth 100000
set_option linter.unusedVariables false
set_option linter.unusedSimpArgs false
namespace Go.Proofs.Ytedmegmhjmabcaa
open Go.RowKit

/-- The call of f on ds, among them the yield of loop i (of the elements L, which says no at number e): k elements have been handed out ahead of it, k' behind it; it answers r. -/
def YCalls (P : Program) (f : FuncId) (i : Nat) (L : List D) (e : Nat) (ds : List D) (k : Nat) (r : D) (k' : Nat) : Prop :=
  ∀ (Y : YC) (w : World) (F : Cells) (m : Names) (B : Blocks) (xs : List Value), Y.P = P → Y.l = i → Y.L = L → Y.stop = e → (∀ k w F m m' B, Y.J k w F m B → Y.J k w F m' B) → Y.J k w F m B → (∀ b o, F b o → b < w.heap.size) → xs.length = ds.length →
    (∀ (j : Nat) (d : D) (x : Value), ds[j]? = some d → xs[j]? = some x → Fz w F noNames d x) →
    Calls P f xs.toArray w (fun en w' => ∃ x F' B', en = .returned x ∧ Chg w F B w' F' ∧ (∀ b o, F' b o → b < w'.heap.size) ∧ Fz w' F' noNames r x ∧ Y.J k' w' F' m B' ∧ ∀ b, B' b → B b ∨ w.heap.size ≤ b)
theorem YCalls.weak {P : Program} {f : FuncId} {i e k k' : Nat} {L ds es : List D} {r s : D} (h : YCalls P f i L e ds k r k') (ha : SubL es ds) (hr : Sub r s) : YCalls P f i L e es k s k' := by
  intro Y w F m B xs hP h1 h2 h3 hig hJ hwf hxl hfz
  obtain ⟨a1, a2⟩ := ha.spec
  refine (h Y w F m B xs hP h1 h2 h3 hig hJ hwf (by rw [hxl, a1]) (fun j d x hd hx => ?_)).mono ?_
  · obtain ⟨e, he, hs⟩ := a2 j d hd
    exact hs _ _ _ _ (hfz j e x he hx)
  · rintro en w' ⟨x, F', B', rfl, c, g1, g2, g3⟩
    exact ⟨x, F', B', rfl, c, g1, hr _ _ _ _ g2, g3⟩
section
variable {P : Program} {G : Ctx} {σ : Env} {B : List Nat} {l : List GI} {acc : Option (List Ent)} {N : Env → Prop} {rd wr : List Nat}

theorem in_ycall {o : Oper} (hP : G.okP P) {d f i e k k' : Nat} {L : List D} {r : D} {xs : List Opd} {ops : Array Operand} {ts : Array TypeId} (ho : o.op = .call { callee := .value (.func f), args := ops, argTypes := ts }) (hf : enters P f = true) (ha : ops.toList.mapM opd = some xs)
    (hdst : o.dst = some d) (hd : d < G.n) (hgh : σ gh = .gho i L e k) (hyc : YCalls P f i L e (xs.map (Opd.val σ)) k r k') (hp : D.purL (xs.map (Opd.val σ)) = true) (hr : r.pur = true) (hLf : ∀ St, L ≠ [D.fam St]) :
    OpOK P G o ⟨xs.flatMap Opd.rd ++ [gh], [gh, d]⟩ σ [(gh, .gho i L e k'), (d, r)] where
  wr p hp := by
    rcases List.mem_cons.1 hp with rfl | hp
    · exact List.mem_cons_self ..
    · obtain rfl := List.mem_singleton.1 hp; exact List.mem_cons_of_mem _ (List.mem_singleton.2 rfl)
  run τ a w K Q hag hR hK := by
    intro n
    obtain ⟨hdf, F, m, hR⟩ := hR
    have hag2 : ∀ t, t ∈ xs.flatMap Opd.rd → τ t = σ t := fun t ht => hag t (List.mem_append_left _ ht)
    have hτ : τ gh = .gho i L e k := (hag gh (List.mem_append_right _ (List.mem_singleton.2 rfl))).trans hgh
    obtain ⟨h1, h2⟩ := opds_fz hR ha hag2
    obtain ⟨B, hE⟩ := hR.ext
    cases hY : G.Y with
    | none => exact absurd hτ ((hE.no hY).1 _ _ _ _)
    | some Y =>
      obtain ⟨hlo, ⟨k0, hJ, hkk⟩, hdis⟩ := hE.yes Y hY
      obtain ⟨rfl, rfl, rfl, rfl⟩ := hkk _ _ _ _ hτ
      obtain ⟨hlo2, hlt⟩ := Y.lt _ _ _ _ _ hJ
      have hcc := hyc Y w F m B (ops.toList.map a.eval) (hP Y hY) rfl rfl rfl (Y.ig hLf) hJ hR.wf h1 (Fz.pureL hp h2 noNames)
      have e1 : (ops.toList.map a.eval).toArray = ops.map a.eval := by apply Array.ext'; simp
      have hrn : (execOp a.eval o).run P w = .ok (.enter f (ops.toList.map a.eval).toArray) w := by
        have hc := run_callFunc (P := P) hf (ops.map a.eval) w
        rw [e1]
        simp [execOp, ho, resolve, Act.eval, Deferred.ofValue, invoke]
        exact hc
      have hs := sem_at hrn (fun d e => by cases e) G.fen
      refine ⟨fun _ _ => trivial, ?_⟩
      rw [hs, hrn, Oper.uponIn_enter]
      refine ⟨fun h => (by cases h), ?_⟩
      have hcc' : CallsIn Fence.wide (n - 1) P f (ops.toList.map a.eval).toArray w _ := callsIn_wide.2 hcc
      refine CallsIn.mono (F := G.fen) (show CallsIn G.fen (n - 1) P f (ops.toList.map a.eval).toArray w _ from hcc') ?_
      rintro en w' ⟨v, F', B', rfl, c, wf', hv, hJ', hB'⟩
      refine hK _ _ ⟨by rw [hdst]; exact hdf, F', m, ?_⟩
      have hghn : ∀ g, nb ≤ g → ¬ g = gh := fun g hg e => by have h3 : (1000000 : Nat) ≤ g := hg; have h4 : g = 999999 := e; omega
      have base : RelF G (τ.set gh (.gho Y.l Y.L Y.stop k')) a.tmps w' F' m := by
        refine ⟨hR.size, hR.nle, fun t ht => ?_, fun g hg => ?_, fun g g' b hg hg' hb hb' => ?_, wf', hR.chg.trans c (fun b hb hlt' => (hE.own b hb).resolve_right (by omega)), fun g b hg hb => ?_, fun i hi => ?_, hR.nlt, B', ?_⟩
        · by_cases e : t = gh
          · subst e; rw [Env.set_same]; exact .gho _ _ _ _ _ _
          · rw [Env.set_ne _ _ _ _ e]; exact (hR.slots t ht).still c
        · rw [Env.set_ne _ _ _ _ (hghn g hg)]
          exact (hR.blks g hg).stable c (fun _ _ h => h) (fun e => by have := hR.blks g hg; rw [e] at this; exact this) (fun b hb hm => (hdis g b hg hb hm).1)
        · rw [Env.set_ne _ _ _ _ (hghn g hg)] at hb
          rw [Env.set_ne _ _ _ _ (hghn g' hg')] at hb'
          exact hR.inj g g' b hg hg' hb hb'
        · rw [Env.set_ne _ _ _ _ (hghn g hg)] at hb
          exact hR.own g b hg hb
        · rw [Env.set_ne _ _ _ _ (hghn _ (Nat.le_add_right _ _))]; exact hR.par i hi
        · refine ⟨fun p hp => ?_, fun b hb => ?_, fun h => (by rw [hY] at h; cases h), fun Y' hY' => ?_, hE.low⟩
          · obtain ⟨k1, k2, k3, k4⟩ := hE.kept p hp
            have hlt' := (Array.getElem?_eq_some_iff.1 k1).1
            exact ⟨(c.block _ hlt' k4).trans k1, k2, fun o ho => k3 o (c.back _ o ho hlt' k4), fun hb => by rcases hB' _ hb with h | h; exact k4 h; omega⟩
          · rcases hB' _ hb with h | h
            · exact hE.own b h
            · exact .inr (Nat.le_trans hR.chg.size h)
          · rw [hY] at hY'
            obtain rfl := Option.some.inj hY'
            refine ⟨hlo, ⟨k', hJ', fun l L e k' he => ?_⟩, fun g b hg hb hm => ?_⟩
            · rw [Env.set_same] at he
              injection he with q1 q2 q3 q4
              exact ⟨q1.symm, q2.symm, q3.symm, q4.symm⟩
            · rw [Env.set_ne _ _ _ _ (hghn g hg)] at hb
              refine ⟨fun hB => ?_, (hdis g b hg hb hm).2⟩
              rcases hB' _ hB with h | h
              · exact (hdis g b hg hb hm).1 h
              · have := (hR.blks g hg).lt hb hm; omega
      rw [hdst]
      exact base.slot hd (hv.pure hr m)
/-- The step: a call that is handed the yield. -/
theorem s_ycall {d f i e k k' : Nat} {L ds : List D} {r : D} {xs : List Opd} (hgh : hold (σ gh) = .gho i L e k) (hyc : YCalls P f i L e ds k r k') (hds : hold (xs.map (Opd.val σ)) = ds) (hp : D.purL ds = true) (hr : r.pur = true)
    (h : evG P B l (hold (Env.put [(gh, .gho i L e k'), (d, r)] σ)) (hold (push ⟨rd ++ (hold (xs.flatMap Opd.rd) ++ [gh]), wr ++ [gh, d]⟩ acc)) N) (hLf : ∀ St, L ≠ [D.fam St] := by intro St h; have h0 := congrArg (fun x => x[0]?) h; simp at h0) : evS P B rd wr (.call d f xs) true l σ acc N := by
  unfold hold at hds
  subst hds
  refine ⟨⟨xs.flatMap Opd.rd ++ [gh], [gh, d]⟩, [(gh, .gho i L e k'), (d, r)], fun G hP xo o hcp => ?_, h⟩
  obtain ⟨d', hdst, hd, hcc⟩ := copc_call hcp
  obtain ⟨rfl, hf, ops, ts, ho, ha⟩ := ccall_call hcc
  exact in_ycall hP ho hf ha hdst hd hgh hyc hp hr hLf
end
/-- Such a function's entry. -/
def entYC (i : Nat) (L : List D) (e k : Nat) (ds : List D) : Env := (ent [] ds).set gh (.gho i L e k)
attribute [go_sem] entYC
/-- Such a function's end. -/
def FinYC (rs : List Res) (r : D) (i : Nat) (L : List D) (e k' : Nat) (τ : Env) : Prop := hold (τ gh) = .gho i L e k' ∧ resOk τ rs ∧ hold (resD τ rs) = r
theorem ycalls_of {P : Program} {xo : List Nat} {f : FuncId} {n : Nat} {dc : DC} {rs : List Res} (hc : cfun P xo f = some (n, dc, rs)) (hm : P.follows .mixedOrders = true) {ds L : List D} {i e k k' : Nat} {r : D} (hl : ds.length ≤ n) (hr : r.pur = true)
    (hd : dwp P 0 dc (hold (entYC i L e k ds)) (FinYC rs r i L e k') (fun _ _ => False) (FinYC rs r i L e k')) : YCalls P f i L e ds k r k' := by
  unfold cfun at hc
  split at hc
  rotate_left
  · cases hc
  rename_i fn hf
  split at hc
  rotate_left
  · cases hc
  rename_i c hb
  simp only [Option.bind_eq_some_iff, oif_some, Option.some.injEq, Prod.mk.injEq, decide_eq_true_eq] at hc
  obtain ⟨dc', hdc, rs', hrs, hnb, rfl, rfl, rfl⟩ := hc
  intro Y w F mY B xs hP hi hL he hig hJ hwf hxl hfz
  subst hi hL he
  refine (callsIn_wide (n := 3)).1 (callsIn_of_wp_marks hf hb trivial ?_)
  obtain ⟨hlo, hlt⟩ := Y.lt _ _ _ _ _ hJ
  let G : Ctx := { n := fn.ntmps, w0 := w, F0 := F, R0 := B, k := 0, m0 := noNames, Y := some Y }
  have hgetx : ∀ t, (xs.toArray ++ Array.replicate (fn.ntmps - xs.toArray.size) undef).getD t undef = xs.getD t undef := by
    intro t
    simp only [Array.getD_eq_getD_getElem?, List.getD_eq_getElem?_getD]
    by_cases ht : t < xs.length
    · rw [Array.getElem?_append_left (by simpa using ht)]
      simp
    · rw [Array.getElem?_append_right (by simpa using ht), Array.getElem?_replicate, List.getElem?_eq_none (by omega)]
      split <;> rfl
  have hslot : ∀ t, t < nb → t ≠ gh → entYC Y.l Y.L Y.stop k ds t = if t < ds.length then ds.getD t .any else .any := by
    intro t ht hne
    unfold entYC
    rw [Env.set_ne _ _ _ _ hne]
    unfold ent
    rw [entL_at, entL_at]
    by_cases h : t < ds.length
    · rw [if_pos ⟨Nat.zero_le _, by omega⟩, if_pos h]; simp
    · rw [if_neg (by omega), if_neg (by simp), if_neg h]; unfold base; rw [if_pos ht]
  have hnm : ∀ g, nb ≤ g → entYC Y.l Y.L Y.stop k ds g = .free := by
    intro g hg
    have hdg : ds.length ≤ gh := Nat.le_trans hl hnb
    have h9 : (1000000 : Nat) ≤ g := hg
    have h8 : ds.length ≤ 999999 := hdg
    unfold entYC
    rw [Env.set_ne _ _ _ _ (by show ¬ g = 999999; omega)]
    unfold ent
    rw [entL_at, entL_at, if_neg (by omega), if_neg (by simp)]
    unfold base
    rw [if_neg (by show ¬ g < 1000000; omega), if_neg (by show ¬ g < 1000000 + 0; omega)]
  have hR0 : Rel G (entYC Y.l Y.L Y.stop k ds) { tmps := xs.toArray ++ Array.replicate (fn.ntmps - xs.toArray.size) undef, defers := [] } w := by
    refine ⟨rfl, F, noNames, ?_, Nat.le_trans hnb (by decide), fun t ht => ?_, fun g hg => ?_, fun g g' b hg hg' h1 h2 h3 h4 => ?_, hwf, Chg.refl w F _, fun g b hg h1 h2 => ?_, fun i hi => absurd hi (Nat.not_lt_zero i), hnb, B, fun p hp => (by cases hp), fun b hb => .inl hb, fun h => (by cases h), fun Y' hY' => ?_, fun Y' hY' p hp => (by cases hp)⟩
    · show (xs.toArray ++ Array.replicate (fn.ntmps - xs.toArray.size) undef).size = fn.ntmps
      simp only [Array.size_append, Array.size_replicate, List.size_toArray]
      omega
    · show Fz w F noNames (entYC Y.l Y.L Y.stop k ds t) ((xs.toArray ++ Array.replicate (fn.ntmps - xs.toArray.size) undef).getD t undef)
      by_cases hne : t = gh
      · subst hne; unfold entYC; rw [Env.set_same]; exact .gho _ _ _ _ _ _
      · rw [hgetx, hslot t ht hne]
        by_cases h : t < ds.length
        · have hx : xs[t]? = some (xs.getD t undef) := by rw [List.getD_eq_getElem?_getD, List.getElem?_eq_getElem (by omega)]; rfl
          have hdd : ds[t]? = some (ds.getD t .any) := by rw [List.getD_eq_getElem?_getD, List.getElem?_eq_getElem h]; rfl
          rw [if_pos h]
          exact hfz t _ _ hdd hx
        · rw [if_neg h]; exact .any _ _
    · rw [hnm g hg]; rfl
    · rw [hnm g hg] at h1; cases h1
    · rw [hnm g hg] at h1; cases h1
    · obtain rfl := Option.some.inj hY'
      refine ⟨hlo, ⟨k, hig _ _ _ _ _ _ hJ, fun l L' e k he => ?_⟩, fun g b hg hb _ => ?_⟩
      · unfold entYC at he
        rw [Env.set_same] at he
        injection he with q1 q2 q3 q4
        exact ⟨q1.symm, q2.symm, q3.symm, q4.symm⟩
      · rw [hnm g hg] at hb; cases hb
  have fin : ∀ (a' : Act) (w' : World), (∃ G' τ, GExt G G' ∧ G'.ok P ∧ Rel G' τ a' w' ∧ FinYC rs' r Y.l Y.L Y.stop k' τ) → LeavesInM Fence.wide 3 P fn a'.tmps (fun en w' => ∃ x F' B', en = .returned x ∧ Chg w F B w' F' ∧ (∀ b o, F' b o → b < w'.heap.size) ∧ Fz w' F' noNames r x ∧ Y.J k' w' F' mY B' ∧ ∀ b, B' b → B b ∨ w.heap.size ≤ b) a'.defers .returning w' := by
    rintro a' w1 ⟨G', τ, hG, hok', hR, hgk, hro, hrr⟩
    obtain ⟨K, M, rfl, hK⟩ := hG
    obtain ⟨hdf, F', m1, hR⟩ := hR
    obtain ⟨B1, hE1⟩ := hR.ext
    rw [hdf]
    refine marks_out _ _ _ B1 hR hE1 hok'.mrk hok'.nd hok'.new (fun K' w' hR hE => ?_)
    obtain ⟨v, hv, hfv⟩ := res_run (a := a') hR fn hrs hro
    have hrr' : resD τ rs' = r := hrr
    rw [hrr'] at hfv
    obtain ⟨_, ⟨k'', hJ', hk'⟩, _⟩ := hE.yes Y rfl
    obtain ⟨_, _, _, rfl⟩ := hk' _ _ _ _ hgk
    exact ⟨v, hv, v, F', B1, rfl, hR.chg, hR.wf, hfv.pure hr noNames, hig _ _ _ _ _ _ hJ', hE.own⟩
  have hok0 : G.ok P := ⟨fun Y' hY' => (by obtain rfl := Option.some.inj hY'; exact hP), fun l hl => (by cases hl), fun b hb => (by cases hb), List.nodup_nil, fun b hb => (by cases hb)⟩
  refine wpIn_mono (F := G.fen) (dwp_ok hm c dc' G (entYC Y.l Y.L Y.stop k ds) _ w _ _ _ 3 hok0 hdc hR0 hd) ?_
  intro en a' w' hp
  cases en with
  | normal => exact fin a' w' hp
  | ret => exact fin a' w' hp
  | exit id => obtain ⟨_, _, _, _, _, h⟩ := hp; exact h.elim
  | _ => exact hp.elim
end Go.Proofs.Ytedmegmhjmabcaa

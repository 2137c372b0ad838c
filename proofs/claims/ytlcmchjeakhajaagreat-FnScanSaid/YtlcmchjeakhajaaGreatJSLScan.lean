/-
  EvalPlan of both packages as a function. No condition.
-/
import Derived.Test.YtlcmchjeakhajaaGreatKSDca
import Derived.Test.YtlcmchjeakhajaaGreatJSDco
import Derived.Test.YtlcmchjeakhajaaGreatKSVPiO
import Derived.Test.YtlcmchjeakhajaaGreatJSVWidF
import Derived.Test.YtlcmchjeakhajaaGreatKSVPiP
import Derived.Test.YtlcmchjeakhajaaGreatJSVGo
import Derived.Test.YtlcmchjeakhajaaGreatJSDcWEpS
import Derived.Test.YtlcmchjeakhajaaGreatJSVEvS
import Derived.Test.YtlcmchjeakhajaaGreatJSVVa
set_option maxHeartbeats 4000000
set_option maxRecDepth 100000
set_option linter.unusedVariables false
set_option linter.unusedSimpArgs false
namespace Go.Proofs.YtlcmchjeakhajaaGreat
open Go.RowKit
theorem wd_wt {ws : List Nat} : ∀ (p : Pl) (d : Nat), wdV (natI ws) p d ≠ 0 → ∃ n : Nat, wdV (natI ws) p d = (n : Int) ∧ Wt ws p n := by
  refine Pl.indA (fun p ih d h => ?_)
  have hf := wd_fields h
  by_cases hk : p.k = 1
  · obtain ⟨hr, h0, h1⟩ := wd_scan h hk
    have hks : p.ks = [] := List.length_eq_zero_iff.1 (by unfold fields at hf; omega)
    obtain ⟨j, hj⟩ := Int.eq_ofNat_of_zero_le h0
    have hjl : j < (natI ws).length := by omega
    have hx := List.getElem?_eq_getElem hjl
    obtain ⟨m, hm, hmx⟩ := natI_at hx
    refine ⟨m, ?_, .scan hk hj hm hks⟩
    rw [hr]
    unfold scanV
    rw [if_pos ⟨h0, h1⟩, hj, show ((j : Int)).toNat = j from rfl, List.getD_eq_getElem?_getD, hx, Option.getD_some, hmx]
  · obtain ⟨⟨hfi, hfit⟩, hr, hkid⟩ := wd_fit h hk
    obtain ⟨ms, hl, hp⟩ := list_of (P := fun (x : Pl) (n : Nat) => wdV (natI ws) x (d - 1) = (n : Int) ∧ Wt ws x n) p.ks (fun x hx => ih x hx (d - 1) (hkid x hx))
    have hms : p.ks.map (fun x => wdV (natI ws) x (d - 1)) = natI ms := by
      apply List.ext_getElem?
      intro i
      show (p.ks.map (fun x => wdV (natI ws) x (d - 1)))[i]? = (ms.map (fun n : Nat => (n : Int)))[i]?
      rw [List.getElem?_map, List.getElem?_map]
      cases hx : p.ks[i]? with
      | none =>
        have : ms[i]? = none := List.getElem?_eq_none (by have := List.getElem?_eq_none_iff.1 hx; omega)
        rw [this]
        rfl
      | some x =>
        obtain ⟨n, hn⟩ : ∃ n, ms[i]? = some n := ⟨_, List.getElem?_eq_getElem (by have := (List.getElem?_eq_some_iff.1 hx).1; omega)⟩
        rw [hn, Option.map_some, Option.map_some, (hp i x n hx hn).1]
    rw [hms] at hfit hr
    obtain ⟨m, hm, hw⟩ := wt_of hl hk (fun i x n hx hn => (hp i x n hx hn).2) hfi hfit
    exact ⟨m, by rw [hr, hm], hw⟩
def fitB (db : List Ta) (p : Pl) : Prop := dbOk db ∧ PV (natI (dbWs db)) p ≠ 0
noncomputable instance fitDec (db : List Ta) (p : Pl) : Decidable (fitB db p) := Classical.propDecidable _
noncomputable def EO (db : List Ta) (p : Pl) : Bool := decide (fitB db p)
noncomputable def EP (db : List Ta) (p : Pl) : Ta := if fitB db p then evP db p else ⟨0, []⟩
theorem EP_t {db : List Ta} {p : Pl} (h : fitB db p) : EP db p = evP db p := if_pos h
theorem EP_f {db : List Ta} {p : Pl} (h : ¬ fitB db p) : EP db p = ⟨0, []⟩ := if_neg h
theorem EO_t {db : List Ta} {p : Pl} (h : fitB db p) : EO db p = true := decide_eq_true h
theorem EO_f {db : List Ta} {p : Pl} (h : ¬ fitB db p) : EO db p = false := decide_eq_false h
theorem fit_wt {db : List Ta} {p : Pl} (h : fitB db p) : ∃ n : Nat, PV (natI (dbWs db)) p = (n : Int) ∧ Wt (dbWs db) p n ∧ DbW (dbWs db) db ∧ TabW n (evP db p) := by
  have hw := PV_ok h.2
  have h2 := h.2
  rw [PV_t hw] at h2 ⊢
  obtain ⟨n, hn, hwt⟩ := wd_wt p 8 h2
  have hd := dbW_of h.1 hw
  exact ⟨n, hn, hwt, hd, (evalPlan_ok hd hwt).1⟩
theorem EP_small (db : List Ta) (p : Pl) : smallT (EP db p) := by
  by_cases h : fitB db p
  · obtain ⟨n, _, hwt, hd, hT⟩ := fit_wt h
    rw [EP_t h]
    have hn := hwt.pos hd.wid
    exact ⟨by have := hT.few; omega, fun r hr => by have := (hT.row r hr).1; omega⟩
  · rw [EP_f h]
    exact ⟨by decide, fun r hr => by cases hr⟩
theorem EvalPlan_fn (p : Pl) (hs : psz p ≤ 1048576) (db : List Ta) (hl : db.length ≤ 1000) (hsz : ∀ t, t ∈ db → rsz t.rows ≤ 1048576) :
    Does Tryz.prog 6 [] [pD p, tasD db] (.tup [taD (EP db p), Bo (EO db p)]) [] ∧ Does Tryz.prog 7 [] [pD p, tasD db] (.tup [taD (EP db p), Bo (EO db p)]) [] := by
  have hwl : (natI (dbWs db)).length ≤ 1048576 := by unfold natI dbWs; rw [List.length_map, List.length_map]; omega
  obtain ⟨_, g1, g2⟩ := PlanWidth_fn p hs (natI (dbWs db)) hwl
  by_cases hf : fitB db p
  · obtain ⟨n, hn, hwt, hd, hT⟩ := fit_wt hf
    rw [EP_t hf, EO_t hf]
    rw [hn] at g1 g2
    have hn0 : n ≠ 0 := fun e => hf.2 (by rw [hn, e]; rfl)
    refine ⟨EvalPlan_impl_t hs hl hsz ⟨hf.1, PV_ok hf.2, hn0, hwt⟩ g2, ?_⟩
    have h1 := widthsOf_t hl hf.1
    have h4 := (evalPlan_ok hd hwt).2
    have hz2 : ((n : Int) == 0) = false := beq_eq_false_iff_ne.2 (by omega)
    refine Bg c_Z132 mixed (go1 trivial ?_)
    refine Uc trivial (h1) (go1 trivial ?_)
    refine Uc @hz2 (g1) (go1 @hz2 ?_)
    exact Uc trivial (h4) (go0 trivial)
  · rw [EP_f hf, EO_f hf]
    by_cases hok : dbOk db
    · have h0 : PV (natI (dbWs db)) p = 0 := Classical.byContradiction fun hne => hf ⟨hok, hne⟩
      rw [h0] at g1 g2
      refine ⟨EvalPlan_impl_f (tableWidths_t hl hok hsz) g2, ?_⟩
      have h1 := widthsOf_t hl hok
      refine Bg c_Z132 mixed (go1 trivial ?_)
      refine Uc trivial (h1) (go1 trivial ?_)
      refine Uc trivial (g1) (go1 trivial ?_)
      exact sub_zero
    · obtain ⟨_, k1, k2⟩ := PlanWidth_fn p hs (natI []) (by decide)
      have h0 : PV (natI []) p = 0 := if_neg (fun h => by have := h.1.1; simp [natI] at this)
      rw [h0] at k1 k2
      refine ⟨EvalPlan_impl_f (tableWidths_f hl hsz hok) k2, ?_⟩
      have h1 := widthsOf_f hl hsz hok
      refine Bg c_Z132 mixed (go1 trivial ?_)
      refine Uc trivial (h1) (go1 trivial ?_)
      refine Uc trivial (k1) (go1 trivial ?_)
      exact sub_zero
end Go.Proofs.YtlcmchjeakhajaaGreat
set_option maxHeartbeats 4000000
set_option maxRecDepth 100000
set_option linter.unusedVariables false
set_option linter.unusedSimpArgs false
namespace Go.Proofs.YtlcmchjeakhajaaGreat
open Go.RowKit
def scnP (i : Nat) : Pl := .mk 1 i [] [] []
theorem scn_s (i : Nat) : Sub (.agg [I 1, I i, .nul, .nul, .nul]) (pD (scnP i)) := plS (k := 1) (t := i) (es := []) (cs := []) (ks := []) (Sub.nul 5) (Sub.nul 1) (Sub.nul 5)
theorem scn_fit {db : List Ta} (h : dbOk db) (hw : wsOk (natI (dbWs db))) {i : Nat} {t : Ta} (hi : db[i]? = some t) : fitB db (scnP i) ∧ evP db (scnP i) = t := by
  have hil := (List.getElem?_eq_some_iff.1 hi).1
  have hnl : (natI (dbWs db)).length = db.length := by unfold natI dbWs; rw [List.length_map, List.length_map]
  have hf : fields (scnP i) := by
    simp [fields, scnP, Pl.k, Pl.ks, Pl.es, Pl.cs, Pl.t]
  refine ⟨⟨h, ?_⟩, ?_⟩
  · rw [PV_t hw, wd_eq, if_pos hf, if_pos (show (scnP i).k = 1 from rfl)]
    have hx := List.getElem?_eq_getElem (show i < (natI (dbWs db)).length by omega)
    have := hw.2 i _ hx
    unfold scanV
    rw [show (scnP i).t = (i : Int) from rfl, if_pos ⟨by omega, by have := hnl; omega⟩, show ((i : Int)).toNat = i from rfl, List.getD_eq_getElem?_getD, hx, Option.getD_some]
    omega
  · rw [evP_0 rfl, opT, if_pos (show (scnP i).k = 1 from rfl), show (scnP i).t = (i : Int) from rfl, show ((i : Int)).toNat = i from rfl, List.getD_eq_getElem?_getD, hi]
    rfl
theorem does_FnScan (bs : List Nat) (hb : ∀ b, b ∈ bs → b < 256) : Does Tryz.prog 3 [] [bytesD bs] (Bo true) [] := by
  by_cases hlen : bs.length ≤ 1048576
  · obtain ⟨x, db, hd, hz, hdl, hsm⟩ := DrawEvalPlan_ok bs hb
    obtain ⟨h1, h2⟩ := EvalPlan_fn x (by omega) db (by omega) hsm.sz
    have h3 := equalTables_same (EP db x) (EP_small db x)
    by_cases hf : fitB db x
    · rw [EO_t hf] at h1 h2
      have hw := PV_ok hf.2
      generalize EP db x = t at h1 h2 h3
      refine Bg c_Z159 mixed (go1 @bytesD.eq_1 ?_)
      refine Uc @bytesD.eq_1 (hd) (go1 @bytesD.eq_1 ?_)
      refine Uc @bytesD.eq_1 (h1) (go1 @bytesD.eq_1 ?_)
      refine Uc @bytesD.eq_1 (h2) (go1 @bytesD.eq_1 ?_)
      refine Uc @bytesD.eq_1 (h3) (go1 @bytesD.eq_1 ?_)
      refine dw_for (c := 0) (l := fun i => [(4, tasD db), (9, I i)]) db.length (fun _ => True) 0 trivial (Wk.list [] rfl rfl ?_) (fun i hi _ => ?_) (Nat.zero_le _)
      · repeat' (first|(conv in hold _=>simp (disch:=omega) only [go_sem, bytesD, List.length_map, beq_self_eq_true, bne_self_eq_false])|exact trivial|exact Sub.refl _|omega)
        first | exact rfl | exact ⟨rfl, rfl⟩
      · rcases at_or_end hi with ⟨u, hu, hlt⟩ | rfl
        · obtain ⟨g1, g2⟩ := scn_fit hf.1 hw hu
          have h4 := (EvalPlan_fn (scnP i) (by show psz (scnP i) ≤ _; unfold scnP; rw [psz_scan]; decide) db (by omega) hsm.sz).1
          rw [EP_t g1, EO_t g1, g2] at h4
          have h5 : Does Tryz.prog 6 [] [.agg [I 1, I i, .nul, .nul, .nul], tasD db] (.tup [taD u, Bo true]) [] := h4.weak ⟨scn_s i, Sub.refl _, trivial⟩ (Sub.refl _)
          have h6 := equalTables_same u (by rw [← g2, ← EP_t g1]; exact EP_small db _)
          refine go1 @bytesD.eq_1 ?_
          refine Uc (cj2 @bytesD.eq_1 @hu) (h5) (go1 (cj2 @bytesD.eq_1 @hu) ?_)
          refine Uc (cj2 @bytesD.eq_1 @hu) (h6) (go1 (cj2 @bytesD.eq_1 @hu) ?_)
          refine ⟨hlt, trivial, Wk.list [] rfl rfl ?_⟩
          repeat' (first|(conv in hold _=>simp (disch:=omega) only [go_sem, bytesD, List.length_map, beq_self_eq_true, bne_self_eq_false])|exact trivial|exact Sub.refl _|omega)
        · exact go0 @bytesD.eq_1
    · rw [EO_f hf] at h1 h2
      refine Bg c_Z159 mixed (go1 @bytesD.eq_1 ?_)
      refine Uc @bytesD.eq_1 (hd) (go1 @bytesD.eq_1 ?_)
      refine Uc @bytesD.eq_1 (h1) (go1 @bytesD.eq_1 ?_)
      refine Uc @bytesD.eq_1 (h2) (go1 @bytesD.eq_1 ?_)
      refine Uc @bytesD.eq_1 (h3) (go1 @bytesD.eq_1 ?_)
      exact Uc @bytesD.eq_1 (h3) (go0 @bytesD.eq_1)
  · exact Bg c_Z159 mixed (go0 @bytesD.eq_1)
theorem walk_FnScan (a : Option Addr) (len cap : Nat) (zs : List Int) (w : World) (h : IsRow .u8 w a len cap zs) :
    Calls Tryz.prog 3 #[.slice a len cap] w fun e W' => e = .returned (.bool true) ∧ Below w.heap.size w W' := walk_of does_FnScan a len cap zs w h
end Go.Proofs.YtlcmchjeakhajaaGreat
namespace Go.Proofs.YtlcmchjeakhajaaGreat.fnScan
open Go.ChangeShapes Go.WideShapes Go.ChangeAt Go.RowKit Go.Joins
set_option linter.unusedVariables false
set_option maxRecDepth 100000 in
theorem lifted (os : Os) (started : os.Started) (H : Type) (enc : TypeId × Value → H) :
    ReturnsInHanded {} Tryz.checked os 3 .any (Rows.fnScanSpec.pre6 enc Tryz.prog Tryz.f3 Rows.fnScanRow.domain false) (Rows.fnScanSpec.post enc Tryz.prog Tryz.f3 false true false false) := by
  refine returnsInHanded_of_change (C := Tryz.checked) own started (by kernel_rfl) Tryz.func3
    (ChangeSpec.witness6 (enc := enc) (C := Tryz.checked) false ⟨#[], #[.slice none 0 0], []⟩ 8 (by kernel_rfl) (by kernel_rfl) (by kernel_rfl) (by kernel_rfl)) ?_
  intro W base args ds gs before hval0 hW hcnd _
  have hval : ∀ (j : Nat) t v, Tryz.f3.params[j]? = some t → args[j]? = some v → Value.okWide Tryz.prog W .any base t v := hval0
  have hW' := hW
  obtain ⟨p, q, hA0, hV, rfl, hfz, hnd⟩ := hW
  have hA : DataW.TrodAll enc Tryz.prog W 0 (fun _ => true) true Tryz.f3.params.toList args.toList ds p := hA0
  rw [Tryz.params3] at hA hval
  obtain ⟨v0, vs0, d0, ds0, p0, q0, hargs, rfl, rfl, h0, r0⟩ := trodAll_cons hA
  obtain ⟨rfl, rfl, rfl⟩ := trodAll_nil r0
  obtain rfl : args = #[v0] := by cases args; simp_all
  obtain ⟨rfl, rfl⟩ := trodVars_none hV
  have k0 := h0
  have lt0 : ∀ x ∈ p0, x.block < W.heap.size := by obtain ⟨m, hm⟩ := k0; exact DataW.trod_lt m _ _ _ hm
  obtain ⟨a0, len0, cap0, z0, hv0, wr0⟩ := open_code (hval 0 22 v0 rfl rfl) h0
  subst hv0
  clear hA0 hval0
  refine (walk_FnScan a0 len0 cap0 z0 W wr0).mono fun e W' ⟨he, bel⟩ => ?_
  subst he
  exact ⟨_, rfl, _, _, _, [], _, [], hW', trodAll_mk1 (shut_bool Tryz.underlying4 _), (trodAll_cons_mk (Below.trod laidOut (by kernel_rfl) (of_decide_eq_true (by kernel_rfl)) k0 bel lt0) trodAll_mk0), rfl, bel.frame _, fun h => by cases h⟩
theorem closed : joinedFacts Tryz.prog 3 Tryz.f3 Rows.fnScanSpec Rows.fnScanRow = true := by
  unfold joinedFacts
  exact Facts.and2 (Facts.and2 (Facts.and2 (Facts.and2 (Facts.and2 (Facts.and2 (Facts.and2 (Facts.and2 (Facts.and2 (Facts.and2 (Facts.and2 (Facts.and2 (Facts.and2 (Facts.and2 (Facts.and2 (Facts.and2 (Facts.and2 (Facts.and2 (Facts.and2 (Facts.and2 (Facts.and2 (Facts.and2 (Facts.and2 (Facts.and2 (Facts.and2 (Facts.and2 (Facts.and2 (Facts.and2 (Facts.and2 (Facts.and2 (Facts.and2 ((by as_aux_lemma => kernel_rfl)) Facts.p2) Facts.p3) (by as_aux_lemma => kernel_rfl)) (by as_aux_lemma => kernel_rfl)) (by as_aux_lemma => kernel_rfl)) Facts.p7) (by as_aux_lemma => kernel_rfl)) Facts.p9) (by as_aux_lemma => kernel_rfl)) (by as_aux_lemma => kernel_rfl)) (by as_aux_lemma => kernel_rfl)) (by as_aux_lemma => kernel_rfl)) (by as_aux_lemma => kernel_rfl)) (by as_aux_lemma => kernel_rfl)) (by as_aux_lemma => kernel_rfl)) (by as_aux_lemma => kernel_rfl)) (by as_aux_lemma => kernel_rfl)) (by as_aux_lemma => kernel_rfl)) (by as_aux_lemma => kernel_rfl)) (by as_aux_lemma => kernel_rfl)) (by as_aux_lemma => kernel_rfl)) Facts.p22) (by as_aux_lemma => kernel_rfl)) Facts.p23b) Facts.p24) Facts.p24b) Facts.p24c) (by as_aux_lemma => kernel_rfl)) (by as_aux_lemma => kernel_rfl)) (by as_aux_lemma => kernel_rfl)) (by as_aux_lemma => kernel_rfl)
theorem over : Rows.fnScanRow.holds Tryz.pinned (OpenSpec.ofChange Rows.fnScanSpec) :=
  OpenClaim.holds_of_wide 3 Tryz.f3 rfl rfl rfl rfl rfl rfl rfl ⟨rfl, rfl, rfl, rfl, rfl⟩ rfl rfl rfl rfl rfl (by as_aux_lemma => kernel_rfl) Tryz.func3 closed
    (of_decide_eq_true (by as_aux_lemma => kernel_rfl)) (by unfold Func.isWrapper; rw [if_neg (of_decide_eq_false (by as_aux_lemma => kernel_rfl))]; exact ⟨rfl, rfl⟩)
    (fun os started H enc _ => lifted os started H enc)
theorem proved : Rows.FnScanSaid := over
end Go.Proofs.YtlcmchjeakhajaaGreat.fnScan

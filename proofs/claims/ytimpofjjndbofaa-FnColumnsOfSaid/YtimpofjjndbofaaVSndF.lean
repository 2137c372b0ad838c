/-
  Instructions on plain data, the sixth part: calls. No condition.
-/
import Derived.Test.YtimpofjjndbofaaVSndE
namespace Go.Proofs.Ytimpofjjndbofaa
open Go.RowKit

section
variable {P : Program} {G : Ctx} {o : Oper} {σ τ : Env} {a : Act} {w : World} {F : Cells} {m : Names} {tm : Array Value}

open Classical in
/-- The names behind a call. -/
noncomputable def afterN (R : List Nat) (mc m : Names) : Names := fun g => if h : ∃ i : Nat, R[i]? = some g then mc (nb + h.choose) else m g
theorem afterN_in {R : List Nat} {mc m : Names} (hnd : R.Nodup) {i g : Nat} (h : R[i]? = some g) : afterN R mc m g = mc (nb + i) := by
  have hex : ∃ i : Nat, R[i]? = some g := ⟨i, h⟩
  unfold afterN
  rw [dif_pos hex]
  have hc := hex.choose_spec
  have : hex.choose = i := (List.getElem?_inj (List.getElem?_eq_some_iff.1 hc).1 hnd).1 (hc.trans h.symm)
  rw [this]
theorem afterN_out {R : List Nat} {mc m : Names} {g : Nat} (h : g ∉ R) : afterN R mc m g = m g := by
  unfold afterN
  rw [dif_neg (fun ⟨i, hi⟩ => h (List.mem_of_getElem? hi))]

theorem call_core (hR : RelF G τ tm w F m) {f : FuncId} {H ds H' : List D} {r : D} {R : List Nat} {xs : List Value} (hdo : Does P f H ds r H') (hc : CallOK τ R H H') (hl : xs.length = ds.length)
    (hx : ∀ (i : Nat) (d : D) (x : Value), ds[i]? = some d → xs[i]? = some x → Fz w F m (d.ren R) x) {d : Nat} (hd : d < G.n) :
    Calls P f xs.toArray w (fun e w' => ∃ v, e = .returned v ∧ ∃ F' m', RelF G (Env.put (callU R H' d r) τ) (tm.setIfInBounds d v) w' F' m') := by
  have hmc : ∀ g g', nameOf R g = some g' → (fun g => (nameOf R g).bind m) g = m g' := fun g g' h => by simp only [h, Option.bind_some]
  have hat : ∀ i g, R[i]? = some g → (nameOf R (nb + i)).bind m = m g := fun i g h => by rw [nameOf_at, h, Option.bind_some]
  have hnew : ∀ i g, H.length ≤ i → R[i]? = some g → m g = none := fun i g hi hg => by
    have := hR.blks g (hc.ge g (List.mem_of_getElem? hg))
    rw [hc.new i g hi hg] at this
    exact this
  have hRi : ∀ i, i < H.length → ∃ g d, R[i]? = some g ∧ H[i]? = some d ∧ nb ≤ g ∧ d.isBlk = true ∧ τ g = d.ren R ∧ (τ g).isBlk = true := fun i hi => by
    have h1 : i < R.length := by rw [hc.len]; have := hc.le; omega
    have hg := List.getElem?_eq_getElem h1
    have hd := List.getElem?_eq_getElem hi
    obtain ⟨hb, ht⟩ := hc.old i _ _ hd hg
    exact ⟨_, _, hg, hd, hc.ge _ (List.mem_of_getElem? hg), hb, ht, by rw [ht, isBlk_ren]; exact hb⟩
  have hT : ∀ b, (∃ i, i < H.length ∧ (nameOf R (nb + i)).bind m = some (some b)) → ∃ i g, R[i]? = some g ∧ i < H.length ∧ nb ≤ g ∧ (τ g).isBlk = true ∧ m g = some (some b) := by
    rintro b ⟨i, hi, hm⟩
    obtain ⟨g, d, hg, _, hgn, _, _, hbl⟩ := hRi i hi
    exact ⟨i, g, hg, hi, hgn, hbl, by rw [← hat i g hg]; exact hm⟩
  refine (hdo w F (fun g => (nameOf R g).bind m) xs hl hc.le hR.wf (fun i e x he hxe => (hx i e x he hxe).unren hmc rfl) (fun i e he => ?_) (fun g hg => ?_) (fun i j b hi hj h1 h2 => ?_)).mono ?_
  · have hi : i < H.length := (List.getElem?_eq_some_iff.1 he).1
    obtain ⟨g, d', hg, hd', hgn, hb, ht, _⟩ := hRi i hi
    obtain rfl : e = d' := by rw [he] at hd'; simpa using hd'
    have hblk := hR.blks g hgn
    rw [ht] at hblk
    exact ⟨hb, hblk.unren hb hmc (hat i g hg)⟩
  · cases hn : nameOf R g with
    | none => rfl
    | some g' =>
      obtain ⟨h1, h2⟩ := nameOf_some hn
      exact hnew (g - nb) g' (by omega) h2
  · obtain ⟨g, _, hg, _, hgn, _, _, hbl⟩ := hRi i hi
    obtain ⟨g', _, hg', _, hgn', _, _, hbl'⟩ := hRi j hj
    rw [hat i g hg] at h1
    rw [hat j g' hg'] at h2
    have e := hR.inj g g' b hgn hgn' hbl hbl' h1 h2
    subst e
    exact (List.getElem?_inj (List.getElem?_eq_some_iff.1 hg).1 hc.nd).1 (hg.trans hg'.symm)
  · rintro e w' ⟨x, F', mc, rfl, c, hwf, hkeep, hnone, hrx, hH, hinj, hown⟩
    have hlen := hc.len
    have hzl : R.length = (H'.map (D.ren R)).length := by rw [List.length_map]; exact hlen
    obtain ⟨hzin, hzout⟩ := put_zip hc.nd hzl τ
    -- a name of the call: its place
    have place : ∀ (g : Nat), g ∈ R → ∃ (i : Nat) (d' : D), R[i]? = some g ∧ H'[i]? = some d' ∧ Env.put (R.zip (H'.map (D.ren R))) τ g = d'.ren R := fun g hg => by
      obtain ⟨i, hi⟩ := List.mem_iff_getElem?.1 hg
      have h1 : i < H'.length := by rw [← hlen]; exact (List.getElem?_eq_some_iff.1 hi).1
      have h2 := List.getElem?_eq_getElem h1
      exact ⟨i, _, hi, h2, hzin i g _ hi (by rw [List.getElem?_map, h2]; rfl)⟩
    have hmono : ∀ g p, m g = some p → afterN R mc m g = some p := fun g p hg => by
      by_cases hm : g ∈ R
      · obtain ⟨i, hi⟩ := List.mem_iff_getElem?.1 hm
        rw [afterN_in hc.nd hi]
        by_cases hil : i < H.length
        · rw [hkeep i hil]
          rw [hat i g hi]
          exact hg
        · rw [hnew i g (by omega) hi] at hg; cases hg
      · rw [afterN_out hm]; exact hg
    have hren : ∀ g p, mc g = some p → ∃ g', nameOf R g = some g' ∧ afterN R mc m g' = some p := fun g p hg => by
      have h1 : ¬ (g < nb ∨ nb + H'.length ≤ g) := fun h => by rw [hnone g h] at hg; cases hg
      have h2 : g - nb < R.length := by rw [hlen]; omega
      have h3 := List.getElem?_eq_getElem h2
      refine ⟨R[g - nb], ?_, ?_⟩
      · unfold nameOf
        rw [if_neg (by omega)]
        exact h3
      · rw [afterN_in hc.nd h3, show nb + (g - nb) = g by omega]
        exact hg
    have hlive : ∀ (i g : Nat) (d' : D), R[i]? = some g → H'[i]? = some d' → d'.isBlk = true → ∀ b, afterN R mc m g = some (some b) → (∃ j g', R[j]? = some g' ∧ j < H.length ∧ nb ≤ g' ∧ (τ g').isBlk = true ∧ m g' = some (some b)) ∨ w.heap.size ≤ b := by
      intro i g d' hi hd' hb b hm
      rw [afterN_in hc.nd hi] at hm
      exact (hown i d' b hd' hb hm).imp (hT b) id
    have base : RelF G (Env.put (R.zip (H'.map (D.ren R))) τ) tm w' F' (afterN R mc m) := by
      refine ⟨hR.size, hR.nle, fun t ht => ?_, fun g hg => ?_, fun g1 g2 b hg1 hg2 hb1 hb2 hm1 hm2 => ?_, hwf, hR.chg.trans c (fun b hb _ => ?_), fun g b hg hb hm => ?_, fun i hi => ?_⟩
      · rw [hzout t (fun h => by have := hc.ge t h; omega)]
        exact (hR.slots t ht).stable c hmono
      · by_cases hm : g ∈ R
        · obtain ⟨i, d', hi, hd', he⟩ := place g hm
          rw [he]
          exact (hH i d' hd').2.ren (hH i d' hd').1 hren (fun p hp => by rw [afterN_in hc.nd hi]; exact hp)
        · rw [hzout g hm]
          refine (hR.blks g hg).stable c hmono (fun e => ?_) (fun b hb hmg hTb => ?_)
          · rw [afterN_out hm]; have := hR.blks g hg; rw [e] at this; exact this
          · obtain ⟨i, g', hi, _, hgn, hbl, hm'⟩ := hT b hTb
            exact hm (by rw [hR.inj g g' b hg hgn hb hbl hmg hm']; exact List.mem_of_getElem? hi)
      · have mixed : ∀ g g', g ∈ R → g' ∉ R → nb ≤ g' → (Env.put (R.zip (H'.map (D.ren R))) τ g).isBlk = true → (Env.put (R.zip (H'.map (D.ren R))) τ g').isBlk = true → afterN R mc m g = some (some b) → afterN R mc m g' = some (some b) → False := by
          intro g g' hg hg' hgn hb hb' hm hm'
          obtain ⟨i, d', hi, hd', he⟩ := place g hg
          rw [he, isBlk_ren] at hb
          rw [hzout g' hg'] at hb'
          rw [afterN_out hg'] at hm'
          rcases hlive i g d' hi hd' hb b hm with ⟨j, g'', hj, _, hgn'', hbl'', hm''⟩ | hle
          · exact hg' (by rw [hR.inj g' g'' b hgn hgn'' hb' hbl'' hm' hm'']; exact List.mem_of_getElem? hj)
          · have := (hR.blks g' hgn).lt hb' hm'; omega
        by_cases h1 : g1 ∈ R
        · by_cases h2 : g2 ∈ R
          · obtain ⟨i, d1, hi, hd1, he1⟩ := place g1 h1
            obtain ⟨j, d2, hj, hd2, he2⟩ := place g2 h2
            rw [he1, isBlk_ren] at hb1
            rw [he2, isBlk_ren] at hb2
            rw [afterN_in hc.nd hi] at hm1
            rw [afterN_in hc.nd hj] at hm2
            have := hinj i j b d1 d2 hd1 hd2 hb1 hb2 hm1 hm2
            subst this
            rw [hi] at hj
            simpa using hj
          · exact (mixed g1 g2 h1 h2 hg2 hb1 hb2 hm1 hm2).elim
        · by_cases h2 : g2 ∈ R
          · exact (mixed g2 g1 h2 h1 hg1 hb2 hb1 hm2 hm1).elim
          · rw [hzout g1 h1] at hb1
            rw [hzout g2 h2] at hb2
            rw [afterN_out h1] at hm1
            rw [afterN_out h2] at hm2
            exact hR.inj g1 g2 b hg1 hg2 hb1 hb2 hm1 hm2
      · obtain ⟨i, g, _, _, hgn, hbl, hm⟩ := hT b hb
        exact (hR.own g b hgn hbl hm).resolve_right (by omega)
      · by_cases hgR : g ∈ R
        · obtain ⟨i, d', hi, hd', he⟩ := place g hgR
          rw [he, isBlk_ren] at hb
          rcases hlive i g d' hi hd' hb b hm with ⟨j, g'', _, _, hgn'', hbl'', hm''⟩ | hle
          · exact hR.own g'' b hgn'' hbl'' hm''
          · exact .inr (Nat.le_trans hR.chg.size hle)
        · rw [hzout g hgR] at hb
          rw [afterN_out hgR] at hm
          exact hR.own g b hg hb hm
      · obtain ⟨h1, h2⟩ := hR.par i hi
        by_cases hgR : nb + i ∈ R
        · obtain ⟨j, d', hj, hd', he⟩ := place _ hgR
          refine ⟨?_, ?_⟩
          · rw [he]
            obtain ⟨hf, hblk⟩ := hH j d' hd'
            intro e'
            cases d' with
            | obj cs => cases e'
            | row s es => cases e'
            | any => cases e'
            | free => exact hf rfl
            | _ => exact hblk.elim
          · rw [← h2, afterN_in hc.nd hj]
            by_cases hjl : j < H.length
            · rw [hkeep j hjl]
              exact hat j _ hj
            · exact absurd (hc.new j _ (by omega) hj) h1
        · rw [hzout _ hgR, afterN_out hgR]
          exact ⟨h1, h2⟩
    refine ⟨x, rfl, F', afterN R mc m, ?_⟩
    unfold callU
    rw [Env.put_append]
    exact base.slot hd (hrx.ren hren)

theorem run_callFunc {f : FuncId} (h : enters P f = true) (args : Array Value) (w : World) : (callFunc f args).run P w = .ok (.enter f args) w := by
  unfold enters at h
  cases hf : P.funcs[f]? with
  | none => rw [hf] at h; cases h
  | some fn =>
    rw [hf] at h
    simp only [Bool.and_eq_true, bne_iff_ne, ne_eq] at h
    have h1 : ¬ fn.body = none := by
      intro hb
      rw [hb] at h
      simp at h
    simp [callFunc, hf, h.2, h1]


/-- What a call reads and writes. -/
def callE (rd R : List Nat) (d : Nat) : Ent := ⟨rd ++ R, R ++ [d]⟩

/-- An operation that enters a function. -/
theorem ok_enter {f : FuncId} {H ds H' : List D} {r : D} {R : List Nat} (hdo : Does P f H ds r H') (hc : CallOK σ R H H') {d : Nat} (hdst : o.dst = some d) (hd : d < G.n) {rd : List Nat}
    (hrun : ∀ (τ : Env) (a : Act) (w : World) (F : Cells) (m : Names), (∀ t, t ∈ rd → τ t = σ t) → RelF G τ a.tmps w F m → ∃ xs : List Value, (execOp a.eval o).run P w = .ok (.enter f xs.toArray) w ∧
      xs.length = ds.length ∧ ∀ (i : Nat) (d : D) (x : Value), ds[i]? = some d → xs[i]? = some x → Fz w F m (d.ren R) x) :
    OpOK P G o (callE rd R d) σ (callU R H' d r) where
  wr p hp := by
    rcases List.mem_append.1 hp with hp | hp
    · obtain ⟨i, hi, _⟩ := zip_mem hp
      exact List.mem_append_left _ (List.mem_of_getElem? hi)
    · obtain rfl := List.mem_singleton.1 hp
      exact List.mem_append_right _ (List.mem_singleton.2 rfl)
  run τ a w K Q hag hR hK := by
    obtain ⟨hdf, F, m, hR⟩ := hR
    obtain ⟨xs, hr, hl, hf⟩ := hrun τ a w F m (fun t ht => hag t (List.mem_append_left _ ht)) hR
    have hgσ : ∀ g, g ∈ R → τ g = σ g := fun g hg => hag g (List.mem_append_right _ hg)
    have hc' : CallOK τ R H H' := ⟨hc.len, hc.le, hc.nd, hc.ge, fun i d g h1 h2 => by rw [hgσ g (List.mem_of_getElem? h2)]; exact hc.old i d g h1 h2, fun i g h1 h2 => by rw [hgσ g (List.mem_of_getElem? h2)]; exact hc.new i g h1 h2⟩
    have hcc := call_core hR hdo hc' hl hf hd
    unfold Oper.wp
    rw [hr]
    show Calls P f _ w _
    refine hcc.mono ?_
    rintro e w' ⟨v, rfl, F', m', hR'⟩
    refine hK _ _ ⟨?_, F', m', ?_⟩
    · rw [hdst]; exact hdf
    · rw [hdst]; exact hR'

/-- The arguments are what the contract says, under the call's names. -/
theorem args_fz {R : List Nat} {ds : List D} {xs : List Value} {vs : List D} (h : vs = ds.map (D.ren R)) (hf : xs.length = vs.length ∧ ∀ (i : Nat) (d : D) (x : Value), vs[i]? = some d → xs[i]? = some x → Fz w F m d x) :
    xs.length = ds.length ∧ ∀ (i : Nat) (d : D) (x : Value), ds[i]? = some d → xs[i]? = some x → Fz w F m (d.ren R) x := by
  subst h
  refine ⟨by rw [hf.1, List.length_map], fun i d x hd hx => hf.2 i _ x (by rw [List.getElem?_map, hd]; rfl) hx⟩

theorem in_call {d f : Nat} {xs : List Opd} {ops : Array Operand} {ts : Array TypeId} (ho : o.op = .call { callee := .value (.func f), args := ops, argTypes := ts }) (hf : enters P f = true) (ha : ops.toList.mapM opd = some xs)
    (hdst : o.dst = some d) (hd : d < G.n) {H ds H' : List D} {r : D} {R : List Nat} (hdo : Does P f H ds r H') (hc : CallOK σ R H H') (hds : xs.map (Opd.val σ) = ds.map (D.ren R)) :
    OpOK P G o (callE (xs.flatMap Opd.rd) R d) σ (callU R H' d r) := by
  refine ok_enter hdo hc hdst hd (fun τ a w F m hag hR => ⟨ops.toList.map a.eval, ?_, args_fz hds (opds_fz hR ha hag)⟩)
  have hc := run_callFunc (P := P) hf (ops.map a.eval) w
  have e1 : (ops.toList.map a.eval).toArray = ops.map a.eval := by
    apply Array.ext'
    simp
  rw [e1]
  simp [execOp, ho, resolve, Act.eval, Deferred.ofValue, invoke]
  exact hc

theorem in_cal {d f : Nat} {x : Operand} {X : Opd} {xs : List Opd} {ops : Array Operand} {ts : Array TypeId} (ho : o.op = .call { callee := .value x, args := ops, argTypes := ts }) (hx : opd x = some X) (ha : ops.toList.mapM opd = some xs)
    (hdst : o.dst = some d) (hd : d < G.n) {cs : List D} (hv : X.val σ = .fn f cs) (hf : enters P f = true) {H ds H' : List D} {r : D} {R : List Nat} (hdo : Does P f H ds r H') (hc : CallOK σ R H H') (hds : xs.map (Opd.val σ) ++ cs = ds.map (D.ren R)) :
    OpOK P G o (callE (X.rd ++ xs.flatMap Opd.rd) R d) σ (callU R H' d r) := by
  refine ok_enter hdo hc hdst hd (fun τ a w F m hag hR => ?_)
  have hso := opd_fz hR hx (fun t ht => hag t (List.mem_append_left _ ht))
  rw [hv] at hso
  have hex : ∃ us : List Value, a.eval x = .func (.func f) #[] us.toArray ∧ us.length = cs.length ∧ ∀ (i : Nat) (d : D) (u : Value), cs[i]? = some d → us[i]? = some u → Fz w F m d u := by
    generalize a.eval x = y at hso
    cases hso with
    | fn _ f cs us hl hr => exact ⟨us, rfl, hl, hr⟩
  obtain ⟨us, hxe, hl, hr⟩ := hex
  obtain ⟨h1, h2⟩ := opds_fz hR ha (fun t ht => hag t (List.mem_append_right _ ht))
  refine ⟨ops.toList.map a.eval ++ us, ?_, args_fz hds ⟨by rw [List.length_append, List.length_append, h1, hl], fun i d u hd hu => ?_⟩⟩
  · have hc := run_callFunc (P := P) hf (ops.map a.eval ++ us.toArray) w
    have e1 : (ops.toList.map a.eval ++ us).toArray = ops.map a.eval ++ us.toArray := by
      apply Array.ext'
      simp
    rw [e1]
    simp [execOp, ho, resolve, hxe, Deferred.ofValue, invoke]
    exact hc
  · by_cases hi : i < (xs.map (Opd.val σ)).length
    · rw [List.getElem?_append_left hi] at hd
      rw [List.getElem?_append_left (by rw [h1]; exact hi)] at hu
      exact h2 i d u hd hu
    · rw [List.getElem?_append_right (by omega)] at hd
      rw [List.getElem?_append_right (by rw [h1]; omega), h1] at hu
      exact hr _ d u hd hu

theorem run_method {t f : Nat} {name : String} (h : methOf P t name = some f) (v : Value) (w : World) (n : Nat) : (method (n + 1) t v name).run P w = .ok (f, v) w ∧ enters P f = true := by
  unfold methOf at h
  split at h
  · rename_i i hi
    split at h
    · rename_i m hm
      split at h
      · rename_i f' hp hf
        split at h
        · cases h
        · cases h
        · rename_i u hn1 hn2
          split at h
          · rename_i hen
            obtain rfl : f' = f := by simpa using h
            refine ⟨?_, hen⟩
            cases hu : P.underlying t with
            | none => exact absurd hu hn2
            | some td =>
              have hr : ∀ wr, (receiverAt t (.val v) false wr).run P w = .ok v w := by
                intro wr
                cases td <;> first
                  | (exfalso; exact hn1 _ hu)
                  | simp [receiverAt, run_underlying hu, Place.get]
              simp [method, typeInfo, hi, hm, hp, follow, hf, hr]
          · cases h
      · cases h
    · cases h
  · cases h


theorem in_inv {d f t : Nat} {x : Operand} {X : Opd} {name : String} {xs : List Opd} {ops : Array Operand} {ts : Array TypeId} (ho : o.op = .call { callee := .invoke x name, args := ops, argTypes := ts }) (hx : opd x = some X) (ha : ops.toList.mapM opd = some xs)
    (hdst : o.dst = some d) (hd : d < G.n) {e : D} (hv : X.val σ = .ifc t e) (hm : methOf P t name = some f) {H ds H' : List D} {r : D} {R : List Nat} (hdo : Does P f H ds r H') (hc : CallOK σ R H H') (hds : e :: xs.map (Opd.val σ) = ds.map (D.ren R)) :
    OpOK P G o (callE (X.rd ++ xs.flatMap Opd.rd) R d) σ (callU R H' d r) := by
  refine ok_enter hdo hc hdst hd (fun τ a w F m hag hR => ?_)
  have hso := opd_fz hR hx (fun t ht => hag t (List.mem_append_left _ ht))
  rw [hv] at hso
  have hex : ∃ v : Value, a.eval x = .iface t v ∧ Fz w F m e v := by
    generalize a.eval x = y at hso
    cases hso with
    | ifc _ t e v hv => exact ⟨v, rfl, hv⟩
  obtain ⟨v, hxe, hve⟩ := hex
  obtain ⟨g1, g2⟩ := opds_fz hR ha (fun t ht => hag t (List.mem_append_right _ ht))
  refine ⟨v :: ops.toList.map a.eval, ?_, args_fz hds ⟨by rw [List.length_cons, List.length_cons, g1], fun i d u hd hu => ?_⟩⟩
  · have hfu : P.types.size + Made.depth = (P.types.size + 99) + 1 := rfl
    obtain ⟨h1, h2⟩ := run_method (P := P) hm v w (P.types.size + 99)
    have hc := run_callFunc (P := P) h2 (#[v] ++ ops.map a.eval) w
    have e1 : (v :: ops.toList.map a.eval).toArray = #[v] ++ ops.map a.eval := by
      apply Array.ext'
      simp
    have e2 : (#[Value.iface t v] ++ ops.map a.eval).extract 1 (ops.size + 1) = ops.map a.eval := by
      apply Array.ext'
      simp [List.take_of_length_le]
    rw [e1]
    simp only [execOp, ho, resolve, Sem.run_bind, Sem.run_pure, Result.andThen_ok, invoke, hxe]
    have e3 : (#[Value.iface t v] ++ ops.map a.eval)[0]? = some (.iface t v) := by rw [Array.getElem?_append_left (by simp)]; rfl
    rw [e3]
    have e4 : (#[Value.iface t v] ++ ops.map a.eval).size = ops.size + 1 := by rw [Array.size_append, Array.size_map]; exact Nat.add_comm _ _
    rw [e4, e2]
    simp only [callMethod, Sem.run_bind, run_program, Result.andThen_ok, hfu, h1, hc]
  · cases i with
    | zero =>
      obtain rfl : e = d := by simpa using hd
      obtain rfl : v = u := by simpa using hu
      exact hve
    | succ i => exact g2 i d u (by simpa using hd) (by simpa using hu)

end
end Go.Proofs.Ytimpofjjndbofaa

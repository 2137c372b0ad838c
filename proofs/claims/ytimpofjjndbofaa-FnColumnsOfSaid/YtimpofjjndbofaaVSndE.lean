/-
  Instructions on plain data, the fifth part: equality of structs; calls. No condition.
-/
import Derived.Test.YtimpofjjndbofaaVSndD
namespace Go.Proofs.Ytimpofjjndbofaa
open Go.RowKit

section
variable {P : Program} {G : Ctx} {o : Oper} {σ τ : Env} {a : Act} {w : World} {F : Cells} {m : Names}

theorem eqOk_int {ks : List Bool} {xs ys : List D} (h : eqOk (true :: ks) xs ys) : ∃ k a b xs' ys', xs = .v (.int k a) :: xs' ∧ ys = .v (.int k b) :: ys' ∧ eqOk ks xs' ys' ∧ eqB (true :: ks) xs ys = (a == b && eqB ks xs' ys') := by
  cases xs with
  | nil => exact h.elim
  | cons x xs =>
    cases x with
    | v x =>
      cases x with
      | int k a =>
        cases ys with
        | nil => exact h.elim
        | cons y ys =>
          cases y with
          | v y =>
            cases y with
            | int k' b =>
              obtain ⟨rfl, h⟩ := h
              exact ⟨k, a, b, xs, ys, rfl, rfl, h, rfl⟩
            | _ => exact h.elim
          | _ => exact h.elim
      | _ => exact h.elim
    | _ => exact h.elim
theorem eqOk_bool {ks : List Bool} {xs ys : List D} (h : eqOk (false :: ks) xs ys) : ∃ a b xs' ys', xs = .v (.bool a) :: xs' ∧ ys = .v (.bool b) :: ys' ∧ eqOk ks xs' ys' ∧ eqB (false :: ks) xs ys = (a == b && eqB ks xs' ys') := by
  cases xs with
  | nil => exact h.elim
  | cons x xs =>
    cases x with
    | v x =>
      cases x with
      | bool a =>
        cases ys with
        | nil => exact h.elim
        | cons y ys =>
          cases y with
          | v y =>
            cases y with
            | bool b => exact ⟨a, b, xs, ys, rfl, rfl, h, rfl⟩
            | _ => exact h.elim
          | _ => exact h.elim
      | _ => exact h.elim
    | _ => exact h.elim

theorem eqB_run (c : Nat) (w : World) (us vs : Array Value) : ∀ (fs : List Field) (ks : List Bool) (xs ys : List D) (k : Nat), scalars P k fs = some ks → eqOk ks xs ys →
    (∀ (i : Nat) (x : Value), xs[i]? = some (.v x) → us[k + i]? = some x) → (∀ (i : Nat) (x : Value), ys[i]? = some (.v x) → vs[k + i]? = some x) → (Op.eqFields (c + 1) us vs fs).run P w = .ok (eqB ks xs ys) w
  | [], ks, xs, ys, k, hs, he, _, _ => by
    obtain rfl : [] = ks := by simpa [scalars] using hs
    cases xs with
    | nil => cases ys with
      | nil => rfl
      | cons y ys => exact he.elim
    | cons x xs => exact he.elim
  | f :: fs, ks, xs, ys, k, hs, he, hu, hv => by
    rw [scalars] at hs
    split at hs
    case isFalse => cases hs
    rename_i hno
    rw [Bool.and_eq_true] at hno
    have hname : f.name ≠ "_" := by simpa using hno.1
    have hoff : f.offset = k := by simpa using hno.2
    have main : ∀ (td : TypeDesc) (ks' : List Bool) (x y : Value) (xs' ys' : List D) (q : Bool), P.underlying f.type = some td → (td matches .int _ | .bool) = true → scalars P (k + 1) fs = some ks' → xs = .v x :: xs' → ys = .v y :: ys' →
        (Op.equalIn (c + 1) f.type x y).run P w = .ok q w → eqOk ks' xs' ys' → eqB ks xs ys = (q && eqB ks' xs' ys') → (Op.eqFields (c + 1) us vs (f :: fs)).run P w = .ok (eqB ks xs ys) w := by
      intro td ks' x y xs' ys' q ht hm hs' hxs hys hq he' hr
      rw [hr]
      subst hxs hys
      have hux := hu 0 x rfl
      have hvy := hv 0 y rfl
      rw [Nat.add_zero] at hux hvy
      have h1 : (isAgg f.type).run P w = .ok false w := by
        cases td <;> first | (simp [isAgg, run_underlying ht]; done) | (simp at hm; done)
      have h2 := eqB_run c w us vs fs ks' xs' ys' (k + 1) hs' he' (fun i x hx => by have := hu (i + 1) x (by simpa using hx); rwa [show k + (i + 1) = k + 1 + i by omega] at this)
        (fun i x hx => by have := hv (i + 1) x (by simpa using hx); rwa [show k + (i + 1) = k + 1 + i by omega] at this)
      cases q <;> simp [Op.eqFields, hname, part, h1, hoff, hux, hvy, hq, h2]
    split at hs
    · rename_i q ht
      cases hks : scalars P (k + 1) fs with
      | none => rw [hks] at hs; cases hs
      | some ks' =>
        rw [hks] at hs
        obtain rfl : true :: ks' = ks := by simpa using hs
        obtain ⟨p, a, b, xs', ys', hxs, hys, he', hr⟩ := eqOk_int he
        exact main _ ks' _ _ xs' ys' (a == b) ht rfl hks hxs hys (run_equalIn_int (P := P) w c f.type p q a b ht) he' hr
    · rename_i ht
      cases hks : scalars P (k + 1) fs with
      | none => rw [hks] at hs; cases hs
      | some ks' =>
        rw [hks] at hs
        obtain rfl : false :: ks' = ks := by simpa using hs
        obtain ⟨a, b, xs', ys', hxs, hys, he', hr⟩ := eqOk_bool he
        exact main _ ks' _ _ xs' ys' (a == b) ht rfl hks hxs hys (run_equalIn_bool' (P := P) w c f.type a b ht) he' hr
    · cases hs

theorem CellsOK.v_at {cs : List D} {us : List Value} (h : CellsOK w F m cs us) (i : Nat) (x : Value) (hi : cs[i]? = some (.v x)) : us.toArray[0 + i]? = some x := by
  have hl : i < us.length := by rw [h.len]; exact (List.getElem?_eq_some_iff.1 hi).1
  have := h.fz i _ us[i] hi (List.getElem?_eq_getElem hl)
  rw [Nat.zero_add, List.getElem?_toArray, List.getElem?_eq_getElem hl]
  congr 1
  exact this.v_eq

theorem in_eqs {d T T' : Nat} {neg : Bool} {ks : List Bool} {x y : Operand} {X Y : Opd} (ho : o.op = .binOp (if neg then .neq else .eql) T x y T') (hT : flatType P T = some ks) (hx : opd x = some X) (hy : opd y = some Y) (hdst : o.dst = some d) (hd : d < G.n)
    (h : In.ok σ (.eqs d neg ks X Y)) : OpOK P G o (In.ent σ (.eqs d neg ks X Y)) σ (In.upd σ (.eqs d neg ks X Y)) := by
  unfold flatType at hT
  split at hT
  case h_2 => cases hT
  rename_i fields hu
  split at hT
  case isFalse => cases hT
  rename_i hst
  rw [Bool.and_eq_true, Bool.not_eq_true', Bool.not_eq_true'] at hst
  simp only [In.ok] at h
  simp only [In.upd]
  split at h
  · rename_i xs ys hvx hvy
    refine .pure hdst hd (fun τ a w F m hag hR => ⟨_, ?_, .v m _⟩)
    have hsx := opd_fz hR hx (fun t ht => hag t (List.mem_append_left _ ht))
    rw [hvx] at hsx
    obtain ⟨us, hxe, hus⟩ := hsx.aggOf
    have hsy := opd_fz hR hy (fun t ht => hag t (List.mem_append_right _ ht))
    rw [hvy] at hsy
    obtain ⟨vs, hye, hvs⟩ := hsy.aggOf
    have hf : P.fieldsOf T = fields := by simp [Program.fieldsOf, hu]
    have h1 := eqB_run (P := P) 9998 w us.toArray vs.toArray fields.toList ks xs ys 0 hT h hus.v_at hvs.v_at
    have h2 := run_equalIn_struct (P := P) w 9999 T us.toArray vs.toArray (by rw [hf, hu]) hst.1
    rw [hf, h1] at h2
    have hg : ∀ op : BinOp, (eqGuard op T x y (.agg us.toArray) (.agg vs.toArray)).run P w = .ok () w := fun op => run_eqGuard_agg (P := P) w op T x y _ _ hst.2
    cases neg with
    | false => simp [execOp, ho, hxe, hye, hg, run_eql_struct, h2]
    | true => simp [execOp, ho, hxe, hye, hg, run_neq_struct, h2]
  · exact h.elim

/-- What a call writes: the blocks that it was handed, new ones, its result. -/
def callU (R : List Nat) (H' : List D) (d : Nat) (r : D) : Upd := (R.zip (H'.map (D.ren R))) ++ [(d, r.ren R)]
/-- The names of a call: those handed over, then free ones. -/
structure CallOK (σ : Env) (R : List Nat) (H H' : List D) : Prop where
  len : R.length = H'.length
  le : H.length ≤ H'.length
  nd : R.Nodup
  ge : ∀ g, g ∈ R → nb ≤ g
  old : ∀ (i : Nat) (d : D) (g : Nat), H[i]? = some d → R[i]? = some g → d.isBlk = true ∧ σ g = d.ren R
  new : ∀ (i g : Nat), H.length ≤ i → R[i]? = some g → σ g = .free

theorem isBlk_ren (R : List Nat) (d : D) : (d.ren R).isBlk = d.isBlk := by
  cases d <;> rw [D.ren] <;> first | rfl | (split <;> rfl)
theorem flat_renL (R : List Nat) (es : List D) : D.flat (D.renL R es) = D.renL R (D.flat es) := by
  have hc : ∀ e : D, (e.ren R).cells = D.renL R e.cells := by
    intro e
    cases e with
    | ref g o => rw [D.ren]; simp only [D.renL, D.ren, show (D.ref g o).cells = [D.ref g o] from rfl]; cases nameOf R g <;> rfl
    | own g s n => rw [D.ren]; simp only [D.renL, D.ren, show (D.own g s n).cells = [D.own g s n] from rfl]; cases nameOf R g <;> rfl
    | eref g s i o => rw [D.ren]; simp only [D.renL, D.ren, show (D.eref g s i o).cells = [D.eref g s i o] from rfl]; cases nameOf R g <;> rfl
    | _ => rw [D.ren]; rfl
  rw [D.renL_map, D.renL_map, D.flat, D.flat, List.flatMap_map, List.map_flatMap]
  congr 1
  funext e
  rw [hc, D.renL_map]
theorem cells_ren (R : List Nat) (e : D) : (e.ren R).cells = D.renL R e.cells := by
  have := flat_renL R [e]
  simpa [D.flat, D.renL] using this

theorem CellsOK.unren {cs : List D} {us : List Value} {R : List Nat} {m' : Names} (h : CellsOK w F m (D.renL R cs) us) (hm : ∀ g g', nameOf R g = some g' → m' g = m g') : CellsOK w F m' cs us := by
  refine ⟨by rw [h.len, D.renL_map, List.length_map], h.one, fun j d u hd hu => (h.fz j (d.ren R) u (by rw [D.renL_map, List.getElem?_map, hd]; rfl) hu).unren hm rfl⟩
theorem CellsOK.ren {cs : List D} {us : List Value} {R : List Nat} {m' : Names} (h : CellsOK w F m cs us) (hm : ∀ g p, m g = some p → ∃ g', nameOf R g = some g' ∧ m' g' = some p) : CellsOK w F m' (D.renL R cs) us := by
  refine ⟨by rw [h.len, D.renL_map, List.length_map], h.one, fun j d u hd hu => ?_⟩
  rw [D.renL_map, List.getElem?_map] at hd
  cases hc : cs[j]? with
  | none => rw [hc] at hd; cases hd
  | some e =>
    rw [hc] at hd
    obtain rfl : e.ren R = d := by simpa using hd
    exact (h.fz j e u hc hu).ren hm

theorem Blk.unren {d : D} {R : List Nat} {g g' : Nat} {m' : Names} (hb : d.isBlk = true) (h : Blk w F m g' (d.ren R)) (hm : ∀ g g', nameOf R g = some g' → m' g = m g') (hg : m' g = m g') : Blk w F m' g d := by
  cases d with
  | obj cs =>
    rw [D.ren] at h
    obtain ⟨b, cur, U, h1, h2, h3, h4⟩ := h
    exact ⟨b, cur, U, hg.trans h1, h2, h3.unren hm, h4⟩
  | row s es =>
    rw [D.ren] at h
    rcases h with ⟨h1, h2⟩ | ⟨b, cur, U, h1, h2, h3, h4, h5, h6, h7⟩
    · left
      rw [D.renL_map] at h1
      exact ⟨by simpa using h1, hg.trans h2⟩
    · have hl : (D.renL R es).length = es.length := by rw [D.renL_map, List.length_map]
      right
      rw [hl, flat_renL] at h6
      rw [hl] at h5
      refine ⟨b, cur, U, hg.trans h1, h2, h3, fun e he => ?_, h5, h6.unren hm, h7⟩
      have := h4 (e.ren R) (by rw [D.renL_map]; exact List.mem_map_of_mem he)
      rwa [cells_ren, D.renL_map, List.length_map] at this
  | _ => cases hb
theorem Blk.ren {d : D} {R : List Nat} {g g' : Nat} {m' : Names} (hf : d ≠ .free) (h : Blk w F m g d) (hm : ∀ g p, m g = some p → ∃ g', nameOf R g = some g' ∧ m' g' = some p) (hg : ∀ p, m g = some p → m' g' = some p) : Blk w F m' g' (d.ren R) := by
  cases d with
  | obj cs =>
    obtain ⟨b, cur, U, h1, h2, h3, h4⟩ := h
    rw [D.ren]
    exact ⟨b, cur, U, hg _ h1, h2, h3.ren hm, h4⟩
  | row s es =>
    have hl : (D.renL R es).length = es.length := by rw [D.renL_map, List.length_map]
    rw [D.ren]
    rcases h with ⟨h1, h2⟩ | ⟨b, cur, U, h1, h2, h3, h4, h5, h6, h7⟩
    · exact .inl ⟨by rw [h1]; rfl, hg _ h2⟩
    · refine .inr ⟨b, cur, U, hg _ h1, h2, h3, fun e he => ?_, by rw [hl]; exact h5, by rw [hl, flat_renL]; exact h6.ren hm, h7⟩
      rw [D.renL_map] at he
      obtain ⟨e', he', rfl⟩ := List.mem_map.1 he
      rw [cells_ren, D.renL_map, List.length_map]
      exact h4 e' he'
  | free => exact absurd rfl hf
  | any => trivial
  | _ => exact h.elim

theorem nameOf_some {R : List Nat} {g g' : Nat} (h : nameOf R g = some g') : nb ≤ g ∧ R[g - nb]? = some g' := by
  unfold nameOf at h
  split at h
  · cases h
  · exact ⟨by omega, h⟩
theorem nameOf_at {R : List Nat} (i : Nat) : nameOf R (nb + i) = R[i]? := by
  unfold nameOf
  rw [if_neg (by omega), Nat.add_sub_cancel_left]

theorem zip_mem {R : List Nat} {xs : List D} {p : Nat × D} (h : p ∈ R.zip xs) : ∃ i : Nat, R[i]? = some p.1 ∧ xs[i]? = some p.2 := by
  obtain ⟨i, hi⟩ := List.mem_iff_getElem?.1 h
  rw [List.getElem?_zip_eq_some] at hi
  exact ⟨i, hi.1, hi.2⟩
theorem put_zip {R : List Nat} {xs : List D} (hnd : R.Nodup) (hl : R.length = xs.length) (τ : Env) : (∀ (i g : Nat) (x : D), R[i]? = some g → xs[i]? = some x → Env.put (R.zip xs) τ g = x) ∧ ∀ t, t ∉ R → Env.put (R.zip xs) τ t = τ t := by
  induction R generalizing xs τ with
  | nil => exact ⟨fun i g x h => by simp at h, fun t _ => rfl⟩
  | cons g0 R ih =>
    cases xs with
    | nil => simp at hl
    | cons x0 xs =>
      rw [List.nodup_cons] at hnd
      obtain ⟨h1, h2⟩ := ih (xs := xs) hnd.2 (by simpa using hl) (τ.set g0 x0)
      refine ⟨fun i g x hg hx => ?_, fun t ht => ?_⟩
      · rw [List.zip_cons_cons, Env.put]
        cases i with
        | zero =>
          obtain rfl : g0 = g := by simpa using hg
          obtain rfl : x0 = x := by simpa using hx
          rw [h2 _ hnd.1, Env.set_same]
        | succ i => exact h1 i g x (by simpa using hg) (by simpa using hx)
      · rw [List.mem_cons, not_or] at ht
        rw [List.zip_cons_cons, Env.put, h2 t ht.2, Env.set_ne _ _ _ _ ht.1]

end
end Go.Proofs.Ytimpofjjndbofaa

/-
  Instructions on plain data, the third part: parts of slices, literals, equality of structs, new memory. No condition.
-/
import Derived.Test.YtimpofjjndbofaaVSndB
namespace Go.Proofs.Ytimpofjjndbofaa
open Go.RowKit

section
variable {P : Program} {G : Ctx} {o : Oper} {σ τ : Env} {a : Act} {w : World} {F : Cells} {m : Names}

/-- A bound of a slice expression. -/
inductive Bound : Option Operand → Option Opd → Prop where
  | none : Bound none none
  | some (x : Operand) (X : Opd) (hx : opd x = some X) : Bound (some x) (some X)

theorem bound_val {x : Option Operand} {X : Option Opd} (hb : Bound x X) {k : Nat} (h : boundOk σ X) (hag : ∀ t, t ∈ optRd X → τ t = σ t) (hR : RelF G τ a.tmps w F m) :
    (x.map a.eval = none ∧ boundD σ X k = k) ∨ ∃ j, x.map a.eval = some (.int j (boundD σ X k)) := by
  cases hb with
  | none => exact .inl ⟨rfl, rfl⟩
  | some x X hx =>
    obtain ⟨j, hn⟩ := int_val h
    exact .inr ⟨j, by simp [opd_v hR hx hag hn, boundD]⟩

theorem run_bounds (isSlice : Bool) {len cap : Nat} {lo hi : Option Value} {l h : Int} (hl : (lo = none ∧ l = 0) ∨ ∃ k, lo = some (.int k l)) (hh : (hi = none ∧ h = len) ∨ ∃ k, hi = some (.int k h)) (h0 : 0 ≤ l) (hlh : l ≤ h) (hhl : h ≤ len) (hlc : len ≤ cap) (w : World) :
    (Instr.sliceBounds isSlice len cap lo hi none).run P w = .ok (l.toNat, h.toNat, cap) w := by
  have hbh : ∀ (k : IntKind) (code : BoundsCode), (Instr.sliceBound (.int k h) cap code).run P w = .ok h.toNat w := by
    intro k code
    have : 0 ≤ h ∧ h ≤ (cap : Int) := ⟨by omega, by omega⟩
    simp [Instr.sliceBound, asIntOf, this]
  have hbl : ∀ (k : IntKind) (code : BoundsCode) (m : Nat), l ≤ m → (Instr.sliceBound (.int k l) m code).run P w = .ok l.toNat w := by
    intro k code m hm
    have : 0 ≤ l ∧ l ≤ (m : Int) := ⟨h0, hm⟩
    simp [Instr.sliceBound, asIntOf, this]
  rcases hl with ⟨rfl, rfl⟩ | ⟨k, rfl⟩ <;> rcases hh with ⟨rfl, rfl⟩ | ⟨k', rfl⟩
  · simp [Instr.sliceBounds]
  · simp [Instr.sliceBounds, hbh k']
  · simp [Instr.sliceBounds, hbl k _ len (by omega)]
  · simp [Instr.sliceBounds, hbh k', hbl k _ h.toNat (by omega)]

theorem part_cells {s : Nat} {es : List D} {us : List Value} (hs : 0 < s) (hlen : ∀ (e : D), e ∈ es → e.cells.length = s) (hc : CellsOK w F m (D.flat es) us) (l h : Nat) (hlh : l ≤ h) (hhl : h ≤ es.length) :
    (∀ (e : D), e ∈ (es.take h).drop l → e.cells.length = s) ∧ ((es.take h).drop l).length = h - l ∧ CellsOK w F m (D.flat ((es.take h).drop l)) ((us.drop (l * s)).take ((h - l) * s)) := by
  have hlp : ∀ (e : D), e ∈ (es.take h).drop l → e.cells.length = s := fun e he => hlen e (List.mem_of_mem_take (List.mem_of_mem_drop he))
  have hpl : ((es.take h).drop l).length = h - l := by rw [List.length_drop, List.length_take, Nat.min_eq_left hhl]
  have hfl : ∀ k, k < (h - l) * s → (D.flat ((es.take h).drop l))[k]? = (D.flat es)[l * s + k]? := by
    intro k hk
    have hq : k / s < h - l := Nat.div_lt_of_lt_mul (by rw [Nat.mul_comm]; exact hk)
    have h1 := flat_get hlp (k / s) (k % s) (Nat.mod_lt _ hs)
    have h2 := flat_get hlen (l + k / s) (k % s) (Nat.mod_lt _ hs)
    rw [Nat.div_add_mod' k s] at h1
    rw [Nat.add_mul, Nat.add_assoc, Nat.div_add_mod' k s] at h2
    rw [h1, h2, List.getElem?_drop, List.getElem?_take, if_pos (by omega)]
  have hus : us.length = es.length * s := by rw [hc.len, flat_len hlen]
  have hle : l * s + (h - l) * s ≤ es.length * s := by rw [← Nat.add_mul]; exact Nat.mul_le_mul_right _ (by omega)
  have hsl : ((us.drop (l * s)).take ((h - l) * s)).length = (h - l) * s := by rw [List.length_take, List.length_drop, hus]; omega
  refine ⟨hlp, hpl, by rw [hsl, flat_len hlp, hpl], fun u hu' => hc.one u (List.mem_of_mem_drop (List.mem_of_mem_take hu')), fun j d u hd hu' => ?_⟩
  have hj : j < (h - l) * s := by rw [← hsl]; exact (List.getElem?_eq_some_iff.1 hu').1
  rw [List.getElem?_take, if_pos hj, List.getElem?_drop] at hu'
  rw [hfl j hj] at hd
  exact hc.fz _ d u hd hu'

theorem in_slc {d T e st : Nat} {sz : Option Nat} {x : Operand} {lo hi : Option Operand} {X : Opd} {L H : Option Opd} (ho : o.op = .slice T x lo hi none) (hT : P.underlying T = some (.slice e)) (hsz : szOf P e = some sz) (hst : sz.getD 1 = st) (hx : opd x = some X)
    (hL : Bound lo L) (hH : Bound hi H) (hdst : o.dst = some d) (hd : d < G.n) (h : In.ok σ (.slc d X L H st)) : OpOK P G o (In.ent σ (.slc d X L H st)) σ (In.upd σ (.slc d X L H st)) := by
  simp only [In.ok] at h
  simp only [In.upd]
  obtain ⟨hbl, hbh, h⟩ := h
  have key : ∀ (δ : D), (∀ (a' : Act) (w : World) (F : Cells) (m : Names), Fz w F m (X.val σ) (a'.eval x) → (∀ k, (lo.map a'.eval = none ∧ boundD σ L k = k) ∨ ∃ j, lo.map a'.eval = some (.int j (boundD σ L k))) → (∀ k, (hi.map a'.eval = none ∧ boundD σ H k = k) ∨ ∃ j, hi.map a'.eval = some (.int j (boundD σ H k))) →
      ∃ v, (execOp a'.eval o).run P w = .ok (.value v) w ∧ Fz w F m δ v) → OpOK P G o (In.ent σ (.slc d X L H st)) σ [(d, δ)] := by
    intro δ hk
    refine .pure hdst hd (fun τ a' w F m hag hR => ?_)
    exact hk a' w F m (opd_fz hR hx (fun t ht => hag t (List.mem_append_left _ (List.mem_append_left _ ht)))) (fun k => bound_val hL hbl (fun t ht => hag t (List.mem_append_left _ (List.mem_append_right _ ht))) hR)
      (fun k => bound_val hH hbh (fun t ht => hag t (List.mem_append_right _ ht)) hR)
  have hs := fun w => run_sizeOf' hsz w
  have run : ∀ (a' : Act) (w : World) (q : Option Addr) (len cap : Nat) (l k : Int), a'.eval x = .slice q len cap → (lo.map a'.eval = none ∧ l = 0) ∨ (∃ j, lo.map a'.eval = some (.int j l)) → (hi.map a'.eval = none ∧ k = len) ∨ (∃ j, hi.map a'.eval = some (.int j k)) → 0 ≤ l → l ≤ k → k ≤ len → len ≤ cap →
      (execOp a'.eval o).run P w = .ok (.value (.slice (if cap = l.toNat then q else q.map (·.add (l.toNat * st))) (k.toNat - l.toNat) (cap - l.toNat))) w := by
    intro a' w q len cap l k hxe hl hm h0 hlm hme hlc
    have hrun := run_bounds (P := P) true (cap := cap) hl hm h0 hlm hme hlc w
    rw [← hst]
    simp [execOp, ho, Instr.sliceAt, Instr.slice, run_underlying hT, hxe, hrun, hs]
  cases hv : X.val σ with
  | sl b es =>
    rw [hv] at h
    obtain ⟨ha, h0, hlm, hme⟩ := h
    refine key _ (fun a' w F m hf hl hm => ?_)
    rw [hv] at hf
    obtain ⟨q, cap, hxe, hlc⟩ := hf.lenOf (by trivial)
    have hl := hl 0
    have hm := hm es.length
    generalize boundD σ L 0 = l at h0 hlm hl ⊢
    generalize boundD σ H es.length = k at hlm hme hm ⊢
    refine ⟨_, run a' w q es.length cap l k hxe (by simpa using hl) hm h0 hlm hme hlc, ?_⟩
    have hlen : ((es.take k.toNat).drop l.toNat).length = k.toNat - l.toNat := by rw [List.length_drop, List.length_take, Nat.min_eq_left (by omega)]
    have empty : k.toNat - l.toNat = 0 → ∀ q' c, Fz w F m (.sl b ((es.take k.toNat).drop l.toNat)) (.slice q' (k.toNat - l.toNat) c) := by
      intro h0 q' c
      rw [h0] at hlen ⊢
      rw [List.eq_nil_of_length_eq_zero hlen]
      exact .sl0 m b q' c
    rcases hf.slCells with ⟨rfl, _⟩ | ⟨c, off, cap', us, hxe', hlc', hs0, hel, hus, huc⟩
    · exact empty (by simp at hme; omega) _ _
    · rw [hxe] at hxe'
      obtain ⟨rfl, rfl⟩ : q = some ⟨c, off, none⟩ ∧ cap = cap' := by simpa [lenD] using hxe'
      by_cases hc : cap = l.toNat
      · exact empty (by simp only [lenD] at hlc; omega) _ _
      · rw [if_neg hc, Option.map_some, Addr.add_lit]
        rcases ha with rfl | rfl
        · obtain ⟨h1, h2, h3⟩ := part_cells hs0 hel hus l.toNat k.toNat (by omega) (by omega)
          have := Fz.ofCells (m := m) (b := c) (off := off + l.toNat * b) (cap := cap - l.toNat) hs0 (by rw [h2]; simp only [lenD] at hlc; omega) h1 h3 (fun j v hj => by
            rw [List.getElem?_take] at hj
            split at hj
            · rw [List.getElem?_drop] at hj
              rw [Nat.add_assoc]
              exact huc _ v hj
            · cases hj)
          rw [h2] at this
          exact this
        · simp only [List.length_nil] at hme hlc'
          exact empty (by omega) _ _
  | own g s n =>
    rw [hv] at h
    obtain ⟨hl0, h0, hme⟩ := h
    refine key _ (fun a' w F m hf hl hm => ?_)
    rw [hv] at hf
    have hl := hl 0
    have hm := hm n
    rw [hl0] at hl
    generalize boundD σ H n = k at h0 hme hm ⊢
    generalize hy : a'.eval x = y at hf
    cases hf with
    | own _ _ _ _ b cap cur U hg h00 hle hb hcap =>
      refine ⟨_, run a' w _ n cap 0 k hy (by simpa using hl) hm (Int.le_refl _) h0 hme hle, ?_⟩
      have e1 : (if cap = Int.toNat 0 then some ⟨b, 0, none⟩ else (some (⟨b, 0, none⟩ : Addr)).map (·.add (Int.toNat 0 * st))) = some ⟨b, 0, none⟩ := by split <;> simp [Addr.add_lit]
      rw [e1]
      exact .own m g s _ b _ cur U hg h00 (by simp; omega) hb (by simpa using hcap)
    | own0 _ _ _ q hg =>
      obtain rfl : k = 0 := by omega
      refine ⟨_, run a' w q 0 0 0 0 hy (by simpa using hl) hm (Int.le_refl _) (Int.le_refl _) (Int.le_refl _) (Nat.le_refl _), ?_⟩
      exact .own0 m g s q hg
  | nul =>
    rw [hv] at h
    obtain ⟨hl0, hh0⟩ := h
    refine key _ (fun a' w F m hf hl hm => ?_)
    rw [hv] at hf
    have hl := hl 0
    have hm := hm 0
    rw [hl0] at hl
    rw [hh0] at hm
    generalize hy : a'.eval x = y at hf
    cases hf with
    | nul _ q =>
      refine ⟨_, run a' w q 0 0 0 0 hy (by simpa using hl) (by simpa using hm) (Int.le_refl _) (Int.le_refl _) (Int.le_refl _) (Nat.le_refl _), ?_⟩
      exact .nul m q
  | _ => rw [hv] at h; exact h.elim

theorem in_slcs {d T : Nat} {x : Operand} {lo hi : Option Operand} {X : Opd} {L H : Option Opd} (ho : o.op = .slice T x lo hi none) (hT : P.underlying T = some .string) (hx : opd x = some X)
    (hL : Bound lo L) (hH : Bound hi H) (hdst : o.dst = some d) (hd : d < G.n) (h : In.ok σ (.slcs d X L H)) : OpOK P G o (In.ent σ (.slcs d X L H)) σ (In.upd σ (.slcs d X L H)) := by
  simp only [In.ok] at h
  simp only [In.upd]
  split at h
  · rename_i b hb
    obtain ⟨hbl, hbh, h0, hlm, hme⟩ := h
    refine .pure hdst hd (fun τ a w F m hag hR => ⟨_, ?_, .v m _⟩)
    have hxe := opd_v hR hx (fun t ht => hag t (List.mem_append_left _ (List.mem_append_left _ ht))) hb
    have hl := bound_val hL hbl (k := 0) (fun t ht => hag t (List.mem_append_left _ (List.mem_append_right _ ht))) hR
    have hm := bound_val hH hbh (k := b.size) (fun t ht => hag t (List.mem_append_right _ ht)) hR
    have hrun := run_bounds (P := P) false (cap := b.size) hl hm h0 hlm hme (Nat.le_refl _) w
    simp [execOp, ho, Instr.sliceAt, Instr.slice, run_underlying hT, hxe, hrun]
  · exact h.elim

/-- The zero value's cells, as data. -/
def zsOf (P : Program) (T : TypeId) : Option (List D) :=
  match P.info? T with
  | some i => match i.zero with
    | some z => if z.cells.toList.all (fun x => x.oneCell') then some (z.cells.toList.map constD) else none
    | none => none
  | none => none
theorem zsOf_some {T : TypeId} {zs : List D} (h : zsOf P T = some zs) : ∃ i z, P.info? T = some i ∧ i.zero = some z ∧ (∀ w F m, CellsOK w F m zs z.cells.toList) ∧ D.purL zs = true := by
  unfold zsOf at h
  split at h
  · rename_i i hi
    split at h
    · rename_i z hz
      split at h
      · rename_i h1
        obtain rfl : z.cells.toList.map constD = zs := by simpa using h
        refine ⟨i, z, hi, hz, fun w F m => ⟨by simp, fun u hu => List.all_eq_true.1 h1 u hu, fun j d u hd hu => ?_⟩, D.purL_iff.2 (fun d hd => ?_)⟩
        · rw [List.getElem?_map, hu] at hd
          obtain rfl : constD u = d := by simpa using hd
          exact constD_fz w F m u
        · obtain ⟨x, _, rfl⟩ := List.mem_map.1 hd
          exact constD_pur x
      · cases h
    · cases h
  · cases h

/-- How the parts of a literal are read. -/
inductive Parts (place : Nat → Option (Nat × Nat)) : List (Nat × Operand) → List (Nat × Option Nat × Opd) → Prop where
  | nil : Parts place [] []
  | cons (i off : Nat) (n : Option Nat) (x : Operand) (X : Opd) (l : List (Nat × Operand)) (m : List (Nat × Option Nat × Opd)) (hp : place i = some (off, n.getD 1)) (hx : opd x = some X) (h : Parts place l m) :
      Parts place ((i, x) :: l) ((off, n, X) :: m)

theorem fill_run {place : Nat → Option (Nat × Nat)} (hR : RelF G τ a.tmps w F m) {l : List (Nat × Operand)} {q : List (Nat × Option Nat × Opd)} (hp : Parts place l q) :
    ∀ (cs : List D) (xs : List Value), (∀ t, t ∈ (q.flatMap fun p => p.2.2.rd) → τ t = σ t) → fillOk σ q cs → CellsOK w F m cs xs →
      ∃ ys, Instr.fill place xs.toArray (l.map fun p => (p.1, a.eval p.2)) = some ys.toArray ∧ CellsOK w F m (fillD σ q cs) ys := by
  induction hp with
  | nil => intro cs xs _ _ hc; exact ⟨xs, rfl, hc⟩
  | cons i off n x X l q hpl hx hp ih =>
    intro cs xs hag h hc
    obtain ⟨hok, hle, h1⟩ := h
    have hcv := asC_val (opd_fz hR hx (fun t ht => hag t (by rw [List.flatMap_cons]; exact List.mem_append_left _ ht))) hok
    have hlv := asC_length hok
    have hsz : (a.eval x).cells.size = n.getD 1 := by rw [← hlv, ← hcv.len]; simp
    have hle' : off + (a.eval x).cells.size ≤ xs.toArray.size := by rw [hsz, List.size_toArray, hc.len]; exact hle
    have hset := hc.setAll hcv off (by rw [hlv]; exact hle)
    rw [← setC_all _ _ _ _ hok hle] at hset
    obtain ⟨ys, hf, hy⟩ := ih _ _ (fun t ht => hag t (by rw [List.flatMap_cons]; exact List.mem_append_right _ ht)) h1 hset
    refine ⟨ys, ?_, hy⟩
    rw [List.map_cons, Instr.fill]
    simp only [hpl]
    rw [if_neg (fun hh => by rw [Bool.or_eq_true, decide_eq_true_eq, decide_eq_true_eq] at hh; exact hh.elim (fun h => h hsz) (fun h => absurd hle' (by omega))), fill_set off _ _ hle']
    exact hf

/-- Where a part of a struct or an array lies. -/
def placeOf (P : Program) (T : TypeId) : Option (Nat → Option (Nat × Nat)) :=
  match P.underlying T with
  | some (.struct fields) => match fields.toList.mapM (fun f => (P.info? f.type).map fun i => (f.offset, i.size)) with
    | some places => some fun i => places.toArray[i]?
    | none => none
  | some (.array _ e) => match P.info? e with
    | some ie => some fun i => some (i * ie.size, ie.size)
    | none => none
  | _ => none

theorem built_of {T : TypeId} {place : Nat → Option (Nat × Nat)} (h : placeOf P T = some place) {i : TypeInfo} {z : Value} (hi : P.info? T = some i) (hz : i.zero = some z) (l : List (Nat × Value)) :
    P.built T l = Instr.fill place z.cells l := by
  unfold placeOf at h
  unfold Program.built
  split at h
  · rename_i fields hu
    split at h
    · rename_i places hp
      obtain rfl := Option.some.inj h
      simp only [hi, hu, hz, hp]
    · cases h
  · rename_i m e hu
    split at h
    · rename_i ie hie
      obtain rfl := Option.some.inj h
      simp only [hi, hu, hz, hie]
    · cases h
  · cases h

theorem in_build {d : Nat} {T : TypeId} {zs : List D} {ps : Array (Nat × Operand)} {qs : List (Nat × Option Nat × Opd)} {place : Nat → Option (Nat × Nat)} (ho : o.op = .build T ps) (hz : zsOf P T = some zs) (hpl : placeOf P T = some place)
    (hq : Parts place ps.toList qs) (hdst : o.dst = some d) (hd : d < G.n) (h : In.ok σ (.build d zs qs)) : OpOK P G o (In.ent σ (.build d zs qs)) σ (In.upd σ (.build d zs qs)) := by
  obtain ⟨i, z, hi, hzz, hzc, _⟩ := zsOf_some hz
  refine .pure hdst hd (fun τ a w F m hag hR => ?_)
  obtain ⟨ys, hf, hy⟩ := fill_run hR hq _ z.cells.toList hag h (hzc w F m)
  refine ⟨.agg ys.toArray, ?_, .agg m _ ys hy.len hy.one hy.fz⟩
  have hb := run_build (P := P) w T (ps.map fun (i, x) => (i, a.eval x)) ys.toArray (by
    rw [built_of hpl hi hzz, ← hf]
    congr 1
    simp)
  simp [execOp, ho, hb]

/-- How the elements of a slice's literal are read. -/
inductive Elems : List (Nat × Operand) → List (Nat × Opd) → Prop where
  | nil : Elems [] []
  | cons (i : Nat) (x : Operand) (X : Opd) (l : List (Nat × Operand)) (m : List (Nat × Opd)) (hx : opd x = some X) (h : Elems l m) : Elems ((i, x) :: l) ((i, X) :: m)

theorem asC_cells {d : D} {n : Option Nat} (h : D.asCok d n) : d.cells = D.asC d n := by
  cases n with
  | none =>
    have h : d.one = true := h
    cases d <;> first | rfl | cases h
  | some n =>
    cases d with
    | agg us => rfl
    | _ => exact h.elim

theorem elems_run (hR : RelF G τ a.tmps w F m) {n : Option Nat} {l : List (Nat × Operand)} {q : List (Nat × Opd)} (hp : Elems l q) :
    ∀ (es : List D) (xs : List Value), (∀ t, t ∈ (q.flatMap fun p => p.2.rd) → τ t = σ t) → (∀ (e : D), e ∈ es → e.cells.length = n.getD 1) → elemsOk σ n q es → CellsOK w F m (D.flat es) xs →
      ∃ ys, Instr.fill (fun i => some (i * n.getD 1, n.getD 1)) xs.toArray (l.map fun p => (p.1, a.eval p.2)) = some ys.toArray ∧ CellsOK w F m (D.flat (elemsD σ n q es)) ys ∧ (elemsD σ n q es).length = es.length ∧ ∀ (e : D), e ∈ elemsD σ n q es → e.cells.length = n.getD 1 := by
  induction hp with
  | nil => intro es xs _ hlen _ hc; exact ⟨xs, rfl, hc, rfl, hlen⟩
  | cons i x X l q hx hp ih =>
    intro es xs hag hlen h hc
    obtain ⟨hok, hi, h1⟩ := h
    have hcv := asC_val (opd_fz hR hx (fun t ht => hag t (by rw [List.flatMap_cons]; exact List.mem_append_left _ ht))) hok
    have hlv := asC_length hok
    have he : (X.val σ).cells.length = n.getD 1 := by rw [asC_cells hok]; exact hlv
    have hle : i * n.getD 1 + n.getD 1 ≤ (D.flat es).length := by
      rw [flat_len hlen]
      have : (i + 1) * n.getD 1 ≤ es.length * n.getD 1 := Nat.mul_le_mul_right _ hi
      rw [Nat.add_mul] at this
      omega
    have hsz : (a.eval x).cells.size = n.getD 1 := by rw [← hlv, ← hcv.len]; simp
    have hle' : i * n.getD 1 + (a.eval x).cells.size ≤ xs.toArray.size := by have e1 := hc.len; simp only [List.size_toArray]; omega
    have hset := hc.setAll hcv (i * n.getD 1) (by rw [hlv]; exact hle)
    rw [← asC_cells hok, ← flat_set hlen hi he] at hset
    obtain ⟨ys, hf, hy, hl2, hl3⟩ := ih _ _ (fun t ht => hag t (by rw [List.flatMap_cons]; exact List.mem_append_right _ ht)) (fun f hf => by
      rcases List.mem_or_eq_of_mem_set hf with hf | rfl
      · exact hlen f hf
      · exact he) h1 hset
    refine ⟨ys, ?_, hy, by rw [elemsD, hl2, List.length_set], hl3⟩
    rw [List.map_cons, Instr.fill]
    simp only
    rw [if_neg (fun hh => by rw [Bool.or_eq_true, decide_eq_true_eq, decide_eq_true_eq] at hh; exact hh.elim (fun h => h hsz) (fun h => absurd hle' (by omega))), fill_set _ _ _ hle']
    exact hf

/-- The zero value of a type, as an element. -/
def zeroElem (n : Option Nat) (zs : List D) : D :=
  match n with
  | none => zs.headD .any
  | some _ => .agg zs

theorem zero_cells {T : TypeId} {zs : List D} {n : Option Nat} (hz : zsOf P T = some zs) (hn : zs.length = n.getD 1) :
    ∃ i z, P.info? T = some i ∧ i.zero = some z ∧ z.cells.size = n.getD 1 ∧ (zeroElem n zs).cells.length = n.getD 1 ∧ ∀ w F m, CellsOK w F m (zeroElem n zs).cells z.cells.toList := by
  obtain ⟨i, z, hi, hzz, hzc, hpu⟩ := zsOf_some hz
  have hzl : z.cells.toList.length = n.getD 1 := by rw [(hzc default (fun _ _ => False) noNames).len]; exact hn
  have hce : (zeroElem n zs).cells = zs := by
    cases n with
    | some n => rfl
    | none =>
      cases zs with
      | nil => cases hn
      | cons d l =>
        cases l with
        | cons y l => simp at hn
        | nil =>
          have h1 := (hzc default (fun _ _ => False) noNames).one
          have h2 := (hzc default (fun _ _ => False) noNames).fz
          show d.cells = [d]
          cases d with
          | agg cs =>
            exfalso
            cases hl : z.cells.toList with
            | nil => rw [hl] at hzl; cases hzl
            | cons u us =>
              have h3 := h2 0 _ u rfl (by rw [hl]; rfl)
              have h4 := h1 u (by rw [hl]; exact List.mem_cons_self ..)
              cases h3 with
              | agg => simp [Value.oneCell'] at h4
          | _ => rfl
  exact ⟨i, z, hi, hzz, by simpa using hzl, by rw [hce]; exact hn, fun w F m => by rw [hce]; exact hzc w F m⟩

theorem made_cells {e : D} {z : Value} {s : Nat} (h0 : 0 < s) (hzs : z.cells.size = s) (he : e.cells.length = s) (hc : CellsOK w F m e.cells z.cells.toList) (k : Nat) :
    CellsOK w F m (D.flat (List.replicate k e)) ((Array.range (k * s)).map (z.cells[· % z.cells.size]!)).toList := by
  have hlen : ∀ (f : D), f ∈ List.replicate k e → f.cells.length = s := fun f hf => by rw [(List.mem_replicate.1 hf).2]; exact he
  have hget : ∀ j, j < k * s → ((Array.range (k * s)).map (z.cells[· % z.cells.size]!)).toList[j]? = z.cells.toList[j % s]? := by
    intro j hj
    have hks : j % s < z.cells.size := by rw [hzs]; exact Nat.mod_lt _ h0
    rw [Array.getElem?_toList, Array.getElem?_map, Array.getElem?_eq_getElem (by simpa using hj)]
    simp only [Array.getElem_range, Option.map_some, hzs]
    rw [getElem!_pos z.cells (j % s) hks, Array.getElem?_toList, Array.getElem?_eq_getElem hks]
  have hsz : ((Array.range (k * s)).map (z.cells[· % z.cells.size]!)).toList.length = k * s := by simp
  refine ⟨by rw [hsz, flat_len hlen]; simp, fun u hu => ?_, fun j d u hd hu => ?_⟩
  · obtain ⟨j, hj⟩ := List.mem_iff_getElem?.1 hu
    have hj' : j < k * s := by rw [← hsz]; exact (List.getElem?_eq_some_iff.1 hj).1
    rw [hget j hj'] at hj
    exact hc.one u (List.mem_of_getElem? hj)
  · have hj' : j < k * s := by rw [← hsz]; exact (List.getElem?_eq_some_iff.1 hu).1
    rw [hget j hj'] at hu
    have hkm : j / s < k := Nat.div_lt_of_lt_mul (by rw [Nat.mul_comm]; exact hj')
    have h1 := flat_get hlen (j / s) (j % s) (Nat.mod_lt _ h0)
    rw [Nat.div_add_mod' j s, hd, List.getElem?_replicate, if_pos hkm] at h1
    exact hc.fz (j % s) d u h1.symm hu

/-- What a literal of a slice makes. -/
theorem run_bsl {T e k : Nat} {n : Option Nat} {zs : List D} {ps : Array (Nat × Operand)} {qs : List (Nat × Opd)} (ho : o.op = .buildSlice T k ps) (hT : P.underlying T = some (.slice e)) (hsz : szOf P e = some n) (h0 : 0 < n.getD 1)
    (hz : zsOf P e = some zs) (hn : zs.length = n.getD 1) (hm : k * n.getD 1 ≤ 2 ^ 24) (hq : Elems ps.toList qs) (hR : RelF G τ a.tmps w F m) (hag : ∀ t, t ∈ (qs.flatMap fun p => p.2.rd) → τ t = σ t)
    (h : elemsOk σ n qs (List.replicate k (zeroElem n zs))) : ∃ ys : List Value, (execOp a.eval o).run P w = .ok (.value (.slice (some ⟨w.heap.size, 0, none⟩) k k)) (w.alloc (.cells ys.toArray e)) ∧
      CellsOK w F m (D.flat (elemsD σ n qs (List.replicate k (zeroElem n zs)))) ys ∧ (elemsD σ n qs (List.replicate k (zeroElem n zs))).length = k ∧ ∀ (e : D), e ∈ elemsD σ n qs (List.replicate k (zeroElem n zs)) → e.cells.length = n.getD 1 := by
  obtain ⟨i, z, hi, hzz, hzs, hel, hzc⟩ := zero_cells hz hn
  have hmade := made_cells h0 hzs hel (hzc w F m) k
  have hlen : ∀ (f : D), f ∈ List.replicate k (zeroElem n zs) → f.cells.length = n.getD 1 := fun f hf => by rw [(List.mem_replicate.1 hf).2]; exact hel
  obtain ⟨ys, hf, hy, hul, hu1⟩ := elems_run hR hq _ _ hag hlen h hmade
  rw [List.length_replicate] at hul
  refine ⟨ys, ?_, hy, hul, hu1⟩
  have hs := run_sizeOf' hsz w
  have hz1 : (zeroValue e).run P w = .ok z w := by simp [zeroValue, typeInfo, hi, hzz]
  have hnot : ¬ (k * n.getD 1 > 2 ^ 24) := by omega
  have hf' : Instr.fill (fun i => some (i * n.getD 1, n.getD 1)) ((Array.range (k * n.getD 1)).map (z.cells[· % z.cells.size]!)) (ps.map fun x => (x.1, a.eval x.2)).toList = some ys.toArray := by
    rw [← hf]
    congr 1
    simp
  simp only [execOp, ho, Instr.buildSlice]
  rw [Sem.run_bind, Sem.run_bind, run_underlying hT, Result.andThen_ok, Sem.run_bind, hs, Result.andThen_ok, if_neg hnot]
  by_cases hz0 : k * n.getD 1 = 0
  · have e0 : Array.map (fun x => (#[] : Array Value)[x % (#[] : Array Value).size]!) (Array.range (k * n.getD 1)) = (Array.range (k * n.getD 1)).map (z.cells[· % z.cells.size]!) := by rw [hz0]; simp
    simp only [if_pos hz0, Sem.run_bind, Sem.run_pure, Result.andThen_ok, e0, hf', newRow, run_newObj, World.alloc_eq]
  · simp only [if_neg hz0, Sem.run_bind, Sem.run_pure, Result.andThen_ok, hz1, hf', newRow, run_newObj, World.alloc_eq]

/-- A literal whose cells stand still from then on. -/
theorem in_bsl {d T e k : Nat} {n : Option Nat} {zs : List D} {ps : Array (Nat × Operand)} {qs : List (Nat × Opd)} (ho : o.op = .buildSlice T k ps) (hT : P.underlying T = some (.slice e)) (hsz : szOf P e = some n) (h0 : 0 < n.getD 1)
    (hz : zsOf P e = some zs) (hn : zs.length = n.getD 1) (hm : k * n.getD 1 ≤ 2 ^ 24) (hq : Elems ps.toList qs) (hdst : o.dst = some d) (hd : d < G.n) (h : In.ok σ (.bsl d (n.getD 1) n (List.replicate k (zeroElem n zs)) qs)) :
    OpOK P G o (In.ent σ (.bsl d (n.getD 1) n (List.replicate k (zeroElem n zs)) qs)) σ (In.upd σ (.bsl d (n.getD 1) n (List.replicate k (zeroElem n zs)) qs)) := by
  refine .of_run (fun p hp => ?_) (fun τ a w F m hag hR => ?_)
  · obtain rfl := List.mem_singleton.1 hp; exact List.mem_singleton.2 rfl
  · obtain ⟨ys, hrun, hy, hul, hu1⟩ := run_bsl ho hT hsz h0 hz hn hm hq hR hag h.1
    have c := Chg.alloc hR.wf (.cells ys.toArray e) (k * n.getD 1)
    have hR1 : RelF G τ a.tmps (w.alloc (.cells ys.toArray e)) (F.with w.heap.size (k * n.getD 1)) m :=
      ⟨hR.size, hR.nle, fun t ht => (hR.slots t ht).still c, fun g hg => (hR.blks g hg).stable c (fun _ _ h => h) (fun e => by have := hR.blks g hg; rw [e] at this; exact this) (fun _ _ _ => id), hR.inj, Cells.with_wf hR.wf _ _, hR.chg.trans c (fun _ h => h.elim), hR.own, hR.par⟩
    refine ⟨_, _, _, F.with w.heap.size (k * n.getD 1), m, hrun, .inl rfl, ?_⟩
    rw [hdst]
    refine hR1.slot hd ?_
    have hyl : ys.length = k * n.getD 1 := by rw [hy.len, flat_len hu1, hul]
    have hof := Fz.ofCells (w := w.alloc (.cells ys.toArray e)) (F := F.with w.heap.size (k * n.getD 1)) (m := m) (b := w.heap.size) (off := 0) (cap := k) h0 (by rw [hul]; exact Nat.le_refl _) hu1
      ((hy.pure (m' := noNames) (D.purL_iff.2 (fun d hd => by
        obtain ⟨e', he', hd⟩ := List.mem_flatMap.1 hd
        have h1 := D.purL_iff.1 h.2 e' he'
        cases e' with
        | agg cs => exact D.purL_iff.1 h1 d hd
        | _ => obtain rfl := List.mem_singleton.1 hd; exact h1))).stable c (fun _ _ h => h)) (fun j v hj => by
        have hjl : j < k * n.getD 1 := by rw [← hyl]; exact (List.getElem?_eq_some_iff.1 hj).1
        refine ⟨?_, .inr ⟨rfl, by omega⟩⟩
        rw [Nat.zero_add, World.cell?_alloc_at ys.toArray e w.heap.size j rfl, List.getElem?_toArray]
        exact hj)
    rw [hul] at hof
    exact hof

/-- A block of one's own is made, and a slot gets the way to it. -/
theorem RelF.made (hR : RelF G τ a.tmps w F m) {g d : Nat} (hf : freeN τ g) (hd : d < G.n) (ob : Obj) {δ e : D} {v : Value} (hb : ∀ m' : Names, (∀ g p, m g = some p → m' g = some p) → m' g = some (some w.heap.size) → Blk (w.alloc ob) F m' g δ)
    (hv : ∀ m' : Names, m' g = some (some w.heap.size) → Fz (w.alloc ob) F m' e v) : ∃ m', RelF G ((τ.set g δ).set d e) (a.tmps.setIfInBounds d v) (w.alloc ob) F m' := by
  have hmg : m g = none := by have := hR.blks g hf.1; rw [hf.2] at this; exact this
  have h1 := hR.name hf.1 hf.2 (Chg.alloc0 hR.wf ob) (wf_alloc hR.wf _) (some w.heap.size) (hb _ (fun g' p hp => by
      rw [if_neg (fun e => by rw [e, hmg] at hp; cases hp)]
      exact hp) (by simp)) (fun b hb' g' hg' hbl hm => by
      obtain rfl : w.heap.size = b := by simpa using hb'
      have := (hR.blks g' hg').lt hbl hm
      omega) (fun b hb' => by
      obtain rfl : w.heap.size = b := by simpa using hb'
      exact .inr hR.chg.size)
  exact ⟨_, h1.slot hd (hv _ (by simp))⟩

theorem in_alloc {d g : Nat} {T : TypeId} {zs : List D} (ho : o.op = .alloc T) (hz : zsOf P T = some zs) (hdst : o.dst = some d) (hd : d < G.n) (h : In.ok σ (.alloc d g zs)) : OpOK P G o (In.ent σ (.alloc d g zs)) σ (In.upd σ (.alloc d g zs)) := by
  obtain ⟨i, z, hi, hzz, hzc, _⟩ := zsOf_some hz
  refine .of_run (fun p hp => ?_) (fun τ a w F m hag hR => ?_)
  · rcases List.mem_cons.1 hp with rfl | hp
    · exact List.mem_cons_self ..
    · obtain rfl := List.mem_singleton.1 hp; exact List.mem_cons_of_mem _ (List.mem_singleton.2 rfl)
  · have hrun : (execOp a.eval o).run P w = .ok (.value (.pointer (some ⟨w.heap.size, 0, none⟩))) (w.alloc (.cells z.cells T)) := by
      simp [execOp, ho, Instr.alloc, zeroValue, typeInfo, hi, hzz, newVar, newRow]
    have hf : freeN τ g := ⟨h.1, by rw [hag g (List.mem_singleton.2 rfl)]; exact h.2⟩
    have c := Chg.alloc0 hR.wf (.cells z.cells T)
    obtain ⟨m', hR'⟩ := hR.made hf hd (.cells z.cells T) (δ := .obj zs) (e := .ref g 0) (fun m' hm hg => ⟨_, _, _, hg, heap_alloc_new w _, (hzc w F m').stable c (fun _ _ h => h), fun o ho => by have := hR.wf _ _ ho; omega⟩) (fun m' hg => .ref m' g 0 _ hg)
    refine ⟨_, _, _, F, m', hrun, .inl rfl, ?_⟩
    rw [hdst]
    exact hR'

theorem in_box {d g : Nat} {T : TypeId} {x : Operand} {X : Opd} {n : Option Nat} (ho : o.op = .box T x) (hx : opd x = some X) (hdst : o.dst = some d) (hd : d < G.n) (h : In.ok σ (.box d g X n)) : OpOK P G o (In.ent σ (.box d g X n)) σ (In.upd σ (.box d g X n)) := by
  refine .of_run (fun p hp => ?_) (fun τ a w F m hag hR => ?_)
  · rcases List.mem_cons.1 hp with rfl | hp
    · exact List.mem_cons_self ..
    · obtain rfl := List.mem_singleton.1 hp; exact List.mem_cons_of_mem _ (List.mem_singleton.2 rfl)
  · have hrun : (execOp a.eval o).run P w = .ok (.value (.pointer (some ⟨w.heap.size, 0, none⟩))) (w.alloc (.cells (a.eval x).cells T)) := by
      simp [execOp, ho, Instr.box, newVar, newRow]
    have hf : freeN τ g := ⟨h.1.1, by rw [hag g (List.mem_cons_self ..)]; exact h.1.2⟩
    have hc := asC_val (opd_fz hR hx (fun t ht => hag t (List.mem_cons_of_mem _ ht))) h.2
    have c := Chg.alloc0 hR.wf (.cells (a.eval x).cells T)
    obtain ⟨m', hR'⟩ := hR.made hf hd (.cells (a.eval x).cells T) (δ := .obj (D.asC (X.val σ) n)) (e := .ref g 0) (fun m' hm hg => ⟨_, _, _, hg, heap_alloc_new w _, hc.stable c hm, fun o ho => by have := hR.wf _ _ ho; omega⟩) (fun m' hg => .ref m' g 0 _ hg)
    refine ⟨_, _, _, F, m', hrun, .inl rfl, ?_⟩
    rw [hdst]
    exact hR'

/-- A row of one's own is made. -/
theorem RelF.madeRow (hR : RelF G τ a.tmps w F m) {g d s k cap : Nat} (hf : freeN τ g) (hd : d < G.n) {cur : Array Value} {T : TypeId} {es : List D} (h0 : 0 < s) (hk : es.length = k) (hkc : k ≤ cap) (hsz : cap * s ≤ cur.size) (hl : ∀ (e : D), e ∈ es → e.cells.length = s)
    (hc : CellsOK w F m (D.flat es) (cur.toList.take (es.length * s))) : ∃ m', RelF G ((τ.set g (.row s es)).set d (.own g s k)) (a.tmps.setIfInBounds d (.slice (some ⟨w.heap.size, 0, none⟩) k cap)) (w.alloc (.cells cur T)) F m' := by
  have c := Chg.alloc0 hR.wf (.cells cur T)
  exact hR.made hf hd (.cells cur T) (δ := .row s es) (e := .own g s k) (fun m' hm hg => .inr ⟨_, _, _, hg, heap_alloc_new w _, h0, hl, by rw [hk]; exact Nat.le_trans (Nat.mul_le_mul_right _ hkc) hsz, hc.stable c hm, fun o ho => by have := hR.wf _ _ ho; omega⟩)
    (fun m' hg => .own m' g s k _ cap cur T hg h0 hkc (heap_alloc_new w _) hsz)

theorem in_bslx {d g T e k : Nat} {n : Option Nat} {zs : List D} {ps : Array (Nat × Operand)} {qs : List (Nat × Opd)} (ho : o.op = .buildSlice T k ps) (hT : P.underlying T = some (.slice e)) (hsz : szOf P e = some n) (h0 : 0 < n.getD 1)
    (hz : zsOf P e = some zs) (hn : zs.length = n.getD 1) (hm : k * n.getD 1 ≤ 2 ^ 24) (hq : Elems ps.toList qs) (hdst : o.dst = some d) (hd : d < G.n) (h : In.ok σ (.bslx d g (n.getD 1) n (List.replicate k (zeroElem n zs)) qs)) :
    OpOK P G o (In.ent σ (.bslx d g (n.getD 1) n (List.replicate k (zeroElem n zs)) qs)) σ (In.upd σ (.bslx d g (n.getD 1) n (List.replicate k (zeroElem n zs)) qs)) := by
  refine .of_run (fun p hp => ?_) (fun τ a w F m hag hR => ?_)
  · rcases List.mem_cons.1 hp with rfl | hp
    · exact List.mem_cons_self ..
    · obtain rfl := List.mem_singleton.1 hp; exact List.mem_cons_of_mem _ (List.mem_singleton.2 rfl)
  · obtain ⟨ys, hrun, hy, hul, hu1⟩ := run_bsl ho hT hsz h0 hz hn hm hq hR (fun t ht => hag t (List.mem_cons_of_mem _ ht)) h.2
    have hf : freeN τ g := ⟨h.1.1, by rw [hag g (List.mem_cons_self ..)]; exact h.1.2⟩
    have hyl : ys.length = k * n.getD 1 := by rw [hy.len, flat_len hu1, hul]
    obtain ⟨m', hR'⟩ := hR.madeRow (s := n.getD 1) (k := k) (cap := k) (cur := ys.toArray) (T := e) (es := elemsD σ n qs (List.replicate k (zeroElem n zs))) hf hd h0 hul (Nat.le_refl _) (by rw [List.size_toArray, hyl]; exact Nat.le_refl _) hu1
      (by rw [hul, ← hyl]; simpa using hy)
    refine ⟨_, _, _, F, m', hrun, .inl rfl, ?_⟩
    rw [hdst]
    simp only [In.upd, List.length_replicate]
    exact hR'

theorem in_mks {d g T e by_ : Nat} {n : Option Nat} {zs : List D} {i : TypeInfo} {x : Operand} {X : Opd} (ho : o.op = .makeSlice T x x) (hT : P.underlying T = some (.slice e)) (hsz : szOf P e = some n) (h0 : 0 < n.getD 1) (hz : zsOf P e = some zs) (hn : zs.length = n.getD 1)
    (hi : P.info? e = some i) (hby : i.bytes = by_) (hx : opd x = some X) (hdst : o.dst = some d) (hd : d < G.n) (h : In.ok σ (.mks d g X (n.getD 1) by_ (zeroElem n zs))) :
    OpOK P G o (In.ent σ (.mks d g X (n.getD 1) by_ (zeroElem n zs))) σ (In.upd σ (.mks d g X (n.getD 1) by_ (zeroElem n zs))) := by
  obtain ⟨hfr, h1, hm0, hmm, hb⟩ := h
  obtain ⟨k, hm⟩ := int_val h1
  refine .of_run (fun p hp => ?_) (fun τ a w F m' hag hR => ?_)
  · rcases List.mem_cons.1 hp with rfl | hp
    · exact List.mem_cons_self ..
    · obtain rfl := List.mem_singleton.1 hp; exact List.mem_cons_of_mem _ (List.mem_singleton.2 rfl)
  · simp only [In.upd]
    have hxe := opd_v hR hx (fun t ht => hag t (List.mem_cons_of_mem _ ht)) hm
    generalize intD σ X = q at hm0 hmm hb hxe
    obtain ⟨i', z, hi', hzz, hzs, hel, hzc⟩ := zero_cells hz hn
    rw [hi] at hi'
    obtain rfl := Option.some.inj hi'
    obtain ⟨_, i'', _, hi'', hsi, _⟩ := szOf_some hsz
    rw [hi] at hi''
    obtain rfl := Option.some.inj hi''
    have hmt : (q.toNat : Int) = q := by omega
    have hbm : (i.bytes : Int) * q ≤ 281474976710656 := by
      rw [hby, ← hmt]
      have : ((by_ * q.toNat : Nat) : Int) ≤ 1099511627776 := by omega
      rw [Int.natCast_mul] at this
      omega
    have hrun : (execOp a.eval o).run P w = .ok (.value (.slice (some ⟨w.heap.size, 0, none⟩) q.toNat q.toNat)) (w.alloc (.cells (madeCells z.cells (q.toNat * n.getD 1)) e)) := by
      have := run_make (P := P) w T e i z hT hi hzz k k q q hm0 (by omega) hbm (by omega)
      rw [hsi] at this
      simp [execOp, ho, hxe, this]
    have hf : freeN τ g := ⟨hfr.1, by rw [hag g (List.mem_cons_self ..)]; exact hfr.2⟩
    have hlen : ∀ (f : D), f ∈ List.replicate q.toNat (zeroElem n zs) → f.cells.length = n.getD 1 := fun f hf => by rw [(List.mem_replicate.1 hf).2]; exact hel
    have hmade := made_cells h0 hzs hel (hzc w F m') q.toNat
    have hms : (madeCells z.cells (q.toNat * n.getD 1)).toList = ((Array.range (q.toNat * n.getD 1)).map (z.cells[· % z.cells.size]!)).toList := rfl
    rw [← hms] at hmade
    have hml := hmade.len
    rw [flat_len hlen] at hml
    obtain ⟨m1, hR'⟩ := hR.madeRow (s := n.getD 1) (k := q.toNat) (cap := q.toNat) (cur := madeCells z.cells (q.toNat * n.getD 1)) (T := e) (es := List.replicate q.toNat (zeroElem n zs)) hf hd h0 (by simp) (Nat.le_refl _) (by rw [size_madeCells]; exact Nat.le_refl _) hlen
      (by rw [← hml, List.take_length]; exact hmade)
    refine ⟨_, _, _, F, m1, hrun, .inl rfl, ?_⟩
    rw [hdst]
    exact hR'

end
end Go.Proofs.Ytimpofjjndbofaa

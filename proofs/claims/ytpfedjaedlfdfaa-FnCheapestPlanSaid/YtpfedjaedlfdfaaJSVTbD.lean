/-
  The bytes of the laws, opened.
-/
import Derived.Test.YtpfedjaedlfdfaaJSFactsC
import Derived.Test.YtpfedjaedlfdfaaSVStep
namespace Go.Proofs.Ytpfedjaedlfdfaa
open Go.ChangeShapes Go.WideShapes Go.ChangeAt Go.RowKit Go.Joins
open Go.ChangeMaps (open_string shut_string)
/-- What the walk is told of the bytes that came in. -/
def IsRow (k : IntKind) (w : World) (a : Option Addr) (len cap : Nat) (zs : List Int) : Prop :=
  (a = none ∧ len = 0 ∧ cap = 0 ∧ zs = []) ∨
  ∃ x, a = some x ∧ len ≤ cap ∧ cap ≤ maxLen ∧ zs.length = cap ∧ (∀ i, i < zs.length → w.cell? (x.add i) = some (.int k (zs.getD i 0))) ∧ ∀ n ∈ zs, (Lit.int k n).wf = true
section
variable {H : Type} {enc : TypeId × Value → H} {W : World} {base b0 : Nat} {spare : Nat → Bool} {held : Bool} {r : Reach} {v : Value} {d : DataW H} {p : List MemPlace}
set_option maxRecDepth 100000 in
theorem open_code (hv : Value.okWide Try.prog W r b0 22 v) (h : DataW.Trod enc Try.prog W base (fun _ => true) held 22 v d p) :
    ∃ a len cap zs, v = .slice a len cap ∧ IsRow .u8 W a len cap zs := by
  obtain ⟨a0, len0, cap0, rfl⟩ := okWide_slice Try.underlying22 hv
  obtain ⟨fuel, hf⟩ := h
  rcases open_ints Try.underlying22 Try.underlying5 (by kernel_rfl) hf with ⟨hcs, _⟩ | ⟨x, l, c, zs, hcs, _, hl, hm, hz, _, hcell, hwz⟩
  · simp [Value.cells] at hcs
    obtain ⟨rfl, rfl, rfl⟩ := hcs
    exact ⟨_, _, _, [], rfl, .inl ⟨rfl, rfl, rfl, rfl⟩⟩
  · simp [Value.cells] at hcs
    obtain ⟨rfl, rfl, rfl⟩ := hcs
    exact ⟨_, _, _, zs, rfl, .inr ⟨_, rfl, hl, hm, by simpa using hz, hcell, hwz⟩⟩
end
end Go.Proofs.Ytpfedjaedlfdfaa
namespace Go.Proofs.Ytpfedjaedlfdfaa.Facts
open Go
theorem and2 {a b : Bool} (h : a = true) (k : b = true) : (a && b) = true := by rw [h, k]; rfl
theorem p2 : laidOutB Try.prog = true := by kernel_rfl
theorem p3 : mapsRowed Try.prog = true := by kernel_rfl
theorem p7 : (Try.prog.stops == []) = true := by kernel_rfl
theorem p9 : (Try.prog.stopKnobs == []) = true := by kernel_rfl
theorem p22 : (true == Try.prog.plainKeys) = true := by kernel_rfl
theorem p23b : Try.prog.stopsHeard = true := by kernel_rfl
end Go.Proofs.Ytpfedjaedlfdfaa.Facts
namespace Go.Proofs.Ytpfedjaedlfdfaa
open Go.RowKit
attribute [go_sem_proc] Nat.reduceEqDiff Nat.reduceAdd Nat.reduceMul Nat.reduceSub Nat.reduceLT Nat.reduceLeDiff reduceCtorEq Int.reduceToNat
attribute [go_sem_proc ↓] reduceIte
abbrev I (n : Int) : D := .v (.int .i64 n)
abbrev Bo (b : Bool) : D := .v (.bool b)
theorem wrap64 {n : Int} (h0 : -9223372036854775808 ≤ n) (h1 : n ≤ 9223372036854775807) : IntKind.i64.wrap n = n := by
  simp [IntKind.wrap, IntKind.bits, IntKind.signed]
  omega
theorem xor_range {a b : Int} (ha : 0 ≤ a) (ha' : a < 1099511627776) (hb : 0 ≤ b) (hb' : b < 1099511627776) : 0 ≤ intBit .xor .i64 a b := by
  obtain ⟨x, rfl⟩ := Int.eq_ofNat_of_zero_le ha
  obtain ⟨y, rfl⟩ := Int.eq_ofNat_of_zero_le hb
  have hx : (BitVec.ofInt 64 (x : Int) ^^^ BitVec.ofInt 64 (y : Int)).toNat < 2 ^ 40 := by
    rw [BitVec.toNat_xor]
    refine Nat.xor_lt_two_pow ?_ ?_
    · rw [BitVec.toNat_ofInt]; omega
    · rw [BitVec.toNat_ofInt]; omega
  show 0 ≤ IntKind.i64.wrap ((BitVec.ofInt 64 (x : Int) ^^^ BitVec.ofInt 64 (y : Int)).toNat : Int)
  rw [wrap64 (by omega) (by omega)]
  omega
def byteD (b : Nat) : D := .v (.int .u8 b)
/-- Bytes. -/
def bytesD (bs : List Nat) : D := .sl 1 (bs.map byteD)
theorem bytesD_ren (L : List Nat) (bs : List Nat) : (bytesD bs).ren L = bytesD bs := rfl
/-- The reader of a code. -/
def rdD (bs : List Nat) (p : Nat) : D := .obj [bytesD bs, I p]
/-- Bytes of a code, as far as the reader looks. -/
structure Src (bs : List Nat) : Prop where
  byte : ∀ b, b ∈ bs → b < 256
  len : bs.length ≤ 2000
/-- A value. -/
structure V where
  b : Bool
  n : Int
structure V.ok (v : V) : Prop where
  lo : -9999 ≤ v.n
  hi : v.n ≤ 9999
  nul : v.b = true → v.n = 0
/-- A value as data. -/
def vD (v : V) : D := .agg [Bo v.b, I v.n]
def rowD (vs : List V) : D := .sl 2 (vs.map vD)
theorem okV {b : Bool} {n : Int} (h0 : -9999 ≤ n) (h1 : n ≤ 9999) (h2 : b = true → n = 0) : V.ok ⟨b, n⟩ := ⟨h0, h1, h2⟩
theorem cast1 (n : Nat) : ((n + 1 : Nat) : Int) = (n : Int) + 1 := by omega
theorem take_next {α : Type} {vs : List α} {i : Nat} {v : α} (h : vs[i]? = some v) : vs.take (i + 1) = vs.take i ++ [v] := by rw [List.take_add_one, h]; rfl
theorem take_len {α : Type} {vs : List α} {i : Nat} (h : i ≤ vs.length) : (vs.take i).length = i := by rw [List.length_take]; omega
theorem take_map {α β : Type} (f : α → β) {vs : List α} {i : Nat} (h : i ≤ vs.length) : ((vs.take i).map f).take i = (vs.take i).map f := List.take_of_length_le (by rw [List.length_map, List.length_take]; omega)
theorem take_all {α β : Type} (f : α → β) (vs : List α) : (vs.map f).take vs.length = vs.map f := List.take_of_length_le (by rw [List.length_map]; exact Nat.le_refl _)
theorem take_set {α β : Type} (f : α → β) (vs : List α) (j : Nat) (x : β) : ((vs.map f).set j x).take vs.length = (vs.map f).set j x := List.take_of_length_le (by rw [List.length_set, List.length_map]; exact Nat.le_refl _)
/-- An expression. -/
inductive E where
  | mk (k c : Int) (v : V) (ks : List E)
namespace E
def k : E → Int
  | mk k _ _ _ => k
def c : E → Int
  | mk _ c _ _ => c
def v : E → V
  | mk _ _ v _ => v
def ks : E → List E
  | mk _ _ _ ks => ks
end E
mutual
/-- An expression as data. -/
def eD : E → D
  | .mk k c v ks => .agg [I k, I c, Bo v.b, I v.n, .sl 5 (eL ks)]
def eL : List E → List D
  | [] => []
  | e :: l => eD e :: eL l
end
theorem eL_map : ∀ l : List E, eL l = l.map eD
  | [] => by rw [eL]; rfl
  | e :: l => by rw [eL, eL_map l]; rfl
theorem eD_eq (e : E) : eD e = .agg [I e.k, I e.c, Bo e.v.b, I e.v.n, .sl 5 (e.ks.map eD)] := by
  cases e with
  | mk k c v ks => rw [eD, eL_map]; rfl
theorem exprs_pur : ∀ es : List E, D.purL (es.map eD) = true
  | [] => rfl
  | e :: es => by rw [List.map_cons, D.purL, exprs_pur es, eD_eq]; rfl
theorem exprs_ren (L : List Nat) (es : List E) : D.renL L (es.map eD) = es.map eD := ren_pure.renL_pure L _ (exprs_pur es)
theorem E.k_mk (k c : Int) (v : V) (ks : List E) : (E.mk k c v ks).k = k := rfl
theorem E.c_mk (k c : Int) (v : V) (ks : List E) : (E.mk k c v ks).c = c := rfl
theorem E.v_mk (k c : Int) (v : V) (ks : List E) : (E.mk k c v ks).v = v := rfl
theorem E.ks_mk (k c : Int) (v : V) (ks : List E) : (E.mk k c v ks).ks = ks := rfl
theorem vD_ren (L : List Nat) (v : V) : (vD v).ren L = vD v := rfl
theorem rowD_ren (L : List Nat) (vs : List V) : (rowD vs).ren L = rowD vs := rfl
theorem vD_pur (v : V) : (vD v).pur = true := rfl
theorem rowD_pur (vs : List V) : (rowD vs).pur = true := rfl
theorem vals_pur : ∀ vs : List V, D.purL (vs.map vD) = true
  | [] => rfl
  | v :: vs => by rw [List.map_cons, D.purL, vals_pur vs]; rfl
theorem vals_ren (L : List Nat) (vs : List V) : D.renL L (vs.map vD) = vs.map vD := ren_pure.renL_pure L _ (vals_pur vs)
/-- Draws one after the other. -/
theorem draws {α : Type} (S : Nat → α → Nat → Prop) (top K : Nat) (step : ∀ p, p < top → ∃ v q, S p v q ∧ p ≤ q ∧ q ≤ p + K) : ∀ (n p : Nat), p + n * K < top →
    ∃ (vs : List α) (ps : Nat → Nat), vs.length = n ∧ ps 0 = p ∧ (∀ i v, vs[i]? = some v → S (ps i) v (ps (i + 1))) ∧ p ≤ ps n ∧ ps n ≤ p + n * K
  | 0, p, _ => ⟨[], fun _ => p, rfl, rfl, (fun i v h => by simp at h), Nat.le_refl p, Nat.le_add_right p _⟩
  | n + 1, p, hp => by
    have hn : (n + 1) * K = n * K + K := by rw [Nat.add_mul]; omega
    obtain ⟨v, q, hs, h1, h2⟩ := step p (by omega)
    obtain ⟨vs, ps, hl, h0, hss, h3, h4⟩ := draws S top K step n q (by omega)
    refine ⟨v :: vs, fun i => match i with
      | 0 => p
      | i + 1 => ps i, by simp [hl], rfl, fun i x hx => ?_, by show p ≤ ps n; omega, by show ps n ≤ _; omega⟩
    cases i with
    | zero =>
      obtain rfl : v = x := by simpa using hx
      show S p v (ps 0)
      rw [h0]
      exact hs
    | succ i => exact hss i x (by simpa using hx)
attribute [go_sem] rowD_pur eD_eq exprs_pur exprs_ren E.k_mk E.c_mk E.v_mk E.ks_mk Int.add_sub_cancel take_all take_set Nat.le_refl List.length_set List.length_append vD_ren rowD_ren vals_ren vD_pur vals_pur cast1 rdD vD rowD wrap64 bytesD_ren
end Go.Proofs.Ytpfedjaedlfdfaa
namespace Go.Proofs.Ytpfedjaedlfdfaa
open Go.RowKit

/-- An instruction with a slot, and one without, neither guarded. -/
abbrev gi (n : Nat) (i : In) : GI := ⟨i, some n, none, false⟩
abbrev g0 (i : In) : GI := ⟨i, none, none, false⟩
end Go.Proofs.Ytpfedjaedlfdfaa
set_option maxHeartbeats 4000000
set_option maxRecDepth 100000
set_option linter.unusedVariables false
set_option linter.unusedSimpArgs false
namespace Go.Proofs.Ytpfedjaedlfdfaa
open Go.RowKit
/-- A list of numbers as data. -/
def intsD (l : List Int) : D := .sl 1 (l.map I)
theorem ints_pur : ∀ l : List Int, D.purL (l.map I) = true
  | [] => rfl
  | p :: l => by rw [List.map_cons, D.purL, ints_pur l]; rfl
theorem ints_ren (L : List Nat) (l : List Int) : D.renL L (l.map I) = l.map I := ren_pure.renL_pure L _ (ints_pur l)
attribute [go_sem] ints_pur ints_ren intsD
end Go.Proofs.Ytpfedjaedlfdfaa
set_option maxRecDepth 100000
namespace Go.Proofs.Ytpfedjaedlfdfaa
open Go.RowKit
/-- All cells that are there. -/
def allOf (w : World) : Cells := fun b _ => b < w.heap.size
theorem calls_of {P : Program} {f : FuncId} {ds : List D} (h : Does P f [] ds (Bo true) []) (w : World) (xs : List Value) (hl : xs.length = ds.length)
    (hx : ∀ (i : Nat) (d : D) (x : Value), ds[i]? = some d → xs[i]? = some x → Fz w (allOf w) noNames d x) : Calls P f xs.toArray w fun e W' => e = .returned (.bool true) ∧ Below w.heap.size w W' := by
  refine (h w (allOf w) noNames xs hl (Nat.le_refl _) (fun b o h => h) hx (fun i d h => by simp at h) (fun _ _ => rfl) (fun i j b hi => by simp at hi)).mono ?_
  rintro e w' ⟨x, F', m', rfl, c, _, _, _, hx, _⟩
  obtain rfl := hx.v_eq
  exact ⟨rfl, c.os, c.tape, c.output, c.size, fun k hk => c.block k hk (fun ⟨i, hi, _⟩ => by simp at hi)⟩
end Go.Proofs.Ytpfedjaedlfdfaa
namespace Go.Proofs.Ytpfedjaedlfdfaa
open Go.RowKit
noncomputable instance V.okDec (v : V) : Decidable v.ok := Classical.propDecidable _
theorem sub_t {p : Prop} [Decidable p] (h : p) : Sub (Bo true) (Bo (decide p)) := Sub.of_eq (by rw [decide_eq_true h])
theorem sub_f {p : Prop} [Decidable p] (h : ¬ p) : Sub (Bo false) (Bo (decide p)) := Sub.of_eq (by rw [decide_eq_false h])
theorem sub_iff {p : Prop} [Decidable p] {b : Bool} (h : b = true ↔ p) : Sub (Bo b) (Bo (decide p)) := by
  by_cases hp : p
  · rw [h.2 hp]; exact sub_t hp
  · cases b with
    | true => exact absurd (h.1 rfl) hp
    | false => exact sub_f hp
theorem at_or_end {α : Type} {vs : List α} {i : Nat} (h : i ≤ vs.length) : (∃ v, vs[i]? = some v ∧ i < vs.length) ∨ i = vs.length := by
  by_cases hi : i < vs.length
  · exact .inl ⟨vs[i], List.getElem?_eq_getElem hi, hi⟩
  · exact .inr (by omega)
/-- What holds of those before i and of the i-th holds of those before i + 1. -/
theorem upto_next {α : Type} {p : α → Prop} {vs : List α} {i : Nat} {v : α} (hv : vs[i]? = some v) (h : ∀ (j : Nat) (u : α), j < i → vs[j]? = some u → p u) (hp : p v) : ∀ (j : Nat) (u : α), j < i + 1 → vs[j]? = some u → p u := by
  intro j u hj hu
  by_cases e : j = i
  · subst e
    rw [hv] at hu
    obtain rfl : v = u := by simpa using hu
    exact hp
  · exact h j u (by omega) hu
theorem upto_all {α : Type} {p : α → Prop} {vs : List α} (h : ∀ (j : Nat) (u : α), j < vs.length → vs[j]? = some u → p u) : ∀ u, u ∈ vs → p u := by
  intro u hu
  obtain ⟨j, hj⟩ := List.mem_iff_getElem?.1 hu
  exact h j u (List.getElem?_eq_some_iff.1 hj).1 hj
theorem V.ok_iff (v : V) : v.ok ↔ -9999 ≤ v.n ∧ v.n ≤ 9999 ∧ (v.b = true → v.n = 0) := ⟨fun h => ⟨h.lo, h.hi, h.nul⟩, fun h => ⟨h.1, h.2.1, h.2.2⟩⟩
def rowOk (vs : List V) : Prop := (1 ≤ vs.length ∧ vs.length ≤ 6) ∧ ∀ v, v ∈ vs → v.ok
noncomputable instance rowOkDec (vs : List V) : Decidable (rowOk vs) := Classical.propDecidable _
/-- How many kids a kind has. -/
def kidsN (k : Int) : Int := if k = 1 ∨ k = 2 then 0 else if k = 10 ∨ k = 11 then 1 else if 3 ≤ k ∧ k ≤ 9 then 2 else -1
/-- What a node itself bears. -/
def leafOk (k c : Int) (v : V) (w : Int) : Prop := if k = 1 then 0 ≤ c ∧ c ≤ w - 1 ∧ v.b = false ∧ v.n = 0 else if k = 2 then c = 0 ∧ v.ok else c = 0 ∧ v.b = false ∧ v.n = 0
theorem kidsN_le (k : Int) : kidsN k ≤ 2 := by
  unfold kidsN
  split
  · decide
  · split
    · decide
    · split <;> decide
theorem kidsN_leaf {k : Int} (h : k = 1 ∨ k = 2) : kidsN k = 0 := if_pos h
theorem leaf1 {k c w : Int} {v : V} (hk : k = 1) (hc : 0 ≤ c ∧ c ≤ w - 1) : (v.b == false && v.n == 0) = true ↔ leafOk k c v w := by
  unfold leafOk
  rw [if_pos hk, Bool.and_eq_true, beq_iff_eq, beq_iff_eq]
  exact ⟨fun h => ⟨hc.1, hc.2, h.1, h.2⟩, fun h => ⟨h.2.2.1, h.2.2.2⟩⟩
theorem leaf1f {k c w : Int} {v : V} (hk : k = 1) (hc : ¬ (0 ≤ c ∧ c ≤ w - 1)) : ¬ leafOk k c v w := by
  unfold leafOk
  rw [if_pos hk]
  exact fun h => hc ⟨h.1, h.2.1⟩
theorem leaf2 {k c w : Int} {v : V} (hk : k = 2) (hc : c = 0) : v.ok ↔ leafOk k c v w := by
  unfold leafOk
  rw [if_neg (by omega), if_pos hk]
  exact ⟨fun h => ⟨hc, h⟩, fun h => h.2⟩
theorem leaf2f {k c w : Int} {v : V} (h1 : ¬ k = 1) (hc : ¬ c = 0) : ¬ leafOk k c v w := by
  unfold leafOk
  rw [if_neg h1]
  split
  · exact fun h => hc h.1
  · exact fun h => hc h.1
theorem leaf3 {k c w : Int} {v : V} (h1 : ¬ k = 1) (h2 : ¬ k = 2) (hc : c = 0) : (v.b == false && v.n == 0) = true ↔ leafOk k c v w := by
  unfold leafOk
  rw [if_neg h1, if_neg h2, Bool.and_eq_true, beq_iff_eq, beq_iff_eq]
  exact ⟨fun h => ⟨hc, h.1, h.2⟩, fun h => ⟨h.2.1, h.2.2⟩⟩
mutual
def eOk : E → Int → Nat → Prop
  | .mk k c v ks, w, d => (ks.length : Int) = kidsN k ∧ (0 < ks.length → d ≠ 0) ∧ eOkL ks w (d - 1) ∧ leafOk k c v w
def eOkL : List E → Int → Nat → Prop
  | [], _, _ => True
  | e :: l, w, d => eOk e w d ∧ eOkL l w d
end
theorem eOkL_iff : ∀ {l : List E} {w : Int} {d : Nat}, eOkL l w d ↔ ∀ e, e ∈ l → eOk e w d
  | [], w, d => by rw [eOkL]; exact ⟨(fun _ e h => by cases h), fun _ => trivial⟩
  | e :: l, w, d => by
    rw [eOkL, eOkL_iff (l := l)]
    exact ⟨(fun h x hx => by
      rcases List.mem_cons.1 hx with rfl | hx
      · exact h.1
      · exact h.2 x hx), fun h => ⟨h e (List.mem_cons_self ..), fun x hx => h x (List.mem_cons_of_mem _ hx)⟩⟩
theorem eOk_iff (e : E) (w : Int) (d : Nat) : eOk e w d ↔ (e.ks.length : Int) = kidsN e.k ∧ (0 < e.ks.length → d ≠ 0) ∧ (∀ x, x ∈ e.ks → eOk x w (d - 1)) ∧ leafOk e.k e.c e.v w := by
  cases e with
  | mk k c v ks => rw [eOk, eOkL_iff]; rfl
noncomputable instance eOkDec (e : E) (w : Int) (d : Nat) : Decidable (eOk e w d) := Classical.propDecidable _
mutual
theorem E.ind {p : E → Prop} (h : ∀ e : E, (∀ x, x ∈ e.ks → p x) → p e) : ∀ e : E, p e
  | .mk k c v ks => h (.mk k c v ks) (E.indL h ks)
theorem E.indL {p : E → Prop} (h : ∀ e : E, (∀ x, x ∈ e.ks → p x) → p e) : ∀ l : List E, ∀ x, x ∈ l → p x
  | [] => fun _ hx => by cases hx
  | e :: l => fun x hx => (List.mem_cons.1 hx).elim (fun he => he.symm ▸ E.ind h e) (E.indL h l x)
end
/-- Truths: 0, 1, and 2 for unknown. -/
def tr (v : V) : Int := if v.b = true then 2 else if v.n = 0 then 0 else 1
def b2i (b : Bool) : Int := if b then 1 else 0
/-- The value of an expression. -/
def V.zero : V := ⟨false, 0⟩
/-- The kids of a valid expression. -/
theorem eOk_kids {e : E} {w : Int} {d : Nat} (h : eOk e w d) : ((e.k = 1 ∨ e.k = 2) ∧ e.ks = []) ∨ ((e.k = 10 ∨ e.k = 11) ∧ ∃ a, e.ks = [a] ∧ eOk a w (d - 1)) ∨ ((3 ≤ e.k ∧ e.k ≤ 9) ∧ ∃ a b, e.ks = [a, b] ∧ eOk a w (d - 1) ∧ eOk b w (d - 1)) := by
  rw [eOk_iff] at h
  obtain ⟨hn, _, hk, _⟩ := h
  unfold kidsN at hn
  split at hn
  · rename_i h1
    exact .inl ⟨h1, List.length_eq_zero_iff.1 (by omega)⟩
  · split at hn
    · rename_i h1
      obtain ⟨a, ha⟩ := List.length_eq_one_iff.1 (show e.ks.length = 1 by omega)
      exact .inr (.inl ⟨h1, a, ha, hk a (by rw [ha]; exact List.mem_cons_self ..)⟩)
    · split at hn
      · rename_i h1
        obtain ⟨a, b, ha⟩ : ∃ a b, e.ks = [a, b] := by
          match hks : e.ks, (show e.ks.length = 2 by omega) with
          | [a, b], _ => exact ⟨a, b, rfl⟩
        exact .inr (.inr ⟨h1, a, b, ha, hk a (by rw [ha]; exact List.mem_cons_self ..), hk b (by rw [ha]; exact List.mem_cons_of_mem _ (List.mem_cons_self ..))⟩)
      · omega
theorem Sub.sl {s : Nat} {es fs : List D} (hl : es.length = fs.length) (hc : ∀ e, e ∈ fs → e.cells.length = s) (h : SubL (D.flat es) (D.flat fs)) : Sub (.sl s es) (.sl s fs) := fun w F m x hx => by
  obtain ⟨h1, h2⟩ := h.spec
  cases hx with
  | sl0 _ _ a cap =>
    obtain rfl : fs = [] := List.length_eq_zero_iff.1 (by rw [← hl]; rfl)
    exact .sl0 m s a cap
  | sl _ _ _ b off cap u hs hle hlen hu hr =>
    have := Fz.sl (w := w) (F := F) m s fs b off cap u hs (by omega) hc (fun k hk => hu k (by rw [hl]; exact hk)) (fun k d hd => by
      obtain ⟨d', hd', hsub⟩ := h2 k d hd
      exact hsub _ _ _ _ (hr k d' hd'))
    rw [← hl] at this
    exact this
theorem SubL.append : ∀ {a b c d : List D}, SubL a b → SubL c d → SubL (a ++ c) (b ++ d)
  | [], [], _, _, _, h => h
  | [], _ :: _, _, _, h, _ => h.elim
  | _ :: _, [], _, _, h, _ => h.elim
  | _ :: _, _ :: _, _, _, h, h1 => ⟨h.1, SubL.append h.2 h1⟩
end Go.Proofs.Ytpfedjaedlfdfaa
namespace Go.Proofs.Ytpfedjaedlfdfaa
open Go.RowKit
section
variable {P : Program} {G : Ctx} {σ τ : Env} {a : Act} {w : World}
def frzU2 (σ : Env) (t u g s : Nat) (es : List D) : Upd := [(g, .any), (t, (σ t).frz g s es), (u, (σ u).frz g s es)]
theorem Rel.frz2 {t u g s : Nat} {es : List D} (hR : Rel G τ a w) (ht : t < nb) (hu : u < nb) (hg : nb ≤ g) (hr : τ g = .row s es) (hp : D.purL es = true) : Rel G (Env.put (frzU2 τ t u g s es) τ) a w := by
  obtain ⟨hd, F, m, h⟩ := hR
  obtain ⟨F', h1, h2⟩ := h.freeze hg hr hp
  exact ⟨hd, F', m, (h1.recast ht (h2 _ _ (h.slots t ht))).recast hu (h2 _ _ (h.slots u hu))⟩
theorem pre_frz2 {t u g s : Nat} {es : List D} (ht : t < nb) (hu : u < nb) (hg : nb ≤ g) (hr : σ g = .row s es) (hp : D.purL es = true) : PreOK σ (frzU2 σ t u g s es) [t, u, g] [g, t, u] := by
  refine ⟨fun p hpp => ?_, fun G τ a x hag hR => ?_⟩
  · simp only [frzU2, List.mem_cons, List.not_mem_nil, or_false] at hpp
    rcases hpp with rfl | rfl | rfl
    · exact List.mem_cons_self ..
    · exact List.mem_cons_of_mem _ (List.mem_cons_self ..)
    · exact List.mem_cons_of_mem _ (List.mem_cons_of_mem _ (List.mem_cons_self ..))
  · have h1 := hag t (List.mem_cons_self ..)
    have h3 := hag u (List.mem_cons_of_mem _ (List.mem_cons_self ..))
    have h2 := hag g (List.mem_cons_of_mem _ (List.mem_cons_of_mem _ (List.mem_cons_self ..)))
    have := hR.frz2 (t := t) (u := u) ht hu hg (h2.trans hr) hp
    rw [show frzU2 τ t u g s es = frzU2 σ t u g s es by unfold frzU2; rw [h1, h3]] at this
    exact this
end
attribute [go_sem] frzU2
end Go.Proofs.Ytpfedjaedlfdfaa
set_option maxHeartbeats 4000000
set_option maxRecDepth 100000
namespace Go.Proofs.Ytpfedjaedlfdfaa
open Go.RowKit
/-- A table. -/
structure Ta where
  w : Int
  rows : List (List V)
def rowsD (rs : List (List V)) : D := .sl 1 (rs.map rowD)
def taD (t : Ta) : D := .agg [I t.w, rowsD t.rows]
theorem rows_pur : ∀ l : List (List V), D.purL (l.map rowD) = true
  | [] => rfl
  | p :: l => by rw [List.map_cons, D.purL, rows_pur l]; rfl
theorem rows_ren (L : List Nat) (l : List (List V)) : D.renL L (l.map rowD) = l.map rowD := ren_pure.renL_pure L _ (rows_pur l)
attribute [go_sem] rows_pur rows_ren rowsD taD
end Go.Proofs.Ytpfedjaedlfdfaa

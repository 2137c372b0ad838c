/-
  Numbers, bytes, values and rows as plain data. No condition.
-/
import Derived.Test.YtedmegmhjmabcaaVStep
namespace Go.Proofs.Ytedmegmhjmabcaa
open Go.RowKit
attribute [go_sem_proc] Nat.reduceEqDiff Nat.reduceAdd Nat.reduceMul Nat.reduceSub Nat.reduceLT Nat.reduceLeDiff reduceCtorEq Int.reduceToNat
attribute [go_sem_proc ↓] reduceIte

abbrev I (n : Int) : D := .v (.int .i64 n)
abbrev Bo (b : Bool) : D := .v (.bool b)
theorem wrap64 {n : Int} (h0 : -9223372036854775808 ≤ n) (h1 : n ≤ 9223372036854775807) : IntKind.i64.wrap n = n := by
  simp [IntKind.wrap, IntKind.bits, IntKind.signed]
  omega
theorem xor_range {a b : Int} (ha : 0 ≤ a) (ha' : a < 1099511627776) (hb : 0 ≤ b) (hb' : b < 1099511627776) : 0 ≤ intBit .xor .i64 a b := by
  obtain ⟨x, rfl⟩ := Int.eq_ofNat_of_zero_le ha
  obtain ⟨y, rfl⟩ := Int.eq_ofNat_of_zero_le hb
  have hx : (BitVec.ofInt 64 (x : Int) ^^^ BitVec.ofInt 64 (y : Int)).toNat < 2 ^ 40 := by
    rw [BitVec.toNat_xor]
    refine Nat.xor_lt_two_pow ?_ ?_
    · rw [BitVec.toNat_ofInt]; omega
    · rw [BitVec.toNat_ofInt]; omega
  show 0 ≤ IntKind.i64.wrap ((BitVec.ofInt 64 (x : Int) ^^^ BitVec.ofInt 64 (y : Int)).toNat : Int)
  rw [wrap64 (by omega) (by omega)]
  omega
def byteD (b : Nat) : D := .v (.int .u8 b)
/-- Bytes. -/
def bytesD (bs : List Nat) : D := .sl 1 (bs.map byteD)
theorem bytesD_ren (L : List Nat) (bs : List Nat) : (bytesD bs).ren L = bytesD bs := rfl
/-- The reader of a code. -/
def rdD (bs : List Nat) (p : Nat) : D := .obj [bytesD bs, I p]
/-- Bytes of a code, as far as the reader looks. -/
structure Src (bs : List Nat) : Prop where
  byte : ∀ b, b ∈ bs → b < 256
  len : bs.length ≤ 2000
/-- A value. -/
structure V where
  b : Bool
  n : Int
structure V.ok (v : V) : Prop where
  lo : -9999 ≤ v.n
  hi : v.n ≤ 9999
  nul : v.b = true → v.n = 0
/-- A value as data. -/
def vD (v : V) : D := .agg [Bo v.b, I v.n]
def rowD (vs : List V) : D := .sl 2 (vs.map vD)
theorem okV {b : Bool} {n : Int} (h0 : -9999 ≤ n) (h1 : n ≤ 9999) (h2 : b = true → n = 0) : V.ok ⟨b, n⟩ := ⟨h0, h1, h2⟩
theorem cast1 (n : Nat) : ((n + 1 : Nat) : Int) = (n : Int) + 1 := by omega
theorem take_next {α : Type} {vs : List α} {i : Nat} {v : α} (h : vs[i]? = some v) : vs.take (i + 1) = vs.take i ++ [v] := by rw [List.take_add_one, h]; rfl
theorem take_len {α : Type} {vs : List α} {i : Nat} (h : i ≤ vs.length) : (vs.take i).length = i := by rw [List.length_take]; omega
theorem take_map {α β : Type} (f : α → β) {vs : List α} {i : Nat} (h : i ≤ vs.length) : ((vs.take i).map f).take i = (vs.take i).map f := List.take_of_length_le (by rw [List.length_map, List.length_take]; omega)
theorem take_all {α β : Type} (f : α → β) (vs : List α) : (vs.map f).take vs.length = vs.map f := List.take_of_length_le (by rw [List.length_map]; exact Nat.le_refl _)
theorem take_set {α β : Type} (f : α → β) (vs : List α) (j : Nat) (x : β) : ((vs.map f).set j x).take vs.length = (vs.map f).set j x := List.take_of_length_le (by rw [List.length_set, List.length_map]; exact Nat.le_refl _)
/-- An expression. -/
inductive E where
  | mk (k c : Int) (v : V) (ks : List E)
namespace E
def k : E → Int
  | mk k _ _ _ => k
def c : E → Int
  | mk _ c _ _ => c
def v : E → V
  | mk _ _ v _ => v
def ks : E → List E
  | mk _ _ _ ks => ks
end E
mutual
/-- An expression as data. -/
def eD : E → D
  | .mk k c v ks => .agg [I k, I c, Bo v.b, I v.n, .sl 5 (eL ks)]
def eL : List E → List D
  | [] => []
  | e :: l => eD e :: eL l
end
theorem eL_map : ∀ l : List E, eL l = l.map eD
  | [] => by rw [eL]; rfl
  | e :: l => by rw [eL, eL_map l]; rfl
theorem eD_eq (e : E) : eD e = .agg [I e.k, I e.c, Bo e.v.b, I e.v.n, .sl 5 (e.ks.map eD)] := by
  cases e with
  | mk k c v ks => rw [eD, eL_map]; rfl
theorem exprs_pur : ∀ es : List E, D.purL (es.map eD) = true
  | [] => rfl
  | e :: es => by rw [List.map_cons, D.purL, exprs_pur es, eD_eq]; rfl
theorem exprs_ren (L : List Nat) (es : List E) : D.renL L (es.map eD) = es.map eD := ren_pure.renL_pure L _ (exprs_pur es)
theorem E.k_mk (k c : Int) (v : V) (ks : List E) : (E.mk k c v ks).k = k := rfl
theorem E.c_mk (k c : Int) (v : V) (ks : List E) : (E.mk k c v ks).c = c := rfl
theorem E.v_mk (k c : Int) (v : V) (ks : List E) : (E.mk k c v ks).v = v := rfl
theorem E.ks_mk (k c : Int) (v : V) (ks : List E) : (E.mk k c v ks).ks = ks := rfl
theorem vD_ren (L : List Nat) (v : V) : (vD v).ren L = vD v := rfl
theorem rowD_ren (L : List Nat) (vs : List V) : (rowD vs).ren L = rowD vs := rfl
theorem vD_pur (v : V) : (vD v).pur = true := rfl
theorem rowD_pur (vs : List V) : (rowD vs).pur = true := rfl
theorem vals_pur : ∀ vs : List V, D.purL (vs.map vD) = true
  | [] => rfl
  | v :: vs => by rw [List.map_cons, D.purL, vals_pur vs]; rfl
theorem vals_ren (L : List Nat) (vs : List V) : D.renL L (vs.map vD) = vs.map vD := ren_pure.renL_pure L _ (vals_pur vs)

/-- Draws one after the other. -/
theorem draws {α : Type} (S : Nat → α → Nat → Prop) (top K : Nat) (step : ∀ p, p < top → ∃ v q, S p v q ∧ p ≤ q ∧ q ≤ p + K) : ∀ (n p : Nat), p + n * K < top →
    ∃ (vs : List α) (ps : Nat → Nat), vs.length = n ∧ ps 0 = p ∧ (∀ i v, vs[i]? = some v → S (ps i) v (ps (i + 1))) ∧ p ≤ ps n ∧ ps n ≤ p + n * K
  | 0, p, _ => ⟨[], fun _ => p, rfl, rfl, (fun i v h => by simp at h), Nat.le_refl p, Nat.le_add_right p _⟩
  | n + 1, p, hp => by
    have hn : (n + 1) * K = n * K + K := by rw [Nat.add_mul]; omega
    obtain ⟨v, q, hs, h1, h2⟩ := step p (by omega)
    obtain ⟨vs, ps, hl, h0, hss, h3, h4⟩ := draws S top K step n q (by omega)
    refine ⟨v :: vs, fun i => match i with
      | 0 => p
      | i + 1 => ps i, by simp [hl], rfl, fun i x hx => ?_, by show p ≤ ps n; omega, by show ps n ≤ _; omega⟩
    cases i with
    | zero =>
      obtain rfl : v = x := by simpa using hx
      show S p v (ps 0)
      rw [h0]
      exact hs
    | succ i => exact hss i x (by simpa using hx)
attribute [go_sem] rowD_pur eD_eq exprs_pur exprs_ren E.k_mk E.c_mk E.v_mk E.ks_mk Int.add_sub_cancel take_all take_set Nat.le_refl List.length_set List.length_append vD_ren rowD_ren vals_ren vD_pur vals_pur cast1 rdD vD rowD wrap64 bytesD_ren
end Go.Proofs.Ytedmegmhjmabcaa

/-
  Sets of small numbers, as numbers. No condition.
-/
import Derived.Test.YtclkehekhdfnnaaVSem
set_option maxHeartbeats 4000000
set_option maxRecDepth 100000
set_option linter.unusedVariables false
set_option linter.unusedSimpArgs false
namespace Go.Proofs.Ytclkehekhdfnnaa
open Go.RowKit

def band (a b : Int) : Int := intBit .and .i64 a b
def bor (a b : Int) : Int := intBit .or .i64 a b
def bdf (a b : Int) : Int := intBit .andNot .i64 a b
/-- Whether a set has a number. -/
def tb (a : Int) (i : Nat) : Bool := a.toNat.testBit i
/-- A number that is a set. -/
def inS (a : Int) : Prop := 0 ≤ a ∧ a < 9223372036854775808
theorem inS.nat {a : Int} (h : inS a) : ∃ n : Nat, a = (n : Int) ∧ n < 2 ^ 63 := by
  obtain ⟨n, rfl⟩ := Int.eq_ofNat_of_zero_le h.1
  exact ⟨n, rfl, by have := h.2; omega⟩
theorem ofI (a : Nat) (ha : a < 2 ^ 63) : (BitVec.ofInt 64 (a : Int)).toNat = a := by
  rw [BitVec.toNat_ofInt]
  omega
theorem wrapN {n : Nat} (h : n < 2 ^ 63) : IntKind.i64.wrap (n : Int) = n := wrap64 (by omega) (by omega)
theorem band_nat {a b : Nat} (ha : a < 2 ^ 63) (hb : b < 2 ^ 63) : band a b = ((a &&& b : Nat) : Int) := by
  show IntKind.i64.wrap ((BitVec.ofInt 64 (a : Int) &&& BitVec.ofInt 64 (b : Int)).toNat : Int) = _
  rw [BitVec.toNat_and, ofI a ha, ofI b hb]
  exact wrapN (Nat.lt_of_le_of_lt Nat.and_le_left ha)
theorem bor_nat {a b : Nat} (ha : a < 2 ^ 63) (hb : b < 2 ^ 63) : bor a b = ((a ||| b : Nat) : Int) := by
  show IntKind.i64.wrap ((BitVec.ofInt 64 (a : Int) ||| BitVec.ofInt 64 (b : Int)).toNat : Int) = _
  rw [BitVec.toNat_or, ofI a ha, ofI b hb]
  exact wrapN (Nat.or_lt_two_pow ha hb)
theorem bdf_nat {a b : Nat} (ha : a < 2 ^ 63) (hb : b < 2 ^ 63) : bdf a b = ((a &&& (2 ^ 64 - 1 - b) : Nat) : Int) := by
  show IntKind.i64.wrap ((BitVec.ofInt 64 (a : Int) &&& ~~~BitVec.ofInt 64 (b : Int)).toNat : Int) = _
  rw [BitVec.toNat_and, BitVec.toNat_not, ofI a ha, ofI b hb]
  exact wrapN (Nat.lt_of_le_of_lt Nat.and_le_left ha)
theorem tb_nat (n i : Nat) : tb (n : Int) i = n.testBit i := rfl
theorem tb_band {a b : Int} (ha : inS a) (hb : inS b) (i : Nat) : tb (band a b) i = (tb a i && tb b i) := by
  obtain ⟨x, rfl, hx⟩ := ha.nat
  obtain ⟨y, rfl, hy⟩ := hb.nat
  rw [band_nat hx hy, tb_nat, tb_nat, tb_nat, Nat.testBit_and]
theorem tb_bor {a b : Int} (ha : inS a) (hb : inS b) (i : Nat) : tb (bor a b) i = (tb a i || tb b i) := by
  obtain ⟨x, rfl, hx⟩ := ha.nat
  obtain ⟨y, rfl, hy⟩ := hb.nat
  rw [bor_nat hx hy, tb_nat, tb_nat, tb_nat, Nat.testBit_or]
theorem tb_big {a : Int} (ha : inS a) {i : Nat} (hi : 63 ≤ i) : tb a i = false := by
  obtain ⟨x, rfl, hx⟩ := ha.nat
  rw [tb_nat]
  exact Nat.testBit_lt_two_pow (Nat.lt_of_lt_of_le hx (Nat.pow_le_pow_right (by omega) hi))
theorem tb_bdf {a b : Int} (ha : inS a) (hb : inS b) (i : Nat) : tb (bdf a b) i = (tb a i && !tb b i) := by
  by_cases hi : i < 63
  · obtain ⟨x, rfl, hx⟩ := ha.nat
    obtain ⟨y, rfl, hy⟩ := hb.nat
    rw [bdf_nat hx hy, tb_nat, tb_nat, tb_nat, Nat.testBit_and, show 2 ^ 64 - 1 - y = 2 ^ 64 - (y + 1) by omega, Nat.testBit_two_pow_sub_succ (by omega), decide_eq_true (show i < 64 by omega), Bool.true_and]
  · obtain ⟨x, rfl, hx⟩ := ha.nat
    obtain ⟨y, rfl, hy⟩ := hb.nat
    have h1 := tb_big ha (i := i) (by omega)
    rw [bdf_nat hx hy, tb_nat, tb_nat, tb_nat, Nat.testBit_and]
    rw [tb_nat] at h1
    rw [h1, Bool.false_and, Bool.false_and]
theorem inS_band {a b : Int} (ha : inS a) (hb : inS b) : inS (band a b) := by
  obtain ⟨x, rfl, hx⟩ := ha.nat
  obtain ⟨y, rfl, hy⟩ := hb.nat
  rw [band_nat hx hy]
  have : x &&& y ≤ x := Nat.and_le_left
  exact ⟨by omega, by omega⟩
theorem inS_bor {a b : Int} (ha : inS a) (hb : inS b) : inS (bor a b) := by
  obtain ⟨x, rfl, hx⟩ := ha.nat
  obtain ⟨y, rfl, hy⟩ := hb.nat
  rw [bor_nat hx hy]
  have := Nat.or_lt_two_pow hx hy
  exact ⟨by omega, by omega⟩
theorem inS_bdf {a b : Int} (ha : inS a) (hb : inS b) : inS (bdf a b) := by
  obtain ⟨x, rfl, hx⟩ := ha.nat
  obtain ⟨y, rfl, hy⟩ := hb.nat
  rw [bdf_nat hx hy]
  have : x &&& (2 ^ 64 - 1 - y) ≤ x := Nat.and_le_left
  exact ⟨by omega, by omega⟩
theorem tb_ext {a b : Int} (ha : inS a) (hb : inS b) (h : ∀ i, tb a i = tb b i) : a = b := by
  obtain ⟨x, rfl, hx⟩ := ha.nat
  obtain ⟨y, rfl, hy⟩ := hb.nat
  exact congrArg Int.ofNat (Nat.eq_of_testBit_eq h)
/-- A set is a part of another one. -/
def sub (a b : Int) : Prop := ∀ i, tb a i = true → tb b i = true
noncomputable instance subDec (a b : Int) : Decidable (sub a b) := Classical.propDecidable _
theorem sub_refl (a : Int) : sub a a := fun i h => h
theorem sub_trans {a b c : Int} (h : sub a b) (h' : sub b c) : sub a c := fun i hi => h' i (h i hi)
theorem sub_antisymm {a b : Int} (ha : inS a) (hb : inS b) (h : sub a b) (h' : sub b a) : a = b := tb_ext ha hb fun i => by
  rw [Bool.eq_iff_iff]
  exact ⟨h i, h' i⟩
theorem sub_band {a b : Int} (ha : inS a) (hb : inS b) : band a b = a ↔ sub a b := by
  constructor
  · intro h i hi
    have := tb_band ha hb i
    rw [h, hi, Bool.true_and] at this
    exact this.symm
  · intro h
    refine tb_ext (inS_band ha hb) ha fun i => ?_
    rw [tb_band ha hb]
    cases hi : tb a i with
    | false => rfl
    | true => rw [h i hi]; rfl
theorem sub_bdf {a b : Int} (ha : inS a) (hb : inS b) : bdf a b = 0 ↔ sub a b := by
  have h0 : inS 0 := ⟨by omega, by omega⟩
  constructor
  · intro h i hi
    have := tb_bdf ha hb i
    rw [h, hi, Bool.true_and] at this
    have z : tb 0 i = false := by show Nat.testBit 0 i = false; exact Nat.zero_testBit i
    rw [z] at this
    cases hb' : tb b i with
    | true => rfl
    | false => rw [hb'] at this; cases this
  · intro h
    refine tb_ext (inS_bdf ha hb) h0 fun i => ?_
    have z : tb 0 i = false := by show Nat.testBit 0 i = false; exact Nat.zero_testBit i
    rw [tb_bdf ha hb, z]
    cases hi : tb a i with
    | false => rfl
    | true => rw [h i hi]; rfl
theorem sub_or_l {a b : Int} (ha : inS a) (hb : inS b) : sub a (bor a b) := fun i hi => by rw [tb_bor ha hb, hi]; rfl
theorem sub_or_r {a b : Int} (ha : inS a) (hb : inS b) : sub b (bor a b) := fun i hi => by rw [tb_bor ha hb, hi, Bool.or_true]
theorem or_sub {a b c : Int} (ha : inS a) (hb : inS b) (h : sub a c) (h' : sub b c) : sub (bor a b) c := fun i hi => by
  rw [tb_bor ha hb] at hi
  rcases Bool.or_eq_true_iff.1 hi with hi | hi
  · exact h i hi
  · exact h' i hi
theorem sub_le {a b : Int} (ha : inS a) (hb : inS b) (h : sub a b) : a ≤ b := by
  have h1 := (sub_band ha hb).2 h
  obtain ⟨x, rfl, hx⟩ := ha.nat
  obtain ⟨y, rfl, hy⟩ := hb.nat
  rw [band_nat hx hy] at h1
  have : x &&& y ≤ y := Nat.and_le_right
  omega
theorem and_t {a b : Int} (ha : inS a) (hb : inS b) (h : sub a b) : (intBit .and .i64 a b == a) = true := beq_iff_eq.2 ((sub_band ha hb).2 h)
theorem and_f {a b : Int} (ha : inS a) (hb : inS b) (h : ¬ sub a b) : (intBit .and .i64 a b == a) = false := by
  rw [beq_eq_false_iff_ne]
  exact fun e => h ((sub_band ha hb).1 e)
theorem andn_t {a b : Int} (ha : inS a) (hb : inS b) (h : ¬ sub a b) : (intBit .and .i64 a b != a) = true := by
  rw [bne, and_f ha hb h]; rfl
theorem andn_f {a b : Int} (ha : inS a) (hb : inS b) (h : sub a b) : (intBit .and .i64 a b != a) = false := by
  rw [bne, and_t ha hb h]; rfl
theorem and_comm (a b : Int) : intBit .and .i64 a b = intBit .and .i64 b a := by
  show IntKind.i64.wrap ((BitVec.ofInt 64 a &&& BitVec.ofInt 64 b).toNat : Int) = IntKind.i64.wrap ((BitVec.ofInt 64 b &&& BitVec.ofInt 64 a).toNat : Int)
  rw [BitVec.and_comm]
theorem and_b {a b : Int} (ha : inS a) (hb : inS b) : (intBit .and .i64 b a == a) = decide (sub a b) := by
  rw [and_comm, Bool.eq_iff_iff, beq_iff_eq, decide_eq_true_iff]
  exact sub_band ha hb
theorem andn_b {a b : Int} (ha : inS a) (hb : inS b) : (intBit .and .i64 b a != a) = !decide (sub a b) := by
  rw [bne, and_b ha hb]
theorem dif_b {a b : Int} (ha : inS a) (hb : inS b) : (intBit .andNot .i64 a b == 0) = decide (sub a b) := by
  rw [Bool.eq_iff_iff, beq_iff_eq, decide_eq_true_iff]
  exact sub_bdf ha hb
/-- All columns of a width. -/
def top (w : Int) : Int := 2 ^ w.toNat - 1
theorem top_nat (w : Int) : top w = ((2 ^ w.toNat - 1 : Nat) : Int) := by
  have h : 1 ≤ 2 ^ w.toNat := Nat.one_le_two_pow
  unfold top
  rw [Int.ofNat_sub h]
  simp
def sOk (w s : Int) : Prop := 0 ≤ s ∧ s ≤ top w
theorem top_small {w : Int} (h : 1 ≤ w ∧ w ≤ 6) : 1 ≤ top w ∧ top w ≤ 63 := by
  have : w = 1 ∨ w = 2 ∨ w = 3 ∨ w = 4 ∨ w = 5 ∨ w = 6 := by omega
  rcases this with rfl | rfl | rfl | rfl | rfl | rfl <;> decide
theorem sOk.inS {w s : Int} (hw : 1 ≤ w ∧ w ≤ 6) (h : sOk w s) : inS s := by
  have := top_small hw
  exact ⟨h.1, by have := h.2; omega⟩
theorem top_ok {w : Int} (hw : 1 ≤ w ∧ w ≤ 6) : sOk w (top w) := ⟨by have := top_small hw; omega, Int.le_refl _⟩
theorem sOk_bor {w a b : Int} (hw : 1 ≤ w ∧ w ≤ 6) (ha : sOk w a) (hb : sOk w b) : sOk w (bor a b) := by
  have h1 := ha.inS hw
  have h2 := hb.inS hw
  obtain ⟨a1, a2⟩ := ha
  obtain ⟨b1, b2⟩ := hb
  obtain ⟨x, rfl, hx⟩ := h1.nat
  obtain ⟨y, rfl, hy⟩ := h2.nat
  rw [top_nat] at a2 b2
  have hp : 1 ≤ 2 ^ w.toNat := Nat.one_le_two_pow
  have := Nat.or_lt_two_pow (x := x) (y := y) (n := w.toNat) (by omega) (by omega)
  rw [bor_nat hx hy]
  refine ⟨by omega, ?_⟩
  rw [top_nat]
  omega
theorem sOk_sub {w a b : Int} (hw : 1 ≤ w ∧ w ≤ 6) (ha : inS a) (hb : sOk w b) (h : sub a b) : sOk w a := ⟨ha.1, Int.le_trans (sub_le ha (hb.inS hw) h) hb.2⟩
theorem sub_top {w a : Int} (hw : 1 ≤ w ∧ w ≤ 6) (ha : sOk w a) : sub a (top w) := fun i hi => by
  have h1 := ha.inS hw
  obtain ⟨a1, a2⟩ := ha
  obtain ⟨x, rfl, hx⟩ := h1.nat
  rw [top_nat] at a2 ⊢
  have hp : 1 ≤ 2 ^ w.toNat := Nat.one_le_two_pow
  rw [tb_nat] at hi ⊢
  rw [Nat.testBit_two_pow_sub_one, decide_eq_true_iff]
  apply Decidable.byContradiction
  intro hlt
  have := Nat.testBit_lt_two_pow (x := x) (i := i) (Nat.lt_of_lt_of_le (show x < 2 ^ w.toNat by omega) (Nat.pow_le_pow_right (by omega) (by omega)))
  rw [this] at hi
  cases hi
end Go.Proofs.Ytclkehekhdfnnaa

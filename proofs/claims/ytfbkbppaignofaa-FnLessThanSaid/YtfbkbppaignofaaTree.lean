/-
  Expressions in memory as trees, and the walks of the laws' own functions on them.
-/
import Derived.Test.YtfbkbppaignofaaLineC
namespace Go.Proofs.Ytfbkbppaignofaa
open Go.RowKit

/-- An expression: kind, column, value, and its m kids; 'no' stands where there is none (it reads as a kind 0 without kids). -/
inductive ET where
  | mk (k c : Int) (b : Bool) (n : Int) (m : Nat) (kid : Nat → ET)
  | no

namespace ET
def k : ET → Int | .mk k _ _ _ _ _ => k | .no => 0
def c : ET → Int | .mk _ c _ _ _ _ => c | .no => 0
def b : ET → Bool | .mk _ _ b _ _ _ => b | .no => false
def n : ET → Int | .mk _ _ _ n _ _ => n | .no => 0
def m : ET → Nat | .mk _ _ _ _ m _ => m | .no => 0
def kid : ET → Nat → ET | .mk _ _ _ _ _ f => f | .no => fun _ => .no

/-- What holds of a tree when it holds of its kids. -/
theorem all {P : ET → Prop} (h : ∀ k c b n m kid, (∀ i, i < m → P (kid i)) → P (.mk k c b n m kid)) (h0 : P (.mk 0 0 false 0 0 (fun _ => .no)) → P .no) : ∀ t, P t
  | .mk _ _ _ _ _ kid => h _ _ _ _ _ _ (fun i _ => all h h0 (kid i))
  | .no => h0 (h _ _ _ _ _ _ (fun i hi => absurd hi (Nat.not_lt_zero i)))

/-- The value in memory. -/
def val (t : ET) (A : Option Addr) (cp : Nat) : Value := .agg #[.int .i64 t.k, .int .i64 t.c, .bool t.b, .int .i64 t.n, .slice A t.m cp]

/-- The slice at A reads as the kids of t, all blocks are of s. -/
def At (w : World) (s : Nat → Prop) : ET → Option Addr → Prop
  | .mk _ _ _ _ m kid, A => 0 < m → ∃ b o, A = some ⟨b, o, none⟩ ∧ s b ∧ ∀ i, i < m → ∃ A' c', w.cell? ⟨b, o + i * 5, none⟩ = some (.int .i64 (kid i).k) ∧ w.cell? ⟨b, o + i * 5 + 1, none⟩ = some (.int .i64 (kid i).c) ∧
      w.cell? ⟨b, o + i * 5 + 2, none⟩ = some (.bool (kid i).b) ∧ w.cell? ⟨b, o + i * 5 + 3, none⟩ = some (.int .i64 (kid i).n) ∧ w.cell? ⟨b, o + i * 5 + 4, none⟩ = some (.slice A' (kid i).m c') ∧ At w s (kid i) A'
  | .no, _ => True

/-- m kids in a slice. -/
def KidsAt (w : World) (s : Nat → Prop) (m : Nat) (kid : Nat → ET) (A : Option Addr) : Prop :=
  0 < m → ∃ b o, A = some ⟨b, o, none⟩ ∧ s b ∧ ∀ i, i < m → ∃ A' c', w.cell? ⟨b, o + i * 5, none⟩ = some (.int .i64 (kid i).k) ∧ w.cell? ⟨b, o + i * 5 + 1, none⟩ = some (.int .i64 (kid i).c) ∧
      w.cell? ⟨b, o + i * 5 + 2, none⟩ = some (.bool (kid i).b) ∧ w.cell? ⟨b, o + i * 5 + 3, none⟩ = some (.int .i64 (kid i).n) ∧ w.cell? ⟨b, o + i * 5 + 4, none⟩ = some (.slice A' (kid i).m c') ∧ (kid i).At w s A'

theorem at_kids {w : World} {s : Nat → Prop} {t : ET} {A : Option Addr} : t.At w s A ↔ KidsAt w s t.m t.kid A := by
  cases t with
  | mk k c b n m kid => rw [At]; rfl
  | no => exact ⟨fun _ h => absurd h (Nat.lt_irrefl 0), fun _ => trivial⟩

theorem At.keep {w w' : World} {s s' : Nat → Prop} (hs : ∀ b, s b → s' b) (hc : ∀ b o v, s b → w.cell? ⟨b, o, none⟩ = some v → w'.cell? ⟨b, o, none⟩ = some v) : ∀ (t : ET) (A : Option Addr), t.At w s A → t.At w' s' A
  | .mk _ _ _ _ m kid, A, h => by
    rw [At] at h ⊢
    intro hm
    obtain ⟨b, o, hA, hb, hx⟩ := h hm
    refine ⟨b, o, hA, hs b hb, fun i hi => ?_⟩
    obtain ⟨A', c', h0, h1, h2, h3, h4, h5⟩ := hx i hi
    exact ⟨A', c', hc _ _ _ hb h0, hc _ _ _ hb h1, hc _ _ _ hb h2, hc _ _ _ hb h3, hc _ _ _ hb h4, At.keep hs hc (kid i) A' h5⟩
  | .no, _, _ => trivial

theorem At.wide {w : World} {s s' : Nat → Prop} {t : ET} {A : Option Addr} (h : t.At w s A) (hs : ∀ b, s b → s' b) : t.At w s' A := At.keep hs (fun _ _ _ _ h => h) t A h
theorem At.below {w w' : World} {s : Nat → Prop} {t : ET} {A : Option Addr} {B : Nat} (h : t.At w s A) (hb : Below B w w') (hs : ∀ b, s b → b < B) : t.At w' s A :=
  At.keep (fun _ h => h) (fun b o _v hsb hv => (hb.cell (p := ⟨b, o, none⟩) (hs b hsb)).trans hv) t A h
theorem At.put {w : World} {s : Nat → Prop} {t : ET} {A : Option Addr} (h : t.At w s A) {p : Addr} (hp : ¬ s p.block) (v : Value) : t.At (w.setCell p v) s A :=
  At.keep (fun _ h => h) (fun b o u hsb hu => by rw [World.cell?_setCell_other _ _ _ _ (by intro e; rw [e] at hp; exact hp hsb)]; exact hu) t A h
theorem At.more {w w' : World} {t : ET} {A : Option Addr} {s s' : Nat → Prop} (h : t.At w s A) (hb : Below w.heap.size w w') (hs : ∀ b, s b → s' b) : t.At w' s' A :=
  At.keep hs (fun b o _v _ hv => keep_cell (a := ⟨b, o, none⟩) hv hb) t A h
/-- A tree below the heap's end, in a later world. -/
def On (w : World) (t : ET) (A : Option Addr) : Prop := t.At w (· < w.heap.size) A
theorem On.on {w w' : World} {t : ET} {A : Option Addr} (h : On w t A) (hb : Below w.heap.size w w') : On w' t A := At.more h hb (fun _ h => Nat.lt_of_lt_of_le h hb.size)

theorem KidsAt.more {w w' : World} {m : Nat} {kid : Nat → ET} {A : Option Addr} {s s' : Nat → Prop} (h : KidsAt w s m kid A) (hb : Below w.heap.size w w') (hs : ∀ b, s b → s' b) : KidsAt w' s' m kid A :=
  at_kids.1 (At.more (at_kids.2 h : (ET.mk 0 0 false 0 m kid).At w s A) hb hs)
def KOn (w : World) (m : Nat) (kid : Nat → ET) (A : Option Addr) : Prop := KidsAt w (· < w.heap.size) m kid A
theorem KOn.on {w w' : World} {m : Nat} {kid : Nat → ET} {A : Option Addr} (h : KOn w m kid A) (hb : Below w.heap.size w w') : KOn w' m kid A := KidsAt.more h hb (fun _ h => Nat.lt_of_lt_of_le h hb.size)
theorem On.kids {w : World} {t : ET} {A : Option Addr} (h : On w t A) : KOn w t.m t.kid A := at_kids.1 h

/-- The loop over what is left of a budget. -/
def loopE (s : Nat → Int → Int) : Nat → Nat → Int → Int
  | 0, _, left => left
  | r + 1, k, left => if s k left < 0 then -1 else loopE s r (k + 1) (s k left)
def szK (s : Nat → Int → Int) (m : Nat) (left : Int) : Int := if left - m < 0 then -1 else loopE s m 0 (left - m)
def sz : ET → Int → Int
  | .mk _ _ _ _ m kid, left => szK (fun i l => (kid i).sz l) m left
  | .no, left => szK (fun _ l => l) 0 left
theorem sz_kids (t : ET) (left : Int) : t.sz left = szK (fun i l => (t.kid i).sz l) t.m left := by
  cases t <;> rfl

/-- No slice of the tree is longer than L. -/
def Most (L : Nat) : ET → Prop
  | .mk _ _ _ _ m kid => m ≤ L ∧ ∀ i, i < m → (kid i).Most L
  | .no => True
theorem most_kids {L : Nat} {t : ET} : t.Most L ↔ t.m ≤ L ∧ ∀ i, i < t.m → (t.kid i).Most L := by
  cases t
  · rfl
  · exact ⟨fun _ => ⟨Nat.zero_le _, fun i hi => absurd hi (Nat.not_lt_zero i)⟩, fun _ => trivial⟩

theorem loop_step (s : Nat → Int → Int) (n k : Nat) (left : Int) (hk : k < n) (h : ¬ s k left < 0) : loopE s (n - k) k left = loopE s (n - (k + 1)) (k + 1) (s k left) := by
  obtain ⟨m, hm⟩ : ∃ m, n - k = m + 1 := ⟨n - k - 1, by omega⟩
  rw [hm, show n - (k + 1) = m by omega]
  simp only [loopE]
  rw [if_neg h]
theorem loop_stop (s : Nat → Int → Int) (n k : Nat) (left : Int) (hk : k < n) (h : s k left < 0) : loopE s (n - k) k left = -1 := by
  obtain ⟨m, hm⟩ : ∃ m, n - k = m + 1 := ⟨n - k - 1, by omega⟩
  rw [hm]
  simp only [loopE]
  rw [if_pos h]
theorem loop_end (s : Nat → Int → Int) (n : Nat) (left : Int) : loopE s (n - n) n left = left := by
  rw [Nat.sub_self]
  rfl

/-- What a step does to a budget. -/
def Spends (f : Int → Int) : Prop := ∀ l, 0 ≤ l → f l = -1 ∨ 0 ≤ f l ∧ f l ≤ l
theorem loop_spends (s : Nat → Int → Int) : ∀ r k, (∀ i, k ≤ i → i < k + r → Spends (s i)) → Spends (loopE s r k)
  | 0, k, _ => fun l h => .inr ⟨h, Int.le_refl _⟩
  | r + 1, k, hs => fun l h => by
    simp only [loopE]
    split
    · exact .inl rfl
    · have h1 := hs k (by omega) (by omega) l h
      have h2 := loop_spends s r (k + 1) (fun i h1 h2 => hs i (by omega) (by omega)) (s k l) (by omega)
      omega
theorem szK_spends (s : Nat → Int → Int) (m : Nat) (hs : ∀ i, i < m → Spends (s i)) : Spends (szK s m) := fun l h => by
  unfold szK
  split
  · exact .inl rfl
  · have := loop_spends s m 0 (fun i _ h2 => hs i (by omega)) (l - m) (by omega)
    omega
theorem sz_spends : ∀ t : ET, Spends t.sz
  | .mk _ _ _ _ m kid => szK_spends (fun i l => (kid i).sz l) m (fun i _ => sz_spends (kid i))
  | .no => szK_spends (fun _ l => l) 0 (fun i hi => absurd hi (Nat.not_lt_zero i))
theorem loop_all (s : Nat → Int → Int) (P : Nat → Prop) (L : Int) (hP : ∀ i l, 0 ≤ l → l ≤ L → 0 ≤ s i l → P i) (hs : ∀ i, Spends (s i)) :
    ∀ r k l, 0 ≤ l → l ≤ L → 0 ≤ loopE s r k l → ∀ i, k ≤ i → i < k + r → P i
  | 0, _, _, _, _, _, _, _, _ => by omega
  | r + 1, k, l, h0, h1, h, i, hi, hj => by
    simp only [loopE] at h
    split at h
    · omega
    · have := hs k l h0
      by_cases hik : i = k
      · subst hik
        exact hP i l h0 h1 (by omega)
      · exact loop_all s P L hP hs r (k + 1) (s k l) (by omega) (by omega) h i (by omega) (by omega)
theorem sz_most : ∀ (t : ET) (l : Int), 0 ≤ l → l ≤ 1048576 → 0 ≤ t.sz l → t.Most 1048576
  | .mk _ _ _ _ m kid, l, h0, h1, h => by
    rw [sz, szK] at h
    split at h
    · omega
    · refine ⟨by omega, fun i hi => ?_⟩
      exact loop_all (fun i l => (kid i).sz l) (fun i => (kid i).Most 1048576) 1048576 (fun i l a b c => sz_most (kid i) l a b c) (fun i => sz_spends (kid i)) m 0 (l - m) (by omega) (by omega) h i (by omega) (by omega)
  | .no, _, _, _, _ => trivial

theorem on_no (w : World) (A : Option Addr) : On w (.mk 0 0 false 0 0 (fun _ => .no)) A := at_kids.2 (fun h => absurd h (Nat.lt_irrefl 0))
theorem most_no (L : Nat) : Most L (.mk 0 0 false 0 0 (fun _ => .no)) := most_kids.2 ⟨Nat.zero_le _, fun i hi => absurd hi (Nat.not_lt_zero i)⟩

/-- What an argument of a law gives once it has been measured. -/
theorem measured {t : ET} {l : Int} (h0 : 0 ≤ l) (h1 : l ≤ 1048576) : t.sz l = -1 ∨ (0 ≤ t.sz l ∧ t.sz l ≤ l ∧ t.Most 1048576) := by
  rcases t.sz_spends l h0 with h | ⟨h, h'⟩
  · exact .inl h
  · exact .inr ⟨h, h', sz_most t l h0 h1 h⟩
theorem Most.up {L L' : Nat} (hL : L ≤ L') : ∀ {t : ET}, t.Most L → t.Most L' := by
  refine @ET.all (fun t => t.Most L → t.Most L') ?_ (fun _ _ => trivial)
  intro k c b n m kid IH h
  exact ⟨Nat.le_trans h.1 hL, fun i hi => IH i hi (h.2 i hi)⟩

end ET
end Go.Proofs.Ytfbkbppaignofaa

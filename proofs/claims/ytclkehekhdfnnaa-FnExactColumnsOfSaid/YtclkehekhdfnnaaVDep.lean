/-
  Dependencies as plain data; closures; the model's functions. No condition.
-/
import Derived.Test.YtclkehekhdfnnaaVVa
import Derived.Test.YtclkehekhdfnnaaVBit
import Derived.Test.YtclkehekhdfnnaaVLib
set_option maxHeartbeats 4000000
set_option maxRecDepth 100000
set_option linter.unusedVariables false
set_option linter.unusedSimpArgs false
namespace Go.Proofs.Ytclkehekhdfnnaa
open Go.RowKit

/-- A dependency. -/
structure De where
  f : Int
  t : Int
def deD (d : De) : D := .agg [I d.f, I d.t]
def desD (l : List De) : D := .sl 2 (l.map deD)
theorem des_pur : ∀ l : List De, D.purL (l.map deD) = true
  | [] => rfl
  | p :: l => by rw [List.map_cons, D.purL, des_pur l]; rfl
theorem des_ren (L : List Nat) (l : List De) : D.renL L (l.map deD) = l.map deD := ren_pure.renL_pure L _ (des_pur l)
attribute [go_sem] des_pur des_ren desD deD
def deOk (w : Int) (d : De) : Prop := sOk w d.f ∧ sOk w d.t
def dsOk (w : Int) (l : List De) : Prop := (1 ≤ w ∧ w ≤ 6) ∧ l.length ≤ 8 ∧ ∀ d, d ∈ l → deOk w d
noncomputable instance deOkDec (w : Int) (d : De) : Decidable (deOk w d) := Classical.propDecidable _
noncomputable instance dsOkDec (w : Int) (l : List De) : Decidable (dsOk w l) := Classical.propDecidable _
instance sOkDec (w s : Int) : Decidable (sOk w s) := inferInstanceAs (Decidable (_ ∧ _))
/-- A dependency adds something to a set. -/
def fires (d : De) (s : Int) : Prop := sub d.f s ∧ ¬ sub d.t s
noncomputable instance firesDec (d : De) (s : Int) : Decidable (fires d s) := Classical.propDecidable _
noncomputable def stp (s : Int) (d : De) : Int := if fires d s then bor s d.t else s
noncomputable def fold (l : List De) (s : Int) : Int := l.foldl stp s
noncomputable def itd (l : List De) (s : Int) : Nat → Int
  | 0 => s
  | n + 1 => fold l (itd l s n)
/-- The closure of a set. -/
noncomputable def cl (l : List De) (s : Int) : Int := itd l s 64
section
variable {w : Int} {l : List De} {s : Int} (hw : 1 ≤ w ∧ w ≤ 6)
include hw
theorem stp_ok {d : De} (hd : deOk w d) (hs : sOk w s) : sOk w (stp s d) := by
  unfold stp
  split
  · exact sOk_bor hw hs hd.2
  · exact hs
theorem stp_le {d : De} (hd : deOk w d) (hs : sOk w s) : s ≤ stp s d ∧ (s < stp s d ↔ fires d s) := by
  have h1 := hs.inS hw
  have h2 := hd.2.inS hw
  have h3 := sub_le h1 (inS_bor h1 h2) (sub_or_l h1 h2)
  unfold stp
  by_cases h : fires d s
  · rw [if_pos h]
    refine ⟨h3, fun _ => h, fun _ => ?_⟩
    have : s ≠ bor s d.t := fun e => h.2 (by rw [e]; exact sub_or_r h1 h2)
    omega
  · rw [if_neg h]
    exact ⟨Int.le_refl _, fun h' => by omega, fun h' => absurd h' h⟩
theorem fold_ok : ∀ (l : List De) (s : Int), (∀ d, d ∈ l → deOk w d) → sOk w s → sOk w (fold l s)
  | [], s, _, hs => hs
  | d :: l, s, hl, hs => fold_ok l (stp s d) (fun x hx => hl x (List.mem_cons_of_mem _ hx)) (stp_ok hw (hl d List.mem_cons_self) hs)
theorem fold_le : ∀ (l : List De) (s : Int), (∀ d, d ∈ l → deOk w d) → sOk w s → s ≤ fold l s
  | [], s, _, hs => Int.le_refl _
  | d :: l, s, hl, hs => by
    have h1 := (stp_le hw (hl d List.mem_cons_self) hs).1
    have h2 := fold_le l (stp s d) (fun x hx => hl x (List.mem_cons_of_mem _ hx)) (stp_ok hw (hl d List.mem_cons_self) hs)
    show s ≤ fold l (stp s d)
    omega
theorem itd_ok (hl : ∀ d, d ∈ l → deOk w d) (hs : sOk w s) : ∀ n, sOk w (itd l s n)
  | 0 => hs
  | n + 1 => fold_ok hw l _ hl (itd_ok hl hs n)
theorem itd_le (hl : ∀ d, d ∈ l → deOk w d) (hs : sOk w s) (n : Nat) : itd l s n ≤ itd l s (n + 1) := fold_le hw l _ hl (itd_ok hw hl hs n)
end
theorem itd_stay {l : List De} {s : Int} {k : Nat} (h : itd l s (k + 1) = itd l s k) : ∀ j, itd l s (k + j) = itd l s k
  | 0 => rfl
  | j + 1 => by
    show fold l (itd l s (k + j)) = _
    rw [itd_stay h j]
    exact h
/-- The number of passes that change something. -/
theorem passes {w : Int} (hw : 1 ≤ w ∧ w ≤ 6) {l : List De} {s : Int} (hl : ∀ d, d ∈ l → deOk w d) (hs : sOk w s) :
    ∃ k : Nat, k ≤ 63 ∧ (∀ j, j < k → itd l s j < itd l s (j + 1)) ∧ itd l s (k + 1) = cl l s ∧ itd l s k = cl l s := by
  have hex : ∃ k, k ≤ 63 ∧ itd l s (k + 1) = itd l s k := by
    apply Classical.byContradiction
    intro hn
    have hlt : ∀ k, k ≤ 63 → itd l s k < itd l s (k + 1) := fun k hk => by
      have h1 := itd_le hw hl hs k
      have h2 : itd l s (k + 1) ≠ itd l s k := fun e => hn ⟨k, hk, e⟩
      omega
    have hge : ∀ k : Nat, k ≤ 64 → (k : Int) ≤ itd l s k := by
      intro k
      induction k with
      | zero => intro _; exact hs.1
      | succ k ih =>
        intro hk
        have h1 := ih (by omega)
        have h2 := hlt k (by omega)
        omega
    have h1 := hge 64 (by omega)
    have h2 := (itd_ok hw hl hs 64).2
    have h3 := top_small hw
    omega
  have hleast : ∀ n, (∃ k, k ≤ n ∧ itd l s (k + 1) = itd l s k) → ∃ k, k ≤ n ∧ itd l s (k + 1) = itd l s k ∧ ∀ j, j < k → itd l s (j + 1) ≠ itd l s j := by
    intro n
    induction n with
    | zero =>
      rintro ⟨k, hk, e⟩
      obtain rfl : k = 0 := by omega
      exact ⟨0, Nat.le_refl _, e, fun j hj => by omega⟩
    | succ n ih =>
      rintro ⟨k, hk, e⟩
      by_cases hb : ∃ k, k ≤ n ∧ itd l s (k + 1) = itd l s k
      · obtain ⟨k', h1, h2, h3⟩ := ih hb
        exact ⟨k', by omega, h2, h3⟩
      · refine ⟨k, hk, e, fun j hj he => hb ⟨j, by omega, he⟩⟩
  obtain ⟨k, hk, he, hj⟩ := hleast 63 hex
  have hc : itd l s k = cl l s := by
    have := itd_stay he (64 - k)
    rw [show k + (64 - k) = 64 by omega] at this
    exact this.symm
  refine ⟨k, hk, fun j hjk => ?_, by rw [he, hc], hc⟩
  have h1 := itd_le hw hl hs j
  have h2 := hj j hjk
  omega
theorem cl_ok {w : Int} (hw : 1 ≤ w ∧ w ≤ 6) {l : List De} {s : Int} (hl : ∀ d, d ∈ l → deOk w d) (hs : sOk w s) : sOk w (cl l s) := itd_ok hw hl hs 64
theorem foldl_next {α β : Type} {f : β → α → β} {z : β} {l : List α} {i : Nat} {x : α} (h : l[i]? = some x) : (l.take (i + 1)).foldl f z = f ((l.take i).foldl f z) x := by
  rw [take_next h, List.foldl_append]
  rfl
theorem fold_next {l : List De} {s : Int} {i : Nat} {x : De} (h : l[i]? = some x) : fold (l.take (i + 1)) s = stp (fold (l.take i) s) x := foldl_next h
theorem fold_end (l : List De) (s : Int) : fold (l.take l.length) s = fold l s := by rw [List.take_of_length_le (Nat.le_refl _)]

theorem inRange_t {n lo hi : Int} (h : lo ≤ n ∧ n ≤ hi) : Does Try.prog 45 [] [I n, I lo, I hi] (Bo true) [] := by
  have := inRange_ok n lo hi
  rwa [decide_eq_true h] at this
theorem inRange_f {n lo hi : Int} (h : ¬ (lo ≤ n ∧ n ≤ hi)) : Does Try.prog 45 [] [I n, I lo, I hi] (Bo false) [] := by
  have := inRange_ok n lo hi
  rwa [decide_eq_false h] at this
theorem sh_top {w : Int} (hw : 1 ≤ w ∧ w ≤ 6) : IntKind.i64.wrap (IntKind.i64.wrap (1 * 2 ^ min w.toNat 64) - 1) = top w := by
  have : w = 1 ∨ w = 2 ∨ w = 3 ∨ w = 4 ∨ w = 5 ∨ w = 6 := by omega
  rcases this with rfl | rfl | rfl | rfl | rfl | rfl <;> decide
theorem sh_pow {w : Int} (hw : 1 ≤ w ∧ w ≤ 6) : IntKind.i64.wrap (1 * 2 ^ min w.toNat 64) = top w + 1 := by
  have : w = 1 ∨ w = 2 ∨ w = 3 ∨ w = 4 ∨ w = 5 ∨ w = 6 := by omega
  rcases this with rfl | rfl | rfl | rfl | rfl | rfl <;> decide
end Go.Proofs.Ytclkehekhdfnnaa

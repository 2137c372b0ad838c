/-
  Types, cells and literals of the program: helpers of the instructions. No condition.
-/
import Derived.Test.YtimpofjjndbofaaVIn
namespace Go.Proofs.Ytimpofjjndbofaa
open Go.RowKit

/-- How many cells a type takes: none: one, and no struct. -/
def szOf (P : Program) (T : TypeId) : Option (Option Nat) :=
  match P.underlying T, P.info? T with
  | some (.struct _), some i => some (some i.size)
  | some (.array _ _), some i => some (some i.size)
  | some _, some i => if i.size = 1 then some none else none
  | _, _ => none

section
variable {P : Program}
theorem szOf_some {T : TypeId} {n : Option Nat} (h : szOf P T = some n) : ∃ u i, P.underlying T = some u ∧ P.info? T = some i ∧ i.size = n.getD 1 ∧ (∀ w, (isAgg T).run P w = .ok n.isSome w) := by
  unfold szOf at h
  split at h
  · rename_i fs i hu hi
    obtain rfl : some i.size = n := by simpa using h
    exact ⟨_, i, hu, hi, rfl, fun w => by simp [isAgg, run_underlying hu]⟩
  · rename_i m e i hu hi
    obtain rfl : some i.size = n := by simpa using h
    exact ⟨_, i, hu, hi, rfl, fun w => by simp [isAgg, run_underlying hu]⟩
  · rename_i u i hn1 hn2 hu hi
    split at h
    · rename_i h1
      obtain rfl : none = n := by simpa using h
      refine ⟨u, i, hu, hi, h1, fun w => ?_⟩
      cases u <;> first | (exfalso; exact hn1 _ rfl) | (exfalso; exact hn2 _ _ rfl) | simp [isAgg, run_underlying hu]
    · cases h
  · cases h

theorem run_sizeOf' {T : TypeId} {n : Option Nat} (h : szOf P T = some n) (w : World) : (sizeOf T).run P w = .ok (n.getD 1) w := by
  obtain ⟨u, i, _, hi, hs, _⟩ := szOf_some h
  simp [sizeOf, typeInfo, hi, hs]
theorem run_loadVar1 {T : TypeId} (h : szOf P T = some none) (w : World) (a : Addr) (v : Value) (hc : w.cell? a = some v) : (loadVar T a).run P w = .ok v w := by
  obtain ⟨u, i, _, hi, hs, hg⟩ := szOf_some h
  simp [loadVar, hg, hc]
theorem run_loadVarN {T : TypeId} {n : Nat} (h : szOf P T = some (some n)) (w : World) (b o : Nat) (us : List Value) (hl : us.length = n) (hc : ∀ j v, us[j]? = some v → w.cell? ⟨b, o + j, none⟩ = some v) :
    (loadVar T ⟨b, o, none⟩).run P w = .ok (.agg us.toArray) w := by
  obtain ⟨u, i, _, hi, hs, hg⟩ := szOf_some h
  have := run_loadCells_list (P := P) w ⟨b, o, none⟩ us (fun j v hj => by rw [Addr.add_lit]; exact hc j v hj)
  rw [hl] at this
  simp only [loadVar, Sem.run_bind, hg, Result.andThen_ok, Option.isSome_some, if_true, run_sizeOf' h, Option.getD_some, this, Sem.run_pure]
theorem run_storeVar {T : TypeId} {n : Option Nat} (h : szOf P T = some n) (w : World) (b o : Nat) (x : Value) (vs : List Value) (hx : x.cells.toList = vs) (hl : vs.length = n.getD 1) (h1 : ∀ v ∈ vs, v.oneCell' = true)
    (cur : Array Value) (U : TypeId) (hb : w.heap[b]? = some (.cells cur U (0, 0))) (hle : o + vs.length ≤ cur.size) :
    (storeVar T ⟨b, o, none⟩ x).run P w = .ok () (w.setRow b (cur.toList.take o ++ vs ++ cur.toList.drop (o + vs.length)).toArray) := by
  have hst := run_storeCells_at P b o U vs 0 cur w hb (by omega) h1
  have hsz : x.cells.size = n.getD 1 := by rw [← hl, ← hx]; simp
  have hne : ¬ (x.cells.size ≠ n.getD 1) := by simp [hsz]
  simp only [storeVar, Sem.run_bind, run_sizeOf' h, Result.andThen_ok, if_neg hne, hx]
  simpa using hst
end

theorem setAll_get {α : Type} (l us : List α) (o : Nat) (h : o + us.length ≤ l.length) (j : Nat) :
    (l.take o ++ us ++ l.drop (o + us.length))[j]? = if o ≤ j ∧ j < o + us.length then us[j - o]? else l[j]? := by
  have ht : (l.take o).length = o := by rw [List.length_take]; omega
  by_cases h1 : j < o
  · rw [if_neg (by omega), List.append_assoc, List.getElem?_append_left (by omega), List.getElem?_take_of_lt h1]
  · by_cases h2 : j < o + us.length
    · rw [if_pos ⟨by omega, h2⟩, List.getElem?_append_left (by rw [List.length_append]; omega), List.getElem?_append_right (by omega), ht]
    · rw [if_neg (by omega), List.getElem?_append_right (by rw [List.length_append]; omega), List.length_append, ht, List.getElem?_drop]
      congr 1
      omega
theorem setAll_length {α : Type} (l us : List α) (o : Nat) (h : o + us.length ≤ l.length) : (l.take o ++ us ++ l.drop (o + us.length)).length = l.length := by
  simp; omega
theorem setC_get (cs : List D) (o : Nat) (d : D) (n : Option Nat) (h : D.asCok d n) (hle : o + n.getD 1 ≤ cs.length) (j : Nat) :
    (D.setC cs o d n)[j]? = if o ≤ j ∧ j < o + (D.asC d n).length then (D.asC d n)[j - o]? else cs[j]? := by
  cases n with
  | none =>
    have hle' : o + 1 ≤ cs.length := hle
    show (cs.set o d)[j]? = if o ≤ j ∧ j < o + [d].length then [d][j - o]? else cs[j]?
    rw [List.getElem?_set]
    by_cases e : o = j
    · subst e; simp; omega
    · rw [if_neg e, if_neg (by simp; omega)]
  | some n =>
    have hl : (D.asC d (some n)).length = n := by
      cases d with
      | agg us => exact h
      | _ => exact h.elim
    exact setAll_get _ _ _ (by rw [hl]; exact hle) j
theorem asC_length {d : D} {n : Option Nat} (h : D.asCok d n) : (D.asC d n).length = n.getD 1 := by
  cases n with
  | none => rfl
  | some n =>
    cases d with
    | agg us => exact h
    | _ => exact h.elim
theorem setC_length (cs : List D) (o : Nat) (d : D) (n : Option Nat) (h : D.asCok d n) (hle : o + n.getD 1 ≤ cs.length) : (D.setC cs o d n).length = cs.length := by
  cases n with
  | none => simp [D.setC]
  | some n => exact setAll_length _ _ _ (by rw [asC_length h]; exact hle)
theorem setC_all (cs : List D) (o : Nat) (d : D) (n : Option Nat) (h : D.asCok d n) (hle : o + n.getD 1 ≤ cs.length) : D.setC cs o d n = D.setAll cs o (D.asC d n) := by
  apply List.ext_getElem?
  intro j
  rw [setC_get _ _ _ _ h hle, D.setAll, setAll_get _ _ _ (by rw [asC_length h]; exact hle)]

theorem fold_set (o : Nat) (l : List Value) : ∀ (k : Nat) (cs : Array Value), o + k + l.length ≤ cs.size →
    ((l.zipIdx k).foldl (fun (c : Array Value) (p : Value × Nat) => c.setIfInBounds (o + p.2) p.1) cs).toList = cs.toList.take (o + k) ++ l ++ cs.toList.drop (o + k + l.length) := by
  induction l with
  | nil => intro k cs _; simp
  | cons v l ih =>
    intro k cs h
    rw [List.zipIdx_cons, List.foldl_cons, ih (k + 1) _ (by simp at h ⊢; omega)]
    have e := list_seg_step cs.toList (o + k) v l (by simp at h ⊢; omega)
    simpa [Array.toList_setIfInBounds, Nat.add_assoc] using e

theorem fill_set (o : Nat) (v cs : Array Value) (h : o + v.size ≤ cs.size) :
    v.zipIdx.foldl (fun cs (c, j) => cs.setIfInBounds (o + j) c) cs = (cs.toList.take o ++ v.toList ++ cs.toList.drop (o + v.toList.length)).toArray := by
  apply Array.ext'
  rw [← Array.foldl_toList, Array.toList_zipIdx]
  exact fold_set o v.toList 0 cs (by simpa using h)

theorem flat_get {es : List D} {s : Nat} (hlen : ∀ (e : D), e ∈ es → e.cells.length = s) : ∀ (i j : Nat), j < s → (D.flat es)[i * s + j]? = (es[i]?).bind fun e => e.cells[j]? := by
  induction es with
  | nil => intro i j _; simp [D.flat]
  | cons e es ih =>
    intro i j hj
    have he := hlen e (List.mem_cons_self ..)
    rw [D.flat, List.flatMap_cons]
    cases i with
    | zero => rw [List.getElem?_append_left (by rw [he]; omega)]; simp
    | succ i =>
      rw [List.getElem?_append_right (by rw [he, Nat.add_mul]; omega), he]
      have := ih (fun e he => hlen e (List.mem_cons_of_mem _ he)) i j hj
      rw [D.flat] at this
      rw [show (i + 1) * s + j - s = i * s + j by rw [Nat.add_mul]; omega, this]
      simp
theorem flat_len {es : List D} {s : Nat} (hlen : ∀ (e : D), e ∈ es → e.cells.length = s) : (D.flat es).length = es.length * s := by
  induction es with
  | nil => simp [D.flat]
  | cons e es ih =>
    have := ih (fun e he => hlen e (List.mem_cons_of_mem _ he))
    rw [D.flat] at this
    rw [D.flat, List.flatMap_cons, List.length_append, hlen e (List.mem_cons_self ..), this, List.length_cons, Nat.add_mul]
    omega

/-- A field of a struct: where it lies, how many cells it takes. -/
def fldOf (P : Program) (S f : Nat) : Option (Nat × Option Nat) :=
  match P.underlying S with
  | some (.struct fields) => match fields[f]? with
    | some fd => match szOf P fd.type with
      | some n => if n.getD 1 = 0 then none else some (fd.offset, n)
      | none => none
    | none => none
  | _ => none
theorem fldOf_some {P : Program} {S f q : Nat} {n : Option Nat} (h : fldOf P S f = some (q, n)) : ∃ fields fd, P.underlying S = some (.struct fields) ∧ fields[f]? = some fd ∧ fd.offset = q ∧ szOf P fd.type = some n ∧ n.getD 1 ≠ 0 := by
  unfold fldOf at h
  split at h
  · rename_i fields hu
    split at h
    · rename_i fd hf
      split at h
      · rename_i m hm
        split at h
        · cases h
        · rename_i h0
          obtain ⟨rfl, rfl⟩ : fd.offset = q ∧ m = n := by simpa using h
          exact ⟨fields, fd, hu, hf, rfl, hm, h0⟩
      · cases h
    · cases h
  · cases h

theorem flat_set {es : List D} {s : Nat} (hlen : ∀ (e : D), e ∈ es → e.cells.length = s) {i : Nat} (hi : i < es.length) {e : D} (he : e.cells.length = s) : D.flat (es.set i e) = D.setAll (D.flat es) (i * s) e.cells := by
  induction es generalizing i with
  | nil => simp at hi
  | cons x es ih =>
    have hx := hlen x (List.mem_cons_self ..)
    cases i with
    | zero =>
      rw [List.set_cons_zero, D.flat, List.flatMap_cons, D.setAll, Nat.zero_mul, List.take_zero, List.nil_append, Nat.zero_add, he, D.flat, List.flatMap_cons, List.drop_append_of_le_length (by omega), List.drop_of_length_le (by omega), List.nil_append]
    | succ i =>
      have := ih (fun e he => hlen e (List.mem_cons_of_mem _ he)) (i := i) (by simpa using hi)
      rw [D.flat, D.flat] at this
      rw [List.set_cons_succ, D.flat, List.flatMap_cons, this, D.flat, List.flatMap_cons, show (i + 1) * s = x.cells.length + i * s by rw [hx, Nat.add_mul]; omega]
      rw [D.setAll, D.setAll, List.take_length_add_append, Nat.add_assoc, List.drop_length_add_append, List.append_assoc, List.append_assoc, List.append_assoc]

theorem flat_append (es fs : List D) : D.flat (es ++ fs) = D.flat es ++ D.flat fs := by simp [D.flat]

/-- A struct of numbers and Booleans alone: which of both each field is. -/
def scalars (P : Program) : Nat → List Field → Option (List Bool)
  | _, [] => some []
  | k, f :: l => if f.name != "_" && f.offset == k then (match P.underlying f.type with
    | some (.int _) => (scalars P (k + 1) l).map fun ks => true :: ks
    | some .bool => (scalars P (k + 1) l).map fun ks => false :: ks
    | _ => none) else none
def flatType (P : Program) (T : TypeId) : Option (List Bool) :=
  match P.underlying T with
  | some (.struct fields) => if !P.stoodInHeld T && !P.eqGuardType P.depth T then scalars P 0 fields.toList else none
  | _ => none


end Go.Proofs.Ytimpofjjndbofaa

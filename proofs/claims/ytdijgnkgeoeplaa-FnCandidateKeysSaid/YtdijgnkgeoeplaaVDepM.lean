/-
  What closures are good for; derivations that are accepted. No condition.
-/
import Derived.Test.YtdijgnkgeoeplaaVDepD
set_option maxHeartbeats 4000000
set_option maxRecDepth 100000
set_option linter.unusedVariables false
set_option linter.unusedSimpArgs false
namespace Go.Proofs.Ytdijgnkgeoeplaa
open Go.RowKit

/-- A set from which nothing more follows. -/
def closed (l : List De) (c : Int) : Prop := ∀ d, d ∈ l → sub d.f c → sub d.t c
section
variable {w : Int} {l : List De} {s : Int} (hw : 1 ≤ w ∧ w ≤ 6)
include hw
theorem stp_sup {d : De} (hd : deOk w d) (hs : sOk w s) : sub s (stp s d) := by
  unfold stp
  split
  · exact sub_or_l (hs.inS hw) (hd.2.inS hw)
  · exact sub_refl s
theorem stp_least {d : De} (hd : deOk w d) (hs : sOk w s) {c : Int} (h : sub s c) (hc : sub d.f c → sub d.t c) : sub (stp s d) c := by
  unfold stp
  split
  · rename_i hf
    exact or_sub (hs.inS hw) (hd.2.inS hw) h (hc (sub_trans hf.1 h))
  · exact h
theorem fold_sup : ∀ (l : List De) (s : Int), (∀ d, d ∈ l → deOk w d) → sOk w s → sub s (fold l s)
  | [], s, _, hs => sub_refl s
  | d :: l, s, hl, hs => sub_trans (stp_sup hw (hl d List.mem_cons_self) hs) (fold_sup l (stp s d) (fun x hx => hl x (List.mem_cons_of_mem _ hx)) (stp_ok hw (hl d List.mem_cons_self) hs))
theorem fold_least {c : Int} : ∀ (l : List De) (s : Int), (∀ d, d ∈ l → deOk w d) → sOk w s → sub s c → (∀ d, d ∈ l → sub d.f c → sub d.t c) → sub (fold l s) c
  | [], s, _, hs, h, _ => h
  | d :: l, s, hl, hs, h, hc => fold_least l (stp s d) (fun x hx => hl x (List.mem_cons_of_mem _ hx)) (stp_ok hw (hl d List.mem_cons_self) hs) (stp_least hw (hl d List.mem_cons_self) hs h (hc d List.mem_cons_self)) (fun x hx => hc x (List.mem_cons_of_mem _ hx))
theorem itd_sup (hl : ∀ d, d ∈ l → deOk w d) (hs : sOk w s) : ∀ n, sub s (itd l s n)
  | 0 => sub_refl s
  | n + 1 => sub_trans (itd_sup hl hs n) (fold_sup hw l _ hl (itd_ok hw hl hs n))
theorem itd_least (hl : ∀ d, d ∈ l → deOk w d) (hs : sOk w s) {c : Int} (h : sub s c) (hc : closed l c) : ∀ n, sub (itd l s n) c
  | 0 => h
  | n + 1 => fold_least hw l _ hl (itd_ok hw hl hs n) (itd_least hl hs h hc n) hc
theorem cl_sup (hl : ∀ d, d ∈ l → deOk w d) (hs : sOk w s) : sub s (cl l s) := itd_sup hw hl hs 64
theorem cl_least (hl : ∀ d, d ∈ l → deOk w d) (hs : sOk w s) {c : Int} (h : sub s c) (hc : closed l c) : sub (cl l s) c := itd_least hw hl hs h hc 64
theorem cl_fix (hl : ∀ d, d ∈ l → deOk w d) (hs : sOk w s) : fold l (cl l s) = cl l s := by
  obtain ⟨k, h1, h2, h3, h4⟩ := passes hw hl hs
  have : fold l (itd l s k) = cl l s := h3
  rwa [h4] at this
theorem cl_closed (hl : ∀ d, d ∈ l → deOk w d) (hs : sOk w s) : closed l (cl l s) := by
  intro d hd hf
  obtain ⟨j, hj⟩ := List.mem_iff_getElem?.1 hd
  have hcl := cl_ok hw hl hs
  have hfix := cl_fix hw hl hs
  have h1 := fold_le hw (l.take j) _ (take_deOk hl j) hcl
  have h2 := fold_ok hw (l.take j) _ (take_deOk hl j) hcl
  have h3 := stp_le hw (hl d hd) h2
  have h4 := fold_next (s := cl l s) hj
  have h5 : fold (l.take (j + 1)) (cl l s) ≤ fold l (cl l s) := by
    have e : fold l (cl l s) = fold (l.drop (j + 1)) (fold (l.take (j + 1)) (cl l s)) := by
      unfold fold
      rw [← List.foldl_append, List.take_append_drop]
    have := fold_le hw (l.drop (j + 1)) (fold (l.take (j + 1)) (cl l s)) (fun d hd => hl d (List.mem_of_mem_drop hd)) (fold_ok hw _ _ (take_deOk hl (j + 1)) hcl)
    omega
  have e : fold (l.take j) (cl l s) = cl l s := by omega
  rw [e] at h3 h4
  apply Classical.byContradiction
  intro hn
  have := h3.2.2 ⟨hf, hn⟩
  omega
theorem cl_mono (hl : ∀ d, d ∈ l → deOk w d) (hs : sOk w s) {t : Int} (ht : sOk w t) (h : sub s t) : sub (cl l s) (cl l t) := cl_least hw hl hs (sub_trans h (cl_sup hw hl ht)) (cl_closed hw hl ht)
theorem cl_cl (hl : ∀ d, d ∈ l → deOk w d) (hs : sOk w s) : cl l (cl l s) = cl l s := by
  have hc := cl_ok hw hl hs
  exact sub_antisymm ((cl_ok hw hl hc).inS hw) (hc.inS hw) (cl_least hw hl hc (sub_refl _) (cl_closed hw hl hs)) (cl_sup hw hl hc)
theorem cl_nil (hs : sOk w s) : cl [] s = s := by
  have hl : ∀ d, d ∈ ([] : List De) → deOk w d := fun d hd => by cases hd
  exact sub_antisymm ((cl_ok hw hl hs).inS hw) (hs.inS hw) (cl_least hw hl hs (sub_refl _) (fun d hd => by cases hd)) (cl_sup hw hl hs)
end
/-- What the i-th dependency adds. -/
def tOf (l : List De) (i : Int) : Int := match l[i.toNat]? with
  | some d => d.t
  | none => 0
/-- A set, extended by steps. -/
def run (l : List De) (q : List Int) (s : Int) : Int := q.foldl (fun s i => bor s (tOf l i)) s
/-- Steps that are allowed, each at its set. -/
def stOk (l : List De) (i s : Int) : Prop := (0 ≤ i ∧ i ≤ l.length - 1) ∧ ∀ d, l[i.toNat]? = some d → sub d.f s
def good (l : List De) : List Int → Int → Prop
  | [], _ => True
  | i :: q, s => stOk l i s ∧ good l q (bor s (tOf l i))
theorem run_append (l : List De) (a b : List Int) (s : Int) : run l (a ++ b) s = run l b (run l a s) := List.foldl_append
theorem good_append (l : List De) : ∀ (a b : List Int) (s : Int), good l (a ++ b) s ↔ good l a s ∧ good l b (run l a s)
  | [], b, s => ⟨fun h => ⟨trivial, h⟩, fun h => h.2⟩
  | i :: a, b, s => by
    show stOk l i s ∧ good l (a ++ b) (bor s (tOf l i)) ↔ (stOk l i s ∧ good l a (bor s (tOf l i))) ∧ good l b (run l a (bor s (tOf l i)))
    rw [good_append l a b]
    exact ⟨fun ⟨x, y, z⟩ => ⟨⟨x, y⟩, z⟩, fun ⟨⟨x, y⟩, z⟩ => ⟨x, y, z⟩⟩
theorem good_take {l : List De} {q : List Int} {s : Int} (h : good l q s) (i : Nat) : good l (q.take i) s := by
  rw [← List.take_append_drop i q] at h
  exact ((good_append l _ _ s).1 h).1
theorem good_next {l : List De} {q : List Int} {s : Int} {i : Nat} {x : Int} (hx : q[i]? = some x) : good l (q.take (i + 1)) s ↔ good l (q.take i) s ∧ stOk l x (run l (q.take i) s) := by
  rw [take_next hx, good_append]
  exact ⟨fun h => ⟨h.1, h.2.1⟩, fun h => ⟨h.1, h.2, trivial⟩⟩
theorem run_next {l : List De} {q : List Int} {s : Int} {i : Nat} {x : Int} (hx : q[i]? = some x) : run l (q.take (i + 1)) s = bor (run l (q.take i) s) (tOf l x) := by
  rw [take_next hx, run_append]
  rfl
section
variable {w : Int} {l : List De} (hw : 1 ≤ w ∧ w ≤ 6) (hl : ∀ d, d ∈ l → deOk w d)
include hw hl
theorem tOf_ok (i : Int) : sOk w (tOf l i) := by
  unfold tOf
  split
  · rename_i d hd
    exact (hl d (List.mem_of_getElem? hd)).2
  · exact ⟨Int.le_refl _, by have := top_small hw; omega⟩
theorem run_ok : ∀ (q : List Int) (s : Int), sOk w s → sOk w (run l q s)
  | [], s, h => h
  | i :: q, s, h => run_ok q _ (sOk_bor hw h (tOf_ok hw hl i))
theorem run_least {c : Int} (hc : closed l c) : ∀ (q : List Int) (s : Int), sOk w s → good l q s → sub s c → sub (run l q s) c
  | [], s, _, _, h => h
  | i :: q, s, hs, hg, h => by
    have ht := tOf_ok hw hl i
    refine run_least hc q _ (sOk_bor hw hs ht) hg.2 (or_sub (hs.inS hw) (ht.inS hw) h ?_)
    obtain ⟨⟨h0, h1⟩, h2⟩ := hg.1
    have hx : l[i.toNat]? = some (l[i.toNat]'(by omega)) := List.getElem?_eq_getElem (by omega)
    have e : tOf l i = (l[i.toNat]'(by omega)).t := by unfold tOf; rw [hx]
    rw [e]
    exact hc _ (List.getElem_mem _) (sub_trans (h2 _ hx) h)
end
end Go.Proofs.Ytdijgnkgeoeplaa

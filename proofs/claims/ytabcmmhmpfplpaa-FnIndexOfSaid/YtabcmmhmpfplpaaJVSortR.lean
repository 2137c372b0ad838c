/-
  Rows of valid tables are sorted. Plain lemmas.
-/
import Derived.Test.YtabcmmhmpfplpaaVCntM
import Derived.Test.YtabcmmhmpfplpaaVSrt
import Derived.Test.YtabcmmhmpfplpaaVSort
import Derived.Test.YtabcmmhmpfplpaaVLays
set_option linter.unusedVariables false
namespace Go.Proofs.Ytabcmmhmpfplpaa
open Go.RowKit

theorem asc_of_tOk {t : Ta} (h : tOk t) : Asc t.rows := by
  refine List.pairwise_iff_getElem.2 (fun i j hi hj hij => ?_)
  have := tOk_le h (j - i) i t.rows[i] t.rows[j] (List.getElem?_eq_getElem hi) (by rw [show i + (j - i) = j by omega]; exact List.getElem?_eq_getElem hj)
  exact this
theorem rsw_of_tOk {t : Ta} (h : tOk t) : RsW t.w.toNat t.rows := fun r hr => by
  obtain ⟨i, hi⟩ := List.mem_iff_getElem?.1 hr
  have := h.2 i r hi
  exact ⟨by have := this.1.2; omega, this.1.1.2⟩
theorem tOk_of {w : Nat} {rs : List (List V)} (hw : 1 ≤ w ∧ w ≤ 6) (hl : rs.length ≤ 400) (h : RsW w rs) (ha : Asc rs) : tOk ⟨w, rs⟩ := by
  refine ⟨⟨⟨by show (1 : Int) ≤ w; omega, by show (w : Int) ≤ 6; omega⟩, hl⟩, fun i r hr => ?_⟩
  have hm := h r (List.mem_of_getElem? hr)
  refine ⟨⟨⟨⟨by omega, by omega⟩, hm.2⟩, by show (r.length : Int) = w; omega⟩, fun q h0 hq => ?_⟩
  exact asc_at ha (show i - 1 < i by omega) hq hr
end Go.Proofs.Ytabcmmhmpfplpaa
set_option linter.unusedVariables false
namespace Go.Proofs.Ytabcmmhmpfplpaa
open Go.RowKit

theorem cntE_perm {row : List V} {l m : List (List V)} (h : l.Perm m) : cntE row l = cntE row m := by
  unfold cntE
  exact (h.filter _).length_eq
theorem cntE_pos {row : List V} {l : List (List V)} : 0 < cntE row l ↔ row ∈ l := by
  unfold cntE
  rw [List.length_pos_iff_exists_mem]
  constructor
  · rintro ⟨a, ha⟩
    have h := List.mem_filter.1 ha
    have e : a = row := cmpR_eq (by simpa using h.2)
    exact e ▸ h.1
  · intro h
    exact ⟨row, List.mem_filter.2 ⟨h, by simpa using cmpR_self row⟩⟩
theorem cntE_same (row : List V) (l : List (List V)) : cntE row (row :: l) = cntE row l + 1 := by
  unfold cntE
  rw [List.filter_cons, if_pos (by simpa using cmpR_self row), List.length_cons]
theorem cntE_ne {row x : List V} (h : x ≠ row) (l : List (List V)) : cntE row (x :: l) = cntE row l := by
  unfold cntE
  rw [List.filter_cons, if_neg (fun e => h (cmpR_eq (by simpa using e)))]
theorem cntE_two' (row x : List V) (l m : List (List V)) (h : cntE row (x :: l) = cntE row (x :: m)) : cntE row l = cntE row m := by
  by_cases e : x = row
  · subst e
    rw [cntE_same, cntE_same] at h
    omega
  · rwa [cntE_ne e, cntE_ne e] at h
theorem perm_of_cnt : ∀ {l m : List (List V)}, (∀ r, cntE r l = cntE r m) → l.Perm m
  | [], m, h => by
    cases m with
    | nil => exact List.Perm.refl _
    | cons x m =>
      have := h x
      rw [cntE_same] at this
      have h0 : cntE x [] = 0 := rfl
      omega
  | x :: l, m, h => by
    have hx : x ∈ m := by
      rw [← cntE_pos, ← h x, cntE_same]
      omega
    obtain ⟨s, t, rfl⟩ := List.append_of_mem hx
    have hp : (s ++ x :: t).Perm (x :: (s ++ t)) := List.perm_middle
    refine List.Perm.trans (List.Perm.cons x (perm_of_cnt fun r => ?_)) hp.symm
    have := h r
    rw [cntE_perm hp] at this
    exact cntE_two' r x l (s ++ t) this
/-- Sorted lists with the same counts are equal. -/
theorem asc_unique {w : Nat} {l m : List (List V)} (hm : RsW w m) (al : Asc l) (am : Asc m) (h : ∀ r, cntE r l = cntE r m) : l = m := by
  rw [srt_unique hm (perm_of_cnt h) al, srt_of_asc hm am]
theorem asc_sub {l m : List (List V)} (h : l.Sublist m) (am : Asc m) : Asc l := am.sublist h
theorem rsw_sub {w : Nat} {l m : List (List V)} (h : l.Sublist m) (hm : RsW w m) : RsW w l := fun r hr => hm r (h.subset hr)
theorem rsw_app {w : Nat} {l m : List (List V)} (hl : RsW w l) (hm : RsW w m) : RsW w (l ++ m) := fun r hr => by
  rcases List.mem_append.1 hr with h | h
  · exact hl r h
  · exact hm r h
theorem cntE_srt (row : List V) (l : List (List V)) : cntE row (srt l) = cntE row l := cntE_perm (srt_perm l)
theorem nil_of_cnt {l : List (List V)} (h : ∀ r, cntE r l = 0) : l = [] := by
  cases l with
  | nil => rfl
  | cons x l =>
    have := h x
    rw [cntE_same] at this
    omega
theorem cnt_sum_len {l m : List (List V)} (h : ∀ r, cntE r l = cntE r m) : l.length = m.length := (perm_of_cnt h).length_eq
end Go.Proofs.Ytabcmmhmpfplpaa
set_option maxHeartbeats 4000000
set_option maxRecDepth 100000
set_option linter.unusedVariables false
set_option linter.unusedSimpArgs false
namespace Go.Proofs.Ytabcmmhmpfplpaa
open Go.RowKit

def okR (w : Nat) (r : List V) : Prop := r.length = w ∧ ∀ v, v ∈ r → v.ok
theorem ord_rows (w : Nat) : OrdOn cmpR (okR w) where
  irrefl a _ := by have := cmpR_self a; omega
  trans a b c ha hb hc h1 h2 := (cmpR_trans a b c (by have := ha.1; have := hb.1; omega) (by have := hb.1; have := hc.1; omega) ha.2 hb.2 hc.2 (by omega)).2 h2
  ntrans a b c ha hb hc h1 h2 := by
    have e1 := cmpR_anti a b (by have := ha.1; have := hb.1; omega) ha.2 hb.2
    have e2 := cmpR_anti b c (by have := hb.1; have := hc.1; omega) hb.2 hc.2
    have e3 := cmpR_anti a c (by have := ha.1; have := hc.1; omega) ha.2 hc.2
    have := (cmpR_trans c b a (by have := hc.1; have := hb.1; omega) (by have := hb.1; have := ha.1; omega) hc.2 hb.2 ha.2 (by omega)).1 (by omega)
    omega
theorem sortL_srt {w : Nat} {rs : List (List V)} (h : RsW w rs) : sortL cmpR rs = srt rs := by
  have hp := sortL_perm (ord_rows w) rs h
  refine srt_unique h hp ?_
  refine List.Pairwise.imp_of_mem ?_ (sortL_asc (ord_rows w) rs h)
  intro a b ha hb hab
  have ga := h a (hp.mem_iff.1 ha)
  have gb := h b (hp.mem_iff.1 hb)
  have := cmpR_anti a b (by omega) ga.2 gb.2
  unfold leR
  omega
theorem sortRows_ok (w : Nat) (hw : w < 1000) (rs : List (List V)) (h : RsW w rs) (hl : rs.length ≤ 100000) : Does Try.prog 60 [.row 1 (rs.map rowD)] [.own 1000000 1 rs.length, .fn 39 []] (.tup []) [.row 1 ((srt rs).map rowD)] := by
  have := sort_own rowsSort (g := 39) (by kernel_rfl) (caps := []) rfl rowD (fun _ => rfl) (fun _ => rfl) (ord_rows w) (fun a b ha hb => compareRows_impl a b (by have := ha.1; have := hb.1; omega) (by have := ha.1; omega) ha.2 hb.2) rs h (by omega)
  rw [sortL_srt h] at this
  exact this
end Go.Proofs.Ytabcmmhmpfplpaa

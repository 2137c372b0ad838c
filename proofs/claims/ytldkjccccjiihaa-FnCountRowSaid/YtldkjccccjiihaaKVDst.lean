/-
  Distinct rows: what is in them. No condition.
-/
import Derived.Test.YtldkjccccjiihaaKVPeE
import Derived.Test.YtldkjccccjiihaaVBag
set_option maxHeartbeats 4000000
set_option maxRecDepth 100000
set_option linter.unusedVariables false
set_option linter.unusedSimpArgs false
namespace Go.Proofs.Ytldkjccccjiihaa
open Go.RowKit

/-- Strictly ascending rows. -/
def AscS (l : List (List V)) : Prop := l.Pairwise (fun a b => cmpR a b < 0)
theorem AscS.asc {l : List (List V)} (h : AscS l) : Asc l := List.Pairwise.imp (fun h => Int.le_of_lt h) h
theorem AscS.cnt {l : List (List V)} (h : AscS l) (x : List V) : cntE x l ≤ 1 := by
  induction l with
  | nil => exact Nat.zero_le _
  | cons a l ih =>
    obtain ⟨h1, h2⟩ := List.pairwise_cons.1 h
    by_cases ha : a = x
    · subst ha
      have h0 : cntE a l = 0 := Nat.eq_zero_of_not_pos (fun hp => by
        have := h1 a (cntE_pos.1 hp)
        rw [cmpR_self] at this
        exact absurd this (by decide))
      rw [cntE_same, h0]
      decide
    · rw [cntE_ne ha]; exact ih h2
theorem ascS_unique {w : Nat} {l m : List (List V)} (hm : RsW w m) (al : AscS l) (am : AscS m) (h : ∀ x, x ∈ l ↔ x ∈ m) : l = m :=
  asc_unique hm al.asc am.asc fun x => by
    have h1 := al.cnt x
    have h2 := am.cnt x
    have h3 := h x
    rw [← cntE_pos, ← cntE_pos] at h3
    omega
theorem ascR_at {l : List (List V)} (h : Asc l) {i j : Nat} {x y : List V} (hij : i < j) (hx : l[i]? = some x) (hy : l[j]? = some y) : cmpR x y ≤ 0 := by
  obtain ⟨h1, e1⟩ := List.getElem?_eq_some_iff.1 hx
  obtain ⟨h2, e2⟩ := List.getElem?_eq_some_iff.1 hy
  have := List.pairwise_iff_getElem.1 h i j h1 h2 hij
  rw [e1, e2] at this
  exact this
theorem dst_in {w : Nat} {rs : List (List V)} (hr : RsW w rs) (ha : Asc rs) : ∀ i, i ≤ rs.length → AscS (dstL rs i) ∧ ∀ x, x ∈ dstL rs i ↔ x ∈ rs.take i
  | 0, _ => ⟨List.Pairwise.nil, fun x => by rw [List.take_zero]; exact Iff.rfl⟩
  | i + 1, hi => by
    obtain ⟨h1, h2⟩ := dst_in hr ha i (by omega)
    obtain ⟨x, hx⟩ : ∃ x, rs[i]? = some x := ⟨_, List.getElem?_eq_getElem (by omega)⟩
    have hgx : rs.getD i [] = x := by rw [List.getD_eq_getElem?_getD, hx]; rfl
    have htk := take_next hx
    rw [dstL, hgx]
    cases i with
    | zero =>
      rw [if_pos (show dstP rs 0 = true from rfl), htk, List.take_zero]
      exact ⟨List.pairwise_singleton .., fun z => Iff.rfl⟩
    | succ j =>
      obtain ⟨y, hy⟩ : ∃ y, rs[j]? = some y := ⟨_, List.getElem?_eq_getElem (by omega)⟩
      have hgy : rs.getD j [] = y := by rw [List.getD_eq_getElem?_getD, hy]; rfl
      have hdp : dstP rs (j + 1) = !(cmpR y x == 0) := by
        show (!(cmpR (rs.getD j []) (rs.getD (j + 1) []) == 0)) = _
        rw [hgy, hgx]
      have hyx : cmpR y x ≤ 0 := ascR_at ha (Nat.lt_succ_self j) hy hx
      have hym : y ∈ rs.take (j + 1) := by rw [take_next hy]; exact List.mem_append_right _ (List.mem_singleton.2 rfl)
      have hxr := hr x (List.mem_of_getElem? hx)
      have hyr := hr y (List.mem_of_getElem? hy)
      by_cases he : cmpR y x = 0
      · have hyx := cmpR_eq he
        rw [if_neg (by rw [hdp, he]; decide), List.append_nil]
        refine ⟨h1, fun z => ?_⟩
        rw [h2 z, htk, List.mem_append, List.mem_singleton]
        exact ⟨Or.inl, fun h => h.elim id (fun h => by rw [h, ← hyx]; exact hym)⟩
      · have hlt : cmpR y x < 0 := by omega
        rw [if_pos (by rw [hdp]; simp [he])]
        refine ⟨List.pairwise_append.2 ⟨h1, List.pairwise_singleton .., fun z hz u hu => ?_⟩, fun z => ?_⟩
        · rw [List.mem_singleton.1 hu]
          have hzm := (h2 z).1 hz
          have hzr := hr z (List.mem_of_mem_take hzm)
          rw [take_next hy, List.mem_append, List.mem_singleton] at hzm
          rcases hzm with hzm | rfl
          · obtain ⟨k, hk⟩ := List.mem_iff_getElem?.1 hzm
            have hkl := (List.getElem?_eq_some_iff.1 hk).1
            rw [List.length_take] at hkl
            have hk2 : rs[k]? = some z := by rw [List.getElem?_take] at hk; split at hk <;> first | exact hk | cases hk
            exact (cmpR_trans z y x (by rw [hzr.1, hyr.1]) (by rw [hyr.1, hxr.1]) hzr.2 hyr.2 hxr.2 (ascR_at ha (by omega) hk2 hy)).2 hlt
          · exact hlt
        · rw [List.mem_append, h2 z, htk, List.mem_append]
theorem dst_ascS {w : Nat} {rs : List (List V)} (hr : RsW w rs) (ha : Asc rs) : AscS (dstL rs rs.length) ∧ ∀ x, x ∈ dstL rs rs.length ↔ x ∈ rs := by
  have h := dst_in hr ha rs.length (Nat.le_refl _)
  rw [List.take_length] at h
  exact h
theorem dst_rsw {w : Nat} {rs : List (List V)} (hr : RsW w rs) : RsW w (dstL rs rs.length) := by
  have h := dstL_sub rs rs.length (Nat.le_refl _)
  rw [List.take_length] at h
  exact rsw_sub h hr
/-- Distinct rows depend on the set of rows alone. -/
theorem dst_set {w : Nat} {l m : List (List V)} (hl : RsW w l) (hm : RsW w m) (al : Asc l) (am : Asc m) (h : ∀ x, x ∈ l ↔ x ∈ m) : dstL l l.length = dstL m m.length := by
  obtain ⟨l1, l2⟩ := dst_ascS hl al
  obtain ⟨m1, m2⟩ := dst_ascS hm am
  exact ascS_unique (dst_rsw hm) l1 m1 fun x => by rw [l2, m2, h]
theorem mem_srt {x : List V} {l : List (List V)} : x ∈ srt l ↔ x ∈ l := (srt_perm l).mem_iff
end Go.Proofs.Ytldkjccccjiihaa

/-
  Indexes of a column, in both packages. No condition.
-/
import Derived.Test.YtjjcokmnebkbiaaDca
import Derived.Test.YtjjcokmnebkbiaaDce
import Derived.Test.YtjjcokmnebkbiaaKVSemi
set_option maxHeartbeats 4000000
set_option maxRecDepth 100000
set_option linter.unusedVariables false
set_option linter.unusedSimpArgs false
namespace Go.Proofs.Ytjjcokmnebkbiaa
open Go.RowKit

/-- The value of a numbered row in a column. -/
def vAt (rs : List (List V)) (c : Nat) (x : Int) : V := colV c (rs.getD x.toNat [])
theorem vAt_at {rs : List (List V)} {c i : Nat} {r : List V} (h : rs[i]? = some r) : vAt rs c (i : Int) = colV c r := by
  unfold vAt
  rw [Int.toNat_natCast, List.getD_eq_getElem?_getD, h]
  rfl
/-- The rows with a number, up to one of them. -/
def nnl (rs : List (List V)) (c i : Nat) : List Int := ((List.range i).filter (fun j : Nat => !(vAt rs c (j : Int)).b)).map (fun j : Nat => (j : Int))
theorem nnl_next {rs : List (List V)} {c i : Nat} : nnl rs c (i + 1) = nnl rs c i ++ (if (vAt rs c (i : Int)).b = true then [] else [(i : Int)]) := by
  unfold nnl
  rw [List.range_succ, List.filter_append, List.map_append]
  congr 1
  rw [List.filter_cons]
  cases (vAt rs c (i : Int)).b <;> rfl
theorem nnl_mem {rs : List (List V)} {c i : Nat} {x : Int} : x ∈ nnl rs c i ↔ (0 ≤ x ∧ x < i) ∧ (vAt rs c x).b = false := by
  unfold nnl
  rw [List.mem_map]
  constructor
  · rintro ⟨j, hj, rfl⟩
    have := List.mem_filter.1 hj
    have h1 := List.mem_range.1 this.1
    exact ⟨by omega, by simpa using this.2⟩
  · rintro ⟨⟨h0, h1⟩, hb⟩
    refine ⟨x.toNat, List.mem_filter.2 ⟨List.mem_range.2 (by omega), ?_⟩, by omega⟩
    rw [show ((x.toNat : Nat) : Int) = x by omega, hb]
    rfl
theorem nnl_len (rs : List (List V)) (c i : Nat) : (nnl rs c i).length ≤ i := by
  unfold nnl
  rw [List.length_map]
  exact Nat.le_trans (List.length_filter_le _ _) (by rw [List.length_range]; exact Nat.le_refl _)
theorem nnl_up (rs : List (List V)) (c i : Nat) : (nnl rs c i).Pairwise (· < ·) := by
  unfold nnl
  rw [List.pairwise_map]
  exact List.Pairwise.imp (fun h => by omega) (List.Pairwise.filter _ List.pairwise_lt_range)
/-- The order of an index. -/
def ltI (rs : List (List V)) (c : Nat) (x y : Int) : Prop := (vAt rs c x).n < (vAt rs c y).n ∨ ((vAt rs c x).n = (vAt rs c y).n ∧ x < y)
theorem ltI_tr {rs : List (List V)} {c : Nat} {x y z : Int} (h1 : ltI rs c x y) (h2 : ltI rs c y z) : ltI rs c x z := by
  unfold ltI at *
  omega
theorem ltI_unique {rs : List (List V)} {c : Nat} {l m : List Int} (hp : l.Perm m) (hl : l.Pairwise (ltI rs c)) (hm : m.Pairwise (ltI rs c)) : l = m := by
  refine List.Perm.eq_of_pairwise (le := ltI rs c) ?_ hl hm hp
  intro a b _ _ h1 h2
  unfold ltI at h1 h2
  omega
theorem ix_ex (rs : List (List V)) (c : Nat) : ∃ s : List Int, s.Perm (nnl rs c rs.length) ∧ s.Pairwise (ltI rs c) := by
  let le : Int → Int → Bool := fun x y => decide ((vAt rs c x).n < (vAt rs c y).n ∨ ((vAt rs c x).n = (vAt rs c y).n ∧ x ≤ y))
  have hle : ∀ a b d : Int, le a b = true → le b d = true → le a d = true := fun a b d h1 h2 => by
    simp only [le, decide_eq_true_eq] at *
    omega
  have htot : ∀ a b : Int, (le a b || le b a) = true := fun a b => by
    simp only [le, Bool.or_eq_true, decide_eq_true_eq]
    omega
  have hp := List.mergeSort_perm (nnl rs c rs.length) le
  have hs := List.pairwise_mergeSort hle htot (nnl rs c rs.length)
  generalize (nnl rs c rs.length).mergeSort le = s at hp hs
  have hnd : (nnl rs c rs.length).Pairwise (· ≠ ·) := List.Pairwise.imp (fun h => by omega) (nnl_up rs c rs.length)
  have hnd2 : s.Pairwise (· ≠ ·) := hp.symm.pairwise hnd (fun h => h.symm)
  refine ⟨s, hp, ?_⟩
  refine List.Pairwise.imp (fun {a b} h => ?_) (hs.and hnd2)
  have h1 := of_decide_eq_true h.1
  have h2 := h.2
  unfold ltI
  omega
theorem cmpI_ok {t : Ta} {c : Nat} {x y : Int} (hx : (0 ≤ x ∧ x < t.rows.length) ∧ (vAt t.rows c x).ok) (hy : (0 ≤ y ∧ y < t.rows.length) ∧ (vAt t.rows c y).ok) (hc : ∀ r, r ∈ t.rows → c < r.length ∧ r.length < 1000) (hl : t.rows.length ≤ 1000) : Does Try.prog 28 [.obj [I t.w, rowsD t.rows], .obj [I c]] [I x, I y, .ref 1000000 0, .ref 1000001 0] (I (cmpV (vAt t.rows c x) (vAt t.rows c y))) [.obj [I t.w, rowsD t.rows], .obj [I c]] := by
  obtain ⟨i, rfl⟩ := Int.eq_ofNat_of_zero_le hx.1.1
  obtain ⟨j, rfl⟩ := Int.eq_ofNat_of_zero_le hy.1.1
  obtain ⟨r, hr⟩ : ∃ r, t.rows[i]? = some r := ⟨_, List.getElem?_eq_getElem (by omega)⟩
  obtain ⟨q, hq⟩ : ∃ q, t.rows[j]? = some q := ⟨_, List.getElem?_eq_getElem (by omega)⟩
  have e1 := vAt_at (c := c) hr
  have e2 := vAt_at (c := c) hq
  rw [e1] at hx ⊢
  rw [e2] at hy ⊢
  have h1 := hc r (List.mem_of_getElem? hr)
  have h2 := hc q (List.mem_of_getElem? hq)
  have hv := colV_at h1.1
  have hu := colV_at h2.1
  have h3 := Value_compare_ok (colV c r) (colV c q) hx.2 hy.2
  refine does c_impl_IndexOf_1 mixed (Nat.le_of_ble_eq_true rfl) 2 rfl ?_
  conv => arg 3; whnf
  repeat' (first | with_reducible refine acc_none ?_ | (conv in hold _ => simp (disch := omega) only [go_sem, List.getElem?_map, hr, hq, hv, hu, Option.map_some]) | refine Stp.go ?_ | (with_reducible first | refine it_pos rfl ?_ | refine it_neg (by decide) ?_ | refine st_nil rfl ?_ | refine s_op ?_ ?_ | exact True.intro) | ((with_reducible first | refine dw_reg0 ?_ | refine dw_regB ?_); (conv => arg 3; whnf)) | (refine Spl.go (fun hq he => ?_) (fun hq he => ?_) <;> first | (exfalso; clear hq; omega) | ((try (first | (conv => arg 8; simp only [hq]) | (conv => arg 4; simp only [hq]))); clear hq)) | ((with_reducible first | refine c_split (fun hq => ?_) (fun hq => ?_) | refine q_split (fun hq => ?_) (fun hq => ?_)) <;> (try (first | (conv => arg 8; simp only [hq]) | (conv => arg 4; simp only [hq])))) | (with_reducible refine fin_0 ?_ (by first | rfl | (conv => lhs; simp only [go_sem, List.getElem?_map, hr, hq, hv, hu, Option.map_some])) ?_) | exact Sub.refl _ | omega)
  refine c_doesE (h3) ?_ ?_ ?_
  · ((try (conv => rhs; simp (disch := omega) only [go_sem, List.getElem?_map, hr, hq, hv, hu, Option.map_some])); try rfl)
  · first | rfl | (conv => lhs; simp only [go_sem, List.getElem?_map, hr, hq, hv, hu, Option.map_some])
  repeat' (first | with_reducible refine acc_none ?_ | (conv in hold _ => simp (disch := omega) only [go_sem, List.getElem?_map, hr, hq, hv, hu, Option.map_some]) | refine Stp.go ?_ | (with_reducible first | refine it_pos rfl ?_ | refine it_neg (by decide) ?_ | refine st_nil rfl ?_ | refine s_op ?_ ?_ | exact True.intro) | ((with_reducible first | refine dw_reg0 ?_ | refine dw_regB ?_); (conv => arg 3; whnf)) | (refine Spl.go (fun hq he => ?_) (fun hq he => ?_) <;> first | (exfalso; clear hq; omega) | ((try (first | (conv => arg 8; simp only [hq]) | (conv => arg 4; simp only [hq]))); clear hq)) | ((with_reducible first | refine c_split (fun hq => ?_) (fun hq => ?_) | refine q_split (fun hq => ?_) (fun hq => ?_)) <;> (try (first | (conv => arg 8; simp only [hq]) | (conv => arg 4; simp only [hq])))) | (with_reducible refine fin_0 ?_ (by first | rfl | (conv => lhs; simp only [go_sem, List.getElem?_map, hr, hq, hv, hu, Option.map_some])) ?_) | exact Sub.refl _ | omega)
  refine fin_L [1000000, 1000001] ?_ ?_ rfl ?_
  repeat' (first | (conv in hold _ => simp (disch := omega) only [go_sem]) | exact True.intro | exact Sub.refl _ | omega)
theorem stable_ok {t : Ta} {cc : Int} {f : FuncId} (hf : enters Try.prog f = true) {c : Int → Int → Int} {R : Int → Int → Prop} (l0 sorted : List Int) (hn : l0.length ≤ 12) (hO : InsOK c R l0) (hc : ∀ x y, x ∈ l0 → y ∈ l0 → Does Try.prog f [.obj [I t.w, rowsD t.rows], .obj [I cc]] [I x, I y, .ref 1000000 0, .ref 1000001 0] (I (c x y)) [.obj [I t.w, rowsD t.rows], .obj [I cc]]) (hu : ∀ l : List Int, l.Perm l0 → l.Pairwise R → l = sorted) :
    Does Try.prog 27 [.obj [I t.w, rowsD t.rows], .obj [I cc], .row 1 (l0.map I)] [.own 1000002 1 l0.length, .fn f [.ref 1000000 0, .ref 1000001 0]] (.tup []) [.obj [I t.w, rowsD t.rows], .obj [I cc], .row 1 (sorted.map I)] := by
  have h := insSort_int t.rows t.w cc hf l0 sorted (by omega) hO hc hu
  have hs : Does Try.prog 45 [.obj [I t.w, rowsD t.rows], .obj [I cc], .row 1 (l0.map I)] [.own 1000002 1 l0.length, I l0.length, .fn f [.ref 1000000 0, .ref 1000001 0]] (.tup []) [.obj [I t.w, rowsD t.rows], .obj [I cc], .row 1 (sorted.map I)] := by
    refine does c_slices_stableCmpFunc_int_ mixed (Nat.le_of_ble_eq_true rfl) 3 rfl ?_
    conv => arg 3; whnf
    repeat' (first | with_reducible refine acc_none ?_ | (conv in hold _ => simp (disch := omega) only [go_sem]) | refine Stp.go ?_ | (with_reducible first | refine it_pos rfl ?_ | refine it_neg (by decide) ?_ | refine st_nil rfl ?_ | refine s_op ?_ ?_ | exact True.intro) | ((with_reducible first | refine dw_reg0 ?_ | refine dw_regB ?_); (conv => arg 3; whnf)) | (refine Spl.go (fun hq he => ?_) (fun hq he => ?_) <;> first | (exfalso; clear hq; omega) | ((try (first | (conv => arg 8; simp only [hq]) | (conv => arg 4; simp only [hq]))); clear hq)) | ((with_reducible first | refine c_split (fun hq => ?_) (fun hq => ?_) | refine q_split (fun hq => ?_) (fun hq => ?_)) <;> (try (first | (conv => arg 8; simp only [hq]) | (conv => arg 4; simp only [hq])))) | (with_reducible refine fin_0 ?_ (by first | rfl | (conv => lhs; simp only [go_sem])) ?_) | exact Sub.refl _ | omega)
    refine dw_for (c := 3) (l := fun i => [(0, .own 1000002 1 l0.length), (1, I l0.length), (2, .fn f [.ref 1000000 0, .ref 1000001 0]), (6, I 20), (7, I 0), (8, I 20), (1000000, .obj [I t.w, rowsD t.rows]), (1000001, .obj [I cc]), (1000002, .row 1 (l0.map I))]) 0 (fun _ => True) 0 trivial (Wk.list [1000000, 1000001, 1000002] rfl rfl ?_) (fun i hi _ => ?_) (Nat.zero_le _)
    · repeat' (first | (conv in hold _ => simp (disch := omega) only [go_sem]) | exact True.intro | exact Sub.refl _ | omega)
      first | exact rfl | exact ⟨rfl, rfl⟩ | skip
    · repeat' (first | with_reducible refine acc_none ?_ | (conv in hold _ => simp (disch := omega) only [go_sem]) | refine Stp.go ?_ | (with_reducible first | refine it_pos rfl ?_ | refine it_neg (by decide) ?_ | refine st_nil rfl ?_ | refine s_op ?_ ?_ | exact True.intro) | ((with_reducible first | refine dw_reg0 ?_ | refine dw_regB ?_); (conv => arg 3; whnf)) | (refine Spl.go (fun hq he => ?_) (fun hq he => ?_) <;> first | (exfalso; clear hq; omega) | ((try (first | (conv => arg 8; simp only [hq]) | (conv => arg 4; simp only [hq]))); clear hq)) | ((with_reducible first | refine c_split (fun hq => ?_) (fun hq => ?_) | refine q_split (fun hq => ?_) (fun hq => ?_)) <;> (try (first | (conv => arg 8; simp only [hq]) | (conv => arg 4; simp only [hq])))) | (with_reducible refine fin_0 ?_ (by first | rfl | (conv => lhs; simp only [go_sem])) ?_) | exact Sub.refl _ | omega)
      refine c_doesR [1000000, 1000001, 1000002] (h) (callOK_of rfl (Nat.le_of_ble_eq_true rfl) rfl ?_ ?_) ?_ ?_
      · repeat' (first | (conv in hold _ => simp (disch := omega) only [go_sem]) | exact True.intro | exact Sub.refl _ | omega)
      · repeat' (first | (conv in hold _ => simp (disch := omega) only [go_sem]) | exact True.intro | exact Sub.refl _ | omega)
      · ((conv => rhs; simp (disch := omega) only [go_sem]); try rfl)
      repeat' (first | with_reducible refine acc_none ?_ | (conv in hold _ => simp (disch := omega) only [go_sem]) | refine Stp.go ?_ | (with_reducible first | refine it_pos rfl ?_ | refine it_neg (by decide) ?_ | refine st_nil rfl ?_ | refine s_op ?_ ?_ | exact True.intro) | ((with_reducible first | refine dw_reg0 ?_ | refine dw_regB ?_); (conv => arg 3; whnf)) | (refine Spl.go (fun hq he => ?_) (fun hq he => ?_) <;> first | (exfalso; clear hq; omega) | ((try (first | (conv => arg 8; simp only [hq]) | (conv => arg 4; simp only [hq]))); clear hq)) | ((with_reducible first | refine c_split (fun hq => ?_) (fun hq => ?_) | refine q_split (fun hq => ?_) (fun hq => ?_)) <;> (try (first | (conv => arg 8; simp only [hq]) | (conv => arg 4; simp only [hq])))) | (with_reducible refine fin_0 ?_ (by first | rfl | (conv => lhs; simp only [go_sem])) ?_) | exact Sub.refl _ | omega)
      refine dw_for (c := 3) (l := fun i => [(1, I l0.length), (6, I 20), (1000000, .obj [I t.w, rowsD t.rows]), (1000001, .obj [I cc]), (1000002, .row 1 (sorted.map I))]) 0 (fun _ => True) 0 trivial (Wk.list [1000000, 1000001, 1000002] rfl rfl ?_) (fun i hi _ => ?_) (Nat.zero_le _)
      · repeat' (first | (conv in hold _ => simp (disch := omega) only [go_sem]) | exact True.intro | exact Sub.refl _ | omega)
        first | exact rfl | exact ⟨rfl, rfl⟩ | skip
      · repeat' (first | with_reducible refine acc_none ?_ | (conv in hold _ => simp (disch := omega) only [go_sem]) | refine Stp.go ?_ | (with_reducible first | refine it_pos rfl ?_ | refine it_neg (by decide) ?_ | refine st_nil rfl ?_ | refine s_op ?_ ?_ | exact True.intro) | ((with_reducible first | refine dw_reg0 ?_ | refine dw_regB ?_); (conv => arg 3; whnf)) | (refine Spl.go (fun hq he => ?_) (fun hq he => ?_) <;> first | (exfalso; clear hq; omega) | ((try (first | (conv => arg 8; simp only [hq]) | (conv => arg 4; simp only [hq]))); clear hq)) | ((with_reducible first | refine c_split (fun hq => ?_) (fun hq => ?_) | refine q_split (fun hq => ?_) (fun hq => ?_)) <;> (try (first | (conv => arg 8; simp only [hq]) | (conv => arg 4; simp only [hq])))) | (with_reducible refine fin_0 ?_ (by first | rfl | (conv => lhs; simp only [go_sem])) ?_) | exact Sub.refl _ | omega)
        refine fin_L [1000000, 1000001, 1000002] ?_ ?_ rfl ?_
        repeat' (first | (conv in hold _ => simp (disch := omega) only [go_sem]) | exact True.intro | exact Sub.refl _ | omega)
  refine does c_slices_SortStableFunc___int_int_ mixed (Nat.le_of_ble_eq_true rfl) 3 rfl ?_
  conv => arg 3; whnf
  repeat' (first | with_reducible refine acc_none ?_ | (conv in hold _ => simp (disch := omega) only [go_sem]) | refine Stp.go ?_ | (with_reducible first | refine it_pos rfl ?_ | refine it_neg (by decide) ?_ | refine st_nil rfl ?_ | refine s_op ?_ ?_ | exact True.intro) | ((with_reducible first | refine dw_reg0 ?_ | refine dw_regB ?_); (conv => arg 3; whnf)) | (refine Spl.go (fun hq he => ?_) (fun hq he => ?_) <;> first | (exfalso; clear hq; omega) | ((try (first | (conv => arg 8; simp only [hq]) | (conv => arg 4; simp only [hq]))); clear hq)) | ((with_reducible first | refine c_split (fun hq => ?_) (fun hq => ?_) | refine q_split (fun hq => ?_) (fun hq => ?_)) <;> (try (first | (conv => arg 8; simp only [hq]) | (conv => arg 4; simp only [hq])))) | (with_reducible refine fin_0 ?_ (by first | rfl | (conv => lhs; simp only [go_sem])) ?_) | exact Sub.refl _ | omega)
  refine c_doesR [1000000, 1000001, 1000002] (hs) (callOK_of rfl (Nat.le_of_ble_eq_true rfl) rfl ?_ ?_) ?_ ?_
  · repeat' (first | (conv in hold _ => simp (disch := omega) only [go_sem]) | exact True.intro | exact Sub.refl _ | omega)
  · repeat' (first | (conv in hold _ => simp (disch := omega) only [go_sem]) | exact True.intro | exact Sub.refl _ | omega)
  · ((conv => rhs; simp (disch := omega) only [go_sem]); try rfl)
  repeat' (first | with_reducible refine acc_none ?_ | (conv in hold _ => simp (disch := omega) only [go_sem]) | refine Stp.go ?_ | (with_reducible first | refine it_pos rfl ?_ | refine it_neg (by decide) ?_ | refine st_nil rfl ?_ | refine s_op ?_ ?_ | exact True.intro) | ((with_reducible first | refine dw_reg0 ?_ | refine dw_regB ?_); (conv => arg 3; whnf)) | (refine Spl.go (fun hq he => ?_) (fun hq he => ?_) <;> first | (exfalso; clear hq; omega) | ((try (first | (conv => arg 8; simp only [hq]) | (conv => arg 4; simp only [hq]))); clear hq)) | ((with_reducible first | refine c_split (fun hq => ?_) (fun hq => ?_) | refine q_split (fun hq => ?_) (fun hq => ?_)) <;> (try (first | (conv => arg 8; simp only [hq]) | (conv => arg 4; simp only [hq])))) | (with_reducible refine fin_0 ?_ (by first | rfl | (conv => lhs; simp only [go_sem])) ?_) | exact Sub.refl _ | omega)
  refine fin_L [1000000, 1000001, 1000002] ?_ ?_ rfl ?_
  repeat' (first | (conv in hold _ => simp (disch := omega) only [go_sem]) | exact True.intro | exact Sub.refl _ | omega)
theorem IndexOf_impl_t {t : Ta} (hsz : rsz t.rows ≤ 1048576) (ht : tOk t) (hl : t.rows.length ≤ 12) {c : Nat} (hc : (c : Int) < t.w) {s : List Int} (hp : s.Perm (nnl t.rows c t.rows.length)) (hs : s.Pairwise (ltI t.rows c)) : Does Try.prog 11 [] [taD t, I c] (intsD s) [] := by
  obtain ⟨w, hw, hw6, hr, _, _⟩ := tOk_nat ht
  have h1 := hasColumn_ok t hsz c
  rw [@decide_eq_true _ (Classical.propDecidable _) ⟨ht, by omega, hc⟩] at h1
  have hcl : ∀ r, r ∈ t.rows → c < r.length ∧ r.length < 1000 := fun r hm => by have := (hr r hm).1; omega
  have hvo : ∀ x : Int, 0 ≤ x ∧ x < t.rows.length → (vAt t.rows c x).ok := fun x hx => by
    obtain ⟨i, rfl⟩ := Int.eq_ofNat_of_zero_le hx.1
    obtain ⟨r, hri⟩ : ∃ r, t.rows[i]? = some r := ⟨_, List.getElem?_eq_getElem (by omega)⟩
    rw [vAt_at hri]
    have hm := List.mem_of_getElem? hri
    exact (hr r hm).2 _ (List.mem_of_getElem? (colV_at (hcl r hm).1))
  have hnl := nnl_len t.rows c t.rows.length
  have hsl : s.length = (nnl t.rows c t.rows.length).length := hp.length_eq
  have hkey : ∀ x y : Int, x ∈ nnl t.rows c t.rows.length → y ∈ nnl t.rows c t.rows.length → ((cmpV (vAt t.rows c x) (vAt t.rows c y) < 0) ↔ (vAt t.rows c x).n < (vAt t.rows c y).n) := fun x y hx hy => by
    have hx := nnl_mem.1 hx
    have hy := nnl_mem.1 hy
    have := cmpV_key (hvo x hx.1) (hvo y hy.1)
    unfold keyV at this
    rw [hx.2, hy.2] at this
    simp only [Bool.false_eq_true, if_false] at this
    omega
  have h2 := stable_ok (t := t) (cc := c) (f := 28) (by kernel_rfl) (c := fun x y => cmpV (vAt t.rows c x) (vAt t.rows c y)) (R := ltI t.rows c) (nnl t.rows c t.rows.length) s (by omega)
    ⟨fun i j x y hij hx hy h => Or.inl ((hkey x y (List.mem_of_getElem? hx) (List.mem_of_getElem? hy)).1 h), fun i j x y hij hx hy h => by
      have h3 := (hkey x y (List.mem_of_getElem? hx) (List.mem_of_getElem? hy)).2
      have hlt : y < x := by
        obtain ⟨a1, rfl⟩ := List.getElem?_eq_some_iff.1 hx
        obtain ⟨a2, rfl⟩ := List.getElem?_eq_some_iff.1 hy
        exact List.pairwise_iff_getElem.1 (nnl_up t.rows c t.rows.length) j i a2 a1 hij
      unfold ltI
      omega, fun x y z _ _ _ => ltI_tr⟩
    (fun x y hx hy => cmpI_ok ⟨(nnl_mem.1 hx).1, hvo x (nnl_mem.1 hx).1⟩ ⟨(nnl_mem.1 hy).1, hvo y (nnl_mem.1 hy).1⟩ hcl (by omega))
    (fun l hlp hlw => ltI_unique (hlp.trans hp.symm) hlw hs)
  have htk : (s.map I).take (nnl t.rows c t.rows.length).length = s.map I := by rw [← hsl]; exact take_all I s
  refine does0 c_impl_IndexOf mixed (Nat.le_of_ble_eq_true rfl) ?_
  conv => arg 3; whnf
  repeat' (first | with_reducible refine acc_none ?_ | (conv in hold _ => simp (disch := omega) only [go_sem]) | refine Stp.go ?_ | (with_reducible first | refine it_pos rfl ?_ | refine it_neg (by decide) ?_ | refine st_nil rfl ?_ | refine s_op ?_ ?_ | exact True.intro) | ((with_reducible first | refine dw_reg0 ?_ | refine dw_regB ?_); (conv => arg 3; whnf)) | (refine Spl.go (fun hq he => ?_) (fun hq he => ?_) <;> first | (exfalso; clear hq; omega) | ((try (first | (conv => arg 8; simp only [hq]) | (conv => arg 4; simp only [hq]))); clear hq)) | ((with_reducible first | refine c_split (fun hq => ?_) (fun hq => ?_) | refine q_split (fun hq => ?_) (fun hq => ?_)) <;> (try (first | (conv => arg 8; simp only [hq]) | (conv => arg 4; simp only [hq])))) | (with_reducible refine fin_0 ?_ (by first | rfl | (conv => lhs; simp only [go_sem])) ?_) | exact Sub.refl _ | omega)
  refine c_doesE (h1) ?_ ?_ ?_
  · ((try (conv => rhs; simp (disch := omega) only [go_sem])); try rfl)
  · first | rfl | (conv => lhs; simp only [go_sem])
  repeat' (first | with_reducible refine acc_none ?_ | (conv in hold _ => simp (disch := omega) only [go_sem]) | refine Stp.go ?_ | (with_reducible first | refine it_pos rfl ?_ | refine it_neg (by decide) ?_ | refine st_nil rfl ?_ | refine s_op ?_ ?_ | exact True.intro) | ((with_reducible first | refine dw_reg0 ?_ | refine dw_regB ?_); (conv => arg 3; whnf)) | (refine Spl.go (fun hq he => ?_) (fun hq he => ?_) <;> first | (exfalso; clear hq; omega) | ((try (first | (conv => arg 8; simp only [hq]) | (conv => arg 4; simp only [hq]))); clear hq)) | ((with_reducible first | refine c_split (fun hq => ?_) (fun hq => ?_) | refine q_split (fun hq => ?_) (fun hq => ?_)) <;> (try (first | (conv => arg 8; simp only [hq]) | (conv => arg 4; simp only [hq])))) | (with_reducible refine fin_0 ?_ (by first | rfl | (conv => lhs; simp only [go_sem])) ?_) | exact Sub.refl _ | omega)
  refine dw_for (c := 3) (l := fun i => [(2, .ref 1000000 0), (3, .ref 1000001 0), (5, .own 1000002 1 (nnl t.rows c i).length), (13, rowsD t.rows), (14, I t.rows.length), (15, I i), (1000000, .obj [I t.w, rowsD t.rows]), (1000001, .obj [I c]), (1000002, .row 1 ((nnl t.rows c i).map I))]) t.rows.length (fun _ => True) 0 trivial ((wk_row 5 2000090 1 (by decide) (by decide) rfl rfl).trans (Wk.list [2000002, 2000003, 2000090] rfl rfl ?_)) (fun i hi _ => ?_) (Nat.zero_le _)
  · repeat' (first | (conv in hold _ => simp (disch := omega) only [go_sem]) | exact True.intro | exact Sub.refl _ | omega)
    first | exact rfl | exact ⟨rfl, rfl⟩ | exact ⟨rfl, rfl, rfl⟩
  · have hil := nnl_len t.rows c i
    have htm : ((nnl t.rows c i).map I).take (nnl t.rows c i).length = (nnl t.rows c i).map I := take_all I _
    rcases at_or_end hi with ⟨x, hx, hlt⟩ | rfl
    · have hxl := hcl x (List.mem_of_getElem? hx)
      have hv := colV_at hxl.1
      have e := nnl_next (rs := t.rows) (c := c) (i := i)
      rw [vAt_at hx] at e
      cases hb : (colV c x).b with
      | true =>
        rw [hb, if_pos rfl, List.append_nil] at e
        repeat' (first | with_reducible refine acc_none ?_ | (conv in hold _ => simp (disch := omega) only [go_sem, List.getElem?_map, hx, hv, hb, Option.map_some]) | refine Stp.go ?_ | (with_reducible first | refine it_pos rfl ?_ | refine it_neg (by decide) ?_ | refine st_nil rfl ?_ | refine s_op ?_ ?_ | exact True.intro) | ((with_reducible first | refine dw_reg0 ?_ | refine dw_regB ?_); (conv => arg 3; whnf)) | (refine Spl.go (fun hq he => ?_) (fun hq he => ?_) <;> first | (exfalso; clear hq; omega) | ((try (first | (conv => arg 8; simp only [hq]) | (conv => arg 4; simp only [hq]))); clear hq)) | ((with_reducible first | refine c_split (fun hq => ?_) (fun hq => ?_) | refine q_split (fun hq => ?_) (fun hq => ?_)) <;> (try (first | (conv => arg 8; simp only [hq]) | (conv => arg 4; simp only [hq])))) | (with_reducible refine fin_0 ?_ (by first | rfl | (conv => lhs; simp only [go_sem, List.getElem?_map, hx, hv, hb, Option.map_some])) ?_) | exact Sub.refl _ | omega)
        refine ⟨hlt, trivial, Wk.list [1000000, 1000001, 1000002] rfl rfl ?_⟩
        repeat' (first | (conv in hold _ => simp (disch := omega) only [go_sem, e]) | exact True.intro | exact Sub.refl _ | omega)
      | false =>
        rw [hb, if_neg (by decide)] at e
        repeat' (first | with_reducible refine acc_none ?_ | (conv in hold _ => simp (disch := omega) only [go_sem, List.getElem?_map, hx, hv, hb, Option.map_some, htm]) | refine Stp.go ?_ | (with_reducible first | refine it_pos rfl ?_ | refine it_neg (by decide) ?_ | refine st_nil rfl ?_ | refine s_op ?_ ?_ | exact True.intro) | ((with_reducible first | refine dw_reg0 ?_ | refine dw_regB ?_); (conv => arg 3; whnf)) | (refine Spl.go (fun hq he => ?_) (fun hq he => ?_) <;> first | (exfalso; clear hq; omega) | ((try (first | (conv => arg 8; simp only [hq]) | (conv => arg 4; simp only [hq]))); clear hq)) | ((with_reducible first | refine c_split (fun hq => ?_) (fun hq => ?_) | refine q_split (fun hq => ?_) (fun hq => ?_)) <;> (try (first | (conv => arg 8; simp only [hq]) | (conv => arg 4; simp only [hq])))) | (with_reducible refine fin_0 ?_ (by first | rfl | (conv => lhs; simp only [go_sem, List.getElem?_map, hx, hv, hb, Option.map_some, htm])) ?_) | exact Sub.refl _ | omega)
        refine ⟨hlt, trivial, Wk.list [1000000, 1000001, 2000029] rfl rfl ?_⟩
        repeat' (first | (conv in hold _ => simp (disch := omega) only [go_sem, e, htm]) | exact True.intro | exact Sub.refl _ | omega)
        rw [List.map_append]
        rfl
    · repeat' (first | with_reducible refine acc_none ?_ | (conv in hold _ => simp (disch := omega) only [go_sem]) | refine Stp.go ?_ | (with_reducible first | refine it_pos rfl ?_ | refine it_neg (by decide) ?_ | refine st_nil rfl ?_ | refine s_op ?_ ?_ | exact True.intro) | ((with_reducible first | refine dw_reg0 ?_ | refine dw_regB ?_); (conv => arg 3; whnf)) | (refine Spl.go (fun hq he => ?_) (fun hq he => ?_) <;> first | (exfalso; clear hq; omega) | ((try (first | (conv => arg 8; simp only [hq]) | (conv => arg 4; simp only [hq]))); clear hq)) | ((with_reducible first | refine c_split (fun hq => ?_) (fun hq => ?_) | refine q_split (fun hq => ?_) (fun hq => ?_)) <;> (try (first | (conv => arg 8; simp only [hq]) | (conv => arg 4; simp only [hq])))) | exact Sub.refl _ | omega)
      refine c_doesR [1000000, 1000001, 1000002] (h2) (callOK_of rfl (Nat.le_of_ble_eq_true rfl) rfl ?_ ?_) ?_ ?_
      · repeat' (first | (conv in hold _ => simp (disch := omega) only [go_sem]) | exact True.intro | exact Sub.refl _ | omega)
      · repeat' (first | (conv in hold _ => simp (disch := omega) only [go_sem]) | exact True.intro | exact Sub.refl _ | omega)
      · ((conv => rhs; simp (disch := omega) only [go_sem]); try rfl)
      repeat' (first | with_reducible refine acc_none ?_ | (conv in hold _ => simp (disch := omega) only [go_sem]) | refine Stp.go ?_ | (with_reducible first | refine it_pos rfl ?_ | refine it_neg (by decide) ?_ | refine st_nil rfl ?_ | refine s_op ?_ ?_ | exact True.intro) | ((with_reducible first | refine dw_reg0 ?_ | refine dw_regB ?_); (conv => arg 3; whnf)) | (refine Spl.go (fun hq he => ?_) (fun hq he => ?_) <;> first | (exfalso; clear hq; omega) | ((try (first | (conv => arg 8; simp only [hq]) | (conv => arg 4; simp only [hq]))); clear hq)) | ((with_reducible first | refine c_split (fun hq => ?_) (fun hq => ?_) | refine q_split (fun hq => ?_) (fun hq => ?_)) <;> (try (first | (conv => arg 8; simp only [hq]) | (conv => arg 4; simp only [hq])))) | exact Sub.refl _ | omega)
      refine fin_wk (wk_frz 4 1000002 (by decide) (by decide) rfl ?_) ?_
      rotate_left
      (conv in hold _ => simp (disch := omega) only [go_sem, htk, hsl, List.length_map, Nat.le_refl])
      · refine fin_L [] ?_ ?_ rfl ?_
        repeat' (first | (conv in hold _ => simp (disch := omega) only [go_sem]) | exact True.intro | exact Sub.refl _ | omega)
      · exact ints_pur _
theorem IndexOf_impl_f {t : Ta} (hsz : rsz t.rows ≤ 1048576) {c : Int} (h : ¬ (tOk t ∧ 0 ≤ c ∧ c < t.w)) : Does Try.prog 11 [] [taD t, I c] (intsD []) [] := by
  have h1 := hasColumn_ok t hsz c
  rw [@decide_eq_false _ (Classical.propDecidable _) h] at h1
  refine does0 c_impl_IndexOf mixed (Nat.le_of_ble_eq_true rfl) ?_
  conv => arg 3; whnf
  repeat' (first | with_reducible refine acc_none ?_ | (conv in hold _ => simp (disch := omega) only [go_sem]) | refine Stp.go ?_ | (with_reducible first | refine it_pos rfl ?_ | refine it_neg (by decide) ?_ | refine st_nil rfl ?_ | refine s_op ?_ ?_ | exact True.intro) | ((with_reducible first | refine dw_reg0 ?_ | refine dw_regB ?_); (conv => arg 3; whnf)) | (refine Spl.go (fun hq he => ?_) (fun hq he => ?_) <;> first | (exfalso; clear hq; omega) | ((try (first | (conv => arg 8; simp only [hq]) | (conv => arg 4; simp only [hq]))); clear hq)) | ((with_reducible first | refine c_split (fun hq => ?_) (fun hq => ?_) | refine q_split (fun hq => ?_) (fun hq => ?_)) <;> (try (first | (conv => arg 8; simp only [hq]) | (conv => arg 4; simp only [hq])))) | (with_reducible refine fin_0 ?_ (by first | rfl | (conv => lhs; simp only [go_sem])) ?_) | exact Sub.refl _ | omega)
  refine c_doesE (h1) ?_ ?_ ?_
  · ((try (conv => rhs; simp (disch := omega) only [go_sem])); try rfl)
  · first | rfl | (conv => lhs; simp only [go_sem])
  repeat' (first | with_reducible refine acc_none ?_ | (conv in hold _ => simp (disch := omega) only [go_sem]) | refine Stp.go ?_ | (with_reducible first | refine it_pos rfl ?_ | refine it_neg (by decide) ?_ | refine st_nil rfl ?_ | refine s_op ?_ ?_ | exact True.intro) | ((with_reducible first | refine dw_reg0 ?_ | refine dw_regB ?_); (conv => arg 3; whnf)) | (refine Spl.go (fun hq he => ?_) (fun hq he => ?_) <;> first | (exfalso; clear hq; omega) | ((try (first | (conv => arg 8; simp only [hq]) | (conv => arg 4; simp only [hq]))); clear hq)) | ((with_reducible first | refine c_split (fun hq => ?_) (fun hq => ?_) | refine q_split (fun hq => ?_) (fun hq => ?_)) <;> (try (first | (conv => arg 8; simp only [hq]) | (conv => arg 4; simp only [hq])))) | (with_reducible refine fin_0 ?_ (by first | rfl | (conv => lhs; simp only [go_sem])) ?_) | exact Sub.refl _ | omega)
  exact Sub.nul 1
end Go.Proofs.Ytjjcokmnebkbiaa

/-
  Plans without duplicates, in both packages. No condition.
-/
import Derived.Test.YtepkimfmncedcaaGreatKSDca
import Derived.Test.YtepkimfmncedcaaGreatJSVLaw
import Derived.Test.YtepkimfmncedcaaGreatJSVPiD
import Derived.Test.YtepkimfmncedcaaGreatJSVGo
import Derived.Test.YtepkimfmncedcaaGreatKSDce
import Derived.Test.YtepkimfmncedcaaGreatKSVPiI
import Derived.Test.YtepkimfmncedcaaGreatKSVPeD
set_option maxHeartbeats 4000000
set_option maxRecDepth 100000
set_option linter.unusedVariables false
set_option linter.unusedSimpArgs false
namespace Go.Proofs.YtepkimfmncedcaaGreat
open Go.RowKit
def boolsD (l : List Bool) : D := .sl 1 (l.map Bo)
theorem bools_pur : ∀ l : List Bool, D.purL (l.map Bo) = true
  | [] => rfl
  | p :: l => by rw [List.map_cons, D.purL, bools_pur l]; rfl
theorem bools_ren (L : List Nat) (l : List Bool) : D.renL L (l.map Bo) = l.map Bo := ren_pure.renL_pure L _ (bools_pur l)
attribute [go_sem] bools_pur bools_ren boolsD
def colX (c : Int) (e : E) : Bool := e.k == 1 && e.c == c
def hasC (es : List E) (c : Int) : Bool := es.any (colX c)
def keepsI (es : List E) (i : Nat) : Bool := (List.range i).all (fun c : Nat => hasC es (c : Int))
theorem keeps_0 (es : List E) : keepsI es 0 = true := rfl
theorem keeps_next (es : List E) (i : Nat) : keepsI es (i + 1) = (keepsI es i && hasC es (i : Int)) := by
  unfold keepsI
  rw [List.range_succ, List.all_append, List.all_cons, List.all_nil, Bool.and_true]
theorem keeps_f {es : List E} {i : Nat} (h : hasC es (i : Int) = false) {n : Nat} (hn : i < n) : keepsI es n = false := by
  unfold keepsI
  rw [← Bool.not_eq_true, List.all_eq_true]
  intro ha
  rw [ha i (List.mem_range.2 hn)] at h
  cases h
def hasJ (es : List E) (c : Int) (j : Nat) : Bool := (es.take j).any (colX c)
theorem hasJ_0 (es : List E) (c : Int) : hasJ es c 0 = false := by unfold hasJ; rw [List.take_zero]; rfl
theorem hasJ_next {es : List E} {c : Int} {j : Nat} {x : E} (hx : es[j]? = some x) : hasJ es c (j + 1) = (hasJ es c j || colX c x) := by
  unfold hasJ
  rw [take_next hx, List.any_append, List.any_cons, List.any_nil, Bool.or_false]
theorem hasJ_end (es : List E) (c : Int) : hasJ es c es.length = hasC es c := by
  unfold hasJ hasC
  rw [List.take_of_length_le (Nat.le_refl _)]
theorem keepsAll_ok (es : List E) (hl : es.length ≤ 1048576) (w : Int) (hw : 0 ≤ w ∧ w ≤ 6) : Does Tryz.prog 95 [] [.sl 5 (es.map eD), I w] (Bo (keepsI es w.toNat)) [] := by
  refine Bg c_Z166 mixed (go1 trivial ?_)
  refine dw_for (c := 0) (l := fun i => [(0, .sl 5 (es.map eD)), (1, I w), (5, I i)]) w.toNat (fun i => keepsI es i = true) 0 (keeps_0 es) (Wk.list [] rfl rfl ?_) (fun i hi hJ => ?_) (Nat.zero_le _)
  · repeat' (first|(conv in hold _=>simp (disch:=omega) only [go_sem])|exact trivial|exact Sub.refl _|omega)
    exact rfl
  · by_cases hlt : i < w.toNat
    · refine go1 trivial ?_
      refine dw_for (c := 0) (l := fun j => [(0, .sl 5 (es.map eD)), (1, I w), (5, I i), (6, Bo (hasJ es i j)), (7, I j)]) es.length (fun _ => True) 0 trivial (Wk.list [] rfl rfl ?_) (fun j hj _ => ?_) (Nat.zero_le _)
      · rw [hasJ_0]
        repeat' (first|(conv in hold _=>simp (disch:=omega) only [go_sem])|exact trivial|exact Sub.refl _|omega)
        exact rfl
      · rcases at_or_end hj with ⟨x, hx, hjlt⟩ | rfl
        · have hn := hasJ_next (c := (i : Int)) hx
          unfold colX at hn
          cases hJj : hasJ es i j with
          | true =>
            rw [hJj, Bool.true_or] at hn
            refine go1 @hJj ?_
            refine ⟨hjlt, trivial, Wk.list [] rfl rfl ?_⟩
            repeat' (first|(conv in hold _=>simp (disch:=omega) only [go_sem, hn])|exact trivial|exact Sub.refl _|omega)
          | false =>
            rw [hJj, Bool.false_or] at hn
            by_cases hk : x.k = 1
            · have e1 : (x.k == 1) = true := beq_iff_eq.2 hk
              rw [e1, Bool.true_and] at hn
              refine go1 (cj3 @hJj @hx @e1) ?_
              refine ⟨hjlt, trivial, Wk.list [] rfl rfl ?_⟩
              repeat' (first|(conv in hold _=>simp (disch:=omega) only [go_sem, hn])|exact trivial|exact Sub.refl _|omega)
            · have e1 : (x.k == 1) = false := beq_eq_false_iff_ne.2 hk
              rw [e1, Bool.false_and] at hn
              refine go1 (cj3 @hJj @hx @e1) ?_
              refine ⟨hjlt, trivial, Wk.list [] rfl rfl ?_⟩
              repeat' (first|(conv in hold _=>simp (disch:=omega) only [go_sem, hn])|exact trivial|exact Sub.refl _|omega)
        · have he2 := hasJ_end es (i : Int)
          cases hh : hasC es (i : Int) with
          | true =>
            rw [hh] at he2
            refine go1 @he2 ?_
            refine ⟨hlt, by rw [keeps_next, hJ, hh]; rfl, Wk.list [] rfl rfl ?_⟩
            repeat' (first|(conv in hold _=>simp (disch:=omega) only [go_sem])|exact trivial|exact Sub.refl _|omega)
          | false =>
            rw [hh] at he2
            rw [keeps_f hh hlt]
            exact go0 @he2
    · obtain rfl : i = w.toNat := by omega
      rw [hJ]
      exact go0 trivial
def placeE (p : E → Bool) (l : List E) : Int := if l.any p then (l.findIdx p : Int) else -1
theorem placeE_at {p : E → Bool} {l : List E} {i : Nat} {x : E} (hx : l[i]? = some x) (hp : p x = true) (h : ∀ (j : Nat) (u : E), j < i → l[j]? = some u → p u = false) : placeE p l = i := by
  have hlt := (List.getElem?_eq_some_iff.1 hx).1
  have hxe := (List.getElem?_eq_some_iff.1 hx).2
  have h1 : l.findIdx p = i := (List.findIdx_eq hlt).2 ⟨by rw [hxe]; exact hp, fun j hj => h j _ hj (List.getElem?_eq_getElem (by omega))⟩
  unfold placeE
  rw [if_pos (List.any_eq_true.2 ⟨x, List.mem_of_getElem? hx, hp⟩), h1]
theorem placeE_none {p : E → Bool} {l : List E} (h : ∀ u, u ∈ l → p u = false) : placeE p l = -1 := by
  unfold placeE
  rw [if_neg]
  intro ha
  obtain ⟨x, hx, hp⟩ := List.any_eq_true.1 ha
  rw [h x hx] at hp
  cases hp
theorem placeE_pos (p : E → Bool) (l : List E) : (0 ≤ placeE p l) ↔ l.any p = true := by
  unfold placeE
  by_cases h : l.any p = true
  · rw [if_pos h]; exact ⟨fun _ => h, fun _ => by omega⟩
  · rw [if_neg h]; exact ⟨fun h' => by omega, fun h' => absurd h' h⟩
theorem colE_ok (c : Int) (e : E) : Does Tryz.prog 272 [.obj [I c]] [eD e, .ref 1000000 0] (Bo (colX c e)) [.obj [I c]] := by
  unfold colX
  by_cases hk : e.k = 1
  · have e1 : (e.k == 1) = true := beq_iff_eq.2 hk
    rw [e1, Bool.true_and]
    refine Bk c_Z59 mixed 1 (go1 @e1 ?_)
    refine fin_L [1000000] ?_ ?_ rfl ?_
    repeat' (first|(conv in hold _=>simp (disch:=omega) only [go_sem])|exact trivial|exact Sub.refl _|omega)
  · have e1 : (e.k == 1) = false := beq_eq_false_iff_ne.2 hk
    rw [e1, Bool.false_and]
    refine Bk c_Z59 mixed 1 (go1 @e1 ?_)
    refine fin_L [1000000] ?_ ?_ rfl ?_
    repeat' (first|(conv in hold _=>simp (disch:=omega) only [go_sem])|exact trivial|exact Sub.refl _|omega)
theorem indexE_ok (l : List E) (hl : l.length < 2000000) (c : Int) : Does Tryz.prog 274 [.obj [I c]] [.sl 5 (l.map eD), .fn 272 [.ref 1000000 0]] (I (placeE (colX c) l)) [.obj [I c]] := by
  refine Bk c_Z8 mixed 1 (go1 trivial ?_)
  refine dw_for (c := 1) (l := fun i => [(0, .sl 5 (l.map eD)), (1, .fn 272 [.ref 1000000 0]), (7, I l.length), (8, I i), (1000000, .obj [I c])]) l.length (fun i => ∀ (j : Nat) (u : E), j < i → l[j]? = some u → colX c u = false) 0 (by omega) (Wk.list [1000000] rfl rfl ?_) (fun i hi hJ => ?_) (Nat.zero_le _)
  · repeat' (first|(conv in hold _=>simp (disch:=omega) only [go_sem])|exact trivial|exact Sub.refl _|omega)
    exact rfl
  · rcases at_or_end hi with ⟨x, hx, hlt⟩ | rfl
    · have hix := colE_ok c x
      cases hq : colX c x with
      | true =>
        rw [hq] at hix
        refine go1 @hx ?_
        refine v_fn ((by kernel_rfl)) ?_
        refine UcR [1000000] trivial (hix) (go1 trivial ?_)
        refine fin_L [1000000] ?_ ?_ rfl ?_
        repeat' (first|(conv in hold _=>simp (disch:=omega) only [go_sem])|exact trivial|exact Sub.refl _|omega)
        exact Sub.of_eq (by rw [placeE_at hx hq hJ])
      | false =>
        rw [hq] at hix
        refine go1 @hx ?_
        refine v_fn ((by kernel_rfl)) ?_
        refine UcR [1000000] trivial (hix) (go1 trivial ?_)
        refine ⟨hlt, upto_next (p := fun u => colX c u = false) hx hJ hq, Wk.list [1000000] rfl rfl ?_⟩
        repeat' (first|(conv in hold _=>simp (disch:=omega) only [go_sem])|exact trivial|exact Sub.refl _|omega)
    · refine go1 trivial ?_
      refine fin_L [1000000] ?_ ?_ rfl ?_
      repeat' (first|(conv in hold _=>simp (disch:=omega) only [go_sem])|exact trivial|exact Sub.refl _|omega)
      exact Sub.of_eq (by rw [placeE_none (upto_all (p := fun u => colX c u = false) hJ)])
theorem containsE_ok (l : List E) (hl : l.length < 2000000) (c : Int) : Does Tryz.prog 273 [.obj [I c]] [.sl 5 (l.map eD), .fn 272 [.ref 1000000 0]] (Bo (hasC l c)) [.obj [I c]] := by
  have h1 := indexE_ok l hl c
  have h2 := placeE_pos (colX c) l
  refine Bk c_Z5 mixed 1 (go1 trivial ?_)
  refine UcR [1000000] trivial (h1) (go1 trivial ?_)
  have h3 : decide (0 ≤ placeE (colX c) l) = hasC l c := by
    rw [Bool.eq_iff_iff, decide_eq_true_iff]
    exact h2
  refine fin_L [1000000] ?_ ?_ rfl ?_
  repeat' (first|(conv in hold _=>simp (disch:=omega) only [go_sem])|exact trivial|exact Sub.refl _|omega)
  rw [h3]
  exact Sub.refl _
theorem keepsColumns_ok (es : List E) (hl : es.length ≤ 1048576) (w : Int) (hw : 0 ≤ w ∧ w ≤ 6) : Does Tryz.prog 271 [] [.sl 5 (es.map eD), I w] (Bo (keepsI es w.toNat)) [] := by
  refine Bg c_Z80 mixed (go1 trivial ?_)
  refine dw_for (c := 0) (l := fun i => [(0, .sl 5 (es.map eD)), (7, I w), (8, I i)]) w.toNat (fun i => keepsI es i = true) 0 (keeps_0 es) (Wk.list [] rfl rfl ?_) (fun i hi hJ => ?_) (Nat.zero_le _)
  · repeat' (first|(conv in hold _=>simp (disch:=omega) only [go_sem])|exact trivial|exact Sub.refl _|omega)
    exact rfl
  · by_cases hlt : i < w.toNat
    · have r := containsE_ok es (by omega) (i : Int)
      cases hh : hasC es (i : Int) with
      | true =>
        rw [hh] at r
        refine go1 trivial ?_
        refine UcR [2000005] trivial (r) (go1 trivial ?_)
        refine ⟨hlt, by rw [keeps_next, hJ, hh]; rfl, Wk.list [] rfl rfl ?_⟩
        repeat' (first|(conv in hold _=>simp (disch:=omega) only [go_sem])|exact trivial|exact Sub.refl _|omega)
      | false =>
        rw [hh] at r
        rw [keeps_f hh hlt]
        refine go1 trivial ?_
        exact UcR [2000005] trivial (r) (go0 trivial)
    · obtain rfl : i = w.toNat := by omega
      rw [hJ]
      exact go0 trivial
end Go.Proofs.YtepkimfmncedcaaGreat
set_option maxHeartbeats 4000000
set_option maxRecDepth 100000
set_option linter.unusedVariables false
set_option linter.unusedSimpArgs false
namespace Go.Proofs.YtepkimfmncedcaaGreat
open Go.RowKit
theorem growR_ok (n : Nat) (h0 : 0 < n) (hn : n ≤ 1000000) : Does Tryz.prog 157 [] [.nul, I n] (.own 1000000 1 0) [.row 1 (List.replicate n .nul)] := by
  have hp : D.renL [2000022] (List.replicate n .nul) = List.replicate n .nul := by rw [D.renL_map, List.map_replicate]; rfl
  refine Bk c_Z7 mixed 0 (go1 (cj3 @cast0 @Int.sub_self @Int.sub_zero) ?_)
  refine fin_L [2000022] ?_ ?_ rfl ?_
  repeat' (first|(conv in hold _=>simp (disch:=omega) only [go_sem, cast0, Int.sub_self, Int.sub_zero, hp])|exact trivial|exact Sub.refl _|omega)
theorem growR_0 : Does Tryz.prog 157 [] [.nul, I 0] .nul [] := by
  exact Bg c_Z7 mixed (go0 (cj3 @cast0 @Int.sub_self @Int.sub_zero))
theorem concatR_own (a b : List (List V)) (hl : a.length + b.length ≤ 100000) : Does Tryz.prog 117 [] [.sl 1 [rowsD a, rowsD b]] (.own 1000000 1 (a.length + b.length)) [.row 1 ((a ++ b).map rowD)] := by
  by_cases h0 : 0 < a.length + b.length
  · have hg := growR_ok (a.length + b.length) h0 (by omega)
    have e0 : (List.replicate (a.length + b.length) D.nul).take 0 = [] := rfl
    have ea := take_all rowD a
    have hp : ∀ L, D.renL L (List.replicate (a.length + b.length) .nul) = List.replicate (a.length + b.length) .nul := fun L => by rw [D.renL_map, List.map_replicate]; rfl
    have ec : (((a.length + b.length : Nat) : Int)) = (a.length : Int) + (b.length : Int) := by omega
    refine Bk c_Z4 mixed 0 (go1 trivial ?_)
    refine dw_for (c := 0) (l := fun i => [(0, .sl 1 [rowsD a, rowsD b]), (3, I (at3 0 (a.length : Int) (a.length + b.length : Nat) i)), (9, .sl 1 [rowsD a, rowsD b]), (10, I 2), (11, I (at3 0 1 2 i))]) 2 (fun _ => True) 0 trivial (Wk.list [] rfl rfl ?_) (fun i hi _ => ?_) (by decide)
    · repeat' (first|(conv in hold _=>simp (disch:=omega) only [go_sem, at3_0, Int.reduceAdd])|exact trivial|exact Sub.refl _|omega)
      first | exact rfl | exact ⟨rfl, rfl⟩
    · have h3 : i = 0 ∨ i = 1 ∨ i = 2 := by omega
      rcases h3 with rfl | rfl | rfl
      · refine go1 (cj2 @at3_0 @Int.zero_add) ?_
        refine ⟨by decide, trivial, Wk.list [] rfl rfl ?_⟩
        repeat' (first|(conv in hold _=>simp (disch:=omega) only [go_sem, at3_1, Nat.reduceAdd, Int.reduceAdd])|exact trivial|exact Sub.refl _|omega)
      · refine go1 @at3_1 ?_
        refine ⟨by decide, trivial, Wk.list [] rfl rfl ?_⟩
        repeat' (first|(conv in hold _=>simp (disch:=omega) only [go_sem, at3_2, Nat.reduceAdd, Int.reduceAdd, ec])|exact trivial|exact Sub.refl _|omega)
      · refine go1 @at3_2 ?_
        refine UcR [3000001] trivial (hg) (go1 trivial ?_)
        refine dw_for (c := 1) (l := fun i => [(6, .own 1000000 1 (at3 0 a.length (a.length + b.length) i)), (25, .sl 1 [rowsD a, rowsD b]), (26, I 2), (27, I (at3 0 1 2 i)), (1000000, .row 1 (at3 (List.replicate (a.length + b.length) .nul) (a.map rowD) ((a ++ b).map rowD) i))]) 2 (fun _ => True) 0 trivial (Wk.list [3000001] rfl rfl ?_) (fun i hi _ => ?_) (by decide)
        · repeat' (first|(conv in hold _=>simp (disch:=omega) only [go_sem, at3_0, Int.reduceAdd, hp])|exact trivial|exact Sub.refl _|omega)
          first | exact rfl | exact ⟨rfl, rfl⟩
        · have h3 : i = 0 ∨ i = 1 ∨ i = 2 := by omega
          rcases h3 with rfl | rfl | rfl
          · refine go1 (cj2 @at3_0 @e0) ?_
            refine ⟨by decide, trivial, Wk.list [2000033] rfl rfl ?_⟩
            repeat' (first|(conv in hold _=>simp (disch:=omega) only [go_sem, at3_1, Nat.reduceAdd, Int.reduceAdd, e0])|exact trivial|exact Sub.refl _|omega)
          · refine go1 (cj2 @at3_1 @ea) ?_
            refine ⟨by decide, trivial, Wk.list [2000033] rfl rfl ?_⟩
            repeat' (first|(conv in hold _=>simp (disch:=omega) only [go_sem, at3_2, Nat.reduceAdd, Int.reduceAdd, ea])|exact trivial|exact Sub.refl _|omega)
            rw [List.map_append]
          · refine go1 @at3_2 ?_
            refine fin_L [1000000] ?_ ?_ rfl ?_
            repeat' (first|(conv in hold _=>simp (disch:=omega) only [go_sem, at3_2])|exact trivial|exact Sub.refl _|omega)
  · obtain rfl : a = [] := List.eq_nil_of_length_eq_zero (by omega)
    obtain rfl : b = [] := List.eq_nil_of_length_eq_zero (by omega)
    have hg := growR_0
    refine Bk c_Z4 mixed 0 (go1 trivial ?_)
    refine dw_for (c := 0) (l := fun i => [(0, .sl 1 [rowsD [], rowsD []]), (3, I 0), (9, .sl 1 [rowsD [], rowsD []]), (10, I 2), (11, I (at3 0 1 2 i))]) 2 (fun _ => True) 0 trivial (Wk.list [] rfl rfl ?_) (fun i hi _ => ?_) (by decide)
    · repeat' (first|(conv in hold _=>simp (disch:=omega) only [go_sem, at3_0, Int.reduceAdd])|exact trivial|exact Sub.refl _|omega)
      first | exact rfl | exact ⟨rfl, rfl⟩
    · have h3 : i = 0 ∨ i = 1 ∨ i = 2 := by omega
      rcases h3 with rfl | rfl | rfl
      · refine go1 (cj4 @at3_0 @Int.zero_add @cast0 @Int.add_zero) ?_
        refine ⟨by decide, trivial, Wk.list [] rfl rfl ?_⟩
        repeat' (first|(conv in hold _=>simp (disch:=omega) only [go_sem, at3_1, Nat.reduceAdd, Int.reduceAdd, cast0])|exact trivial|exact Sub.refl _|omega)
      · refine go1 (cj3 @at3_1 @cast0 @Int.add_zero) ?_
        refine ⟨by decide, trivial, Wk.list [] rfl rfl ?_⟩
        repeat' (first|(conv in hold _=>simp (disch:=omega) only [go_sem, at3_2, Nat.reduceAdd, Int.reduceAdd, cast0])|exact trivial|exact Sub.refl _|omega)
      · refine go1 @at3_2 ?_
        refine Uc trivial (hg) (go1 trivial ?_)
        refine dw_for (c := 1) (l := fun i => [(6, .own 1000000 1 0), (25, .sl 1 [rowsD [], rowsD []]), (26, I 2), (27, I (at3 0 1 2 i)), (1000000, .row 1 [])]) 2 (fun _ => True) 0 trivial ((wk_row 6 2000090 1 (by decide) (by decide) rfl rfl).trans (Wk.list [2000090] rfl rfl ?_)) (fun i hi _ => ?_) (by decide)
        · repeat' (first|(conv in hold _=>simp (disch:=omega) only [go_sem, at3_0, Int.reduceAdd])|exact trivial|exact Sub.refl _|omega)
          first | exact rfl | exact ⟨rfl, rfl⟩
        · have h3 : i = 0 ∨ i = 1 ∨ i = 2 := by omega
          rcases h3 with rfl | rfl | rfl
          · repeat' (first|with_reducible refine acc_none ?_ | (conv in hold _=>simp (disch:=omega) only [go_sem, at3_0, Int.reduceToNat, List.take_nil])|refine Stp.go ?_|(with_reducible first|refine it_pos rfl ?_|refine it_neg (by decide) ?_|refine st_nil rfl ?_|refine s_op ?_ ?_|exact trivial)|((with_reducible first|refine dw_reg0 ?_|refine dw_regB ?_);(conv=>arg 3;whnf))|(refine Spl.go (fun hq he=>?_) (fun hq he=>?_)<;>first|(exfalso;clear hq;omega)|((try first|(conv=>arg 8;simp only [hq])|(conv=>arg 4;simp only [hq]));clear hq))|((with_reducible first|refine c_split (fun hq=>?_) (fun hq=>?_)|refine q_split (fun hq=>?_) (fun hq=>?_))<;>(try first|(conv=>arg 8;simp only [hq])|(conv=>arg 4;simp only [hq])))|(with_reducible refine fin_0 ?_ (by first|rfl|(conv=>lhs;simp only [go_sem, at3_0, Int.reduceToNat, List.take_nil])) ?_)|exact Sub.refl _|omega)
            refine ⟨by decide, trivial, Wk.list [2000033] rfl rfl ?_⟩
            repeat' (first|(conv in hold _=>simp (disch:=omega) only [go_sem, at3_1, Nat.reduceAdd, Int.reduceAdd, List.take_nil])|exact trivial|exact Sub.refl _|omega)
          · repeat' (first|with_reducible refine acc_none ?_ | (conv in hold _=>simp (disch:=omega) only [go_sem, at3_1, Int.reduceToNat, List.take_nil])|refine Stp.go ?_|(with_reducible first|refine it_pos rfl ?_|refine it_neg (by decide) ?_|refine st_nil rfl ?_|refine s_op ?_ ?_|exact trivial)|((with_reducible first|refine dw_reg0 ?_|refine dw_regB ?_);(conv=>arg 3;whnf))|(refine Spl.go (fun hq he=>?_) (fun hq he=>?_)<;>first|(exfalso;clear hq;omega)|((try first|(conv=>arg 8;simp only [hq])|(conv=>arg 4;simp only [hq]));clear hq))|((with_reducible first|refine c_split (fun hq=>?_) (fun hq=>?_)|refine q_split (fun hq=>?_) (fun hq=>?_))<;>(try first|(conv=>arg 8;simp only [hq])|(conv=>arg 4;simp only [hq])))|(with_reducible refine fin_0 ?_ (by first|rfl|(conv=>lhs;simp only [go_sem, at3_1, Int.reduceToNat, List.take_nil])) ?_)|exact Sub.refl _|omega)
            refine ⟨by decide, trivial, Wk.list [2000033] rfl rfl ?_⟩
            repeat' (first|(conv in hold _=>simp (disch:=omega) only [go_sem, at3_2, Nat.reduceAdd, Int.reduceAdd, List.take_nil])|exact trivial|exact Sub.refl _|omega)
          · refine go1 @at3_2 ?_
            refine fin_L [1000000] ?_ ?_ rfl ?_
            repeat' (first|(conv in hold _=>simp (disch:=omega) only [go_sem, at3_2])|exact trivial|exact Sub.refl _|omega)
theorem keyRows (w : Nat) (hw : w < 1000) : KeyF 66 [] (fun x => x) w (okR w) where
  ent := by kernel_rfl
  pur := rfl
  call x y hx hy := compareRows_impl x y (by rw [hx.1, hy.1]) (by have := hx.1; omega) hx.2 hy.2
  wid x hx := hx
theorem distinctRows_p (rs : List (List V)) : Does Tryz.prog 118 [] [rowsD rs] (.fn 158 [.ptr [rowsD rs]]) [] := by
  refine Bg c_Z76 mixed (go1F trivial ?_)
  refine fin_wk (wk_fro 2 2000001 (by decide) (by decide) rfl ?_) ?_
  rotate_left
  (conv in hold _=>simp (disch:=omega) only [go_sem])
  · refine fin_L [] ?_ ?_ rfl ?_
    repeat' (first|(conv in hold _=>simp (disch:=omega) only [go_sem])|exact trivial|exact Sub.refl _|omega)
  · rfl
noncomputable def dstQ (rs : List (List V)) : List (List V) := (runK (fun x => x) (srK (fun x => x) rs)).map (fun g => g.headD [])
theorem distinctRows_yields {w : Nat} (hw : w < 1000) (rs : List (List V)) (hs : RsW w rs) (hl : rs.length ≤ 400) : Yields Tryz.prog 158 [.ptr [rowsD rs]] ((dstQ rs).map tupR) := by
  have hK := keyRows w hw
  have hsp := srK_perm hK.wid hs
  have hsa := srK_asc hK.wid hs
  have h1 := sortedRows_ok hK rs hs (by omega)
  have h2 := runsOfK_ok hK (srK (fun x => x) rs)
  have hq : ∀ x, x ∈ srK (fun x => x) rs → okR w x := fun x hx => hs x (hsp.mem_iff.1 hx)
  have hsl := hsp.length_eq
  have hY := runsK_yields hK hq hsa (by omega)
  unfold dstQ
  have hne : ∀ g, g ∈ runK (fun x => x) (srK (fun x => x) rs) → g[0]? = some (g.headD []) ∧ 0 < g.length := fun g hg => by
    cases g with
    | nil => exact absurd rfl (runK_ne hg).1
    | cons x y => exact ⟨rfl, Nat.succ_pos _⟩
  generalize srK (fun x => x) rs = S at *
  have htk : (S.map rowD).take rs.length = S.map rowD := by rw [← hsl]; exact take_all rowD S
  refine yields c_Z56 mixed (Nat.le_of_ble_eq_true rfl) (fun i e => ?_)
  conv => arg 3; whnf
  refine go1 trivial ?_
  refine UcR [3000001] trivial (h1) (go1C trivial ?_)
  refine s_pre (pre_frz (t := 5) (g := 3000001) (by decide) (by decide) rfl ?_) ?_
  rotate_left
  refine go1 (cj2 @htk @hsl) ?_
  · refine Uc trivial (h2) (go1 trivial ?_)
    generalize runK (fun x => x) S = G at hY hne
    by_cases hel : e < G.length
    · refine dw_rngX 192 [.ptr [rowsD S], .ptr [.fn 66 []]] (G.map tupS) e 1 1 [(2, .ref 1000000 0), (6, .fn 192 [.ptr [rowsD S], .ptr [.fn 66 []]])] (fun j => [(1000000, .obj [.v (.func (.yield i) #[] #[])]), (gh, .gho i ((G.map (fun g => g.headD [])).map tupR) e j)]) hY (by kernel_rfl) rfl (Nat.zero_le _) (Nat.le_refl _) (by decide) ?_ (fun j => namesOK_of rfl) (Wk.list [2000002] rfl rfl ?_) rfl (fun j es h => by obtain ⟨_, _, rfl⟩ := tupS_at h; rfl) (by rw [List.length_map]; exact hel) (fun j es hj h hp => ?_) (fun es h hp => ?_)
      · simp (disch := omega) only [go_sem, and_self, Nat.reduceLT]
      · repeat' (first|(conv in hold _=>simp (disch:=omega) only [go_sem])|exact trivial|exact Sub.refl _|omega)
        try exact rfl
      · obtain ⟨g, hg, rfl⟩ := tupS_at h
        obtain ⟨h0, hpos⟩ := hne g (List.mem_of_getElem? hg)
        refine go1 @h0 ?_
        refine v_yld (by ((conv => lhs; simp (disch := omega) only [go_sem]); try rfl)) ((show j ≤ e by omega)) ((by rw [List.getElem?_map, List.getElem?_map, hg]; rfl)) (by first | rfl | (simp only [go_sem])) ?_
        refine go1 trivial ?_
        refine Wk.list [1000000] rfl rfl ?_
        repeat' (first|(conv in hold _=>simp (disch:=omega) only [go_sem])|exact trivial|exact Sub.refl _|omega)
      · obtain ⟨g, hg, rfl⟩ := tupS_at h
        obtain ⟨h0, hpos⟩ := hne g (List.mem_of_getElem? hg)
        refine go1 @h0 ?_
        refine v_yld (by ((conv => lhs; simp (disch := omega) only [go_sem]); try rfl)) ((Nat.le_refl e)) ((by rw [List.getElem?_map, List.getElem?_map, hg]; rfl)) (by first | rfl | (simp only [go_sem])) ?_
        refine go1 trivial ?_
        refine ⟨[(1000000, .obj [.v (.func (.yield i) #[] #[])]), (gh, .gho i ((G.map (fun g => g.headD [])).map tupR) e (e + 1))], namesOK_of rfl, Wk.list [1000000] rfl rfl ?_, ?_⟩
        · repeat' (first|(conv in hold _=>simp (disch:=omega) only [go_sem])|exact trivial|exact Sub.refl _|omega)
        · refine ⟨(e + 1), ?_, ?_⟩
          · ((conv => lhs; simp (disch := omega) only [go_sem]); try rfl)
          exact .inr ⟨rfl, by rw [List.length_map, List.length_map]; exact hel⟩
    · refine dw_rng 192 [.ptr [rowsD S], .ptr [.fn 66 []]] (G.map tupS) 1 1 [(2, .ref 1000000 0), (6, .fn 192 [.ptr [rowsD S], .ptr [.fn 66 []]])] (fun j => [(1000000, .obj [.v (.func (.yield i) #[] #[])]), (gh, .gho i ((G.map (fun g => g.headD [])).map tupR) e j)]) hY (by kernel_rfl) rfl (Nat.zero_le _) (Nat.le_refl _) (by decide) ?_ (fun j => namesOK_of rfl) (Wk.list [2000002] rfl rfl ?_) rfl (fun j es h => by obtain ⟨_, _, rfl⟩ := tupS_at h; rfl) (fun j es h hp => ?_) ?_
      · simp (disch := omega) only [go_sem, and_self, Nat.reduceLT]
      · repeat' (first|(conv in hold _=>simp (disch:=omega) only [go_sem])|exact trivial|exact Sub.refl _|omega)
        try exact rfl
      · obtain ⟨g, hg, rfl⟩ := tupS_at h
        obtain ⟨h0, hpos⟩ := hne g (List.mem_of_getElem? hg)
        have hjl := (List.getElem?_eq_some_iff.1 hg).1
        refine go1 @h0 ?_
        refine v_yld (by ((conv => lhs; simp (disch := omega) only [go_sem]); try rfl)) ((show j ≤ e by omega)) ((by rw [List.getElem?_map, List.getElem?_map, hg]; rfl)) (by first | rfl | (simp only [go_sem])) ?_
        refine go1 trivial ?_
        refine Wk.list [1000000] rfl rfl ?_
        repeat' (first|(conv in hold _=>simp (disch:=omega) only [go_sem])|exact trivial|exact Sub.refl _|omega)
      · rw [List.length_map]
        refine go1 trivial ?_
        refine ⟨G.length, ?_, ?_⟩
        · ((conv => lhs; simp (disch := omega) only [go_sem]); try rfl)
        exact .inl ⟨by rw [List.length_map, List.length_map], by rw [List.length_map, List.length_map]; omega⟩
  · exact rows_pur _
end Go.Proofs.YtepkimfmncedcaaGreat

/-
  Common rows, remaining rows, subtables, as the program does. No condition.
-/
import Derived.Test.YtibknjpbbeackaaGreatKSDca
import Derived.Test.YtibknjpbbeackaaGreatJSDcj
import Derived.Test.YtibknjpbbeackaaGreatJSVRun
import Derived.Test.YtibknjpbbeackaaGreatJSVPiC
import Derived.Test.YtibknjpbbeackaaGreatJSVGo
import Derived.Test.YtibknjpbbeackaaGreatKSDce
import Derived.Test.YtibknjpbbeackaaGreatJSVDrawTb
set_option maxHeartbeats 4000000
set_option maxRecDepth 100000
set_option linter.unusedVariables false
set_option linter.unusedSimpArgs false
namespace Go.Proofs.YtibknjpbbeackaaGreat
open Go.RowKit
theorem first_of {p : Nat → Prop} (hd : ∀ j, p j ∨ ¬ p j) : ∀ n, (∀ j, j < n → p j) ∨ ∃ e, e < n ∧ ¬ p e ∧ ∀ j, j < e → p j
  | 0 => .inl (fun j h => absurd h (Nat.not_lt_zero j))
  | n + 1 => by
    rcases first_of hd n with h | ⟨e, h1, h2, h3⟩
    · rcases hd n with hn | hn
      · exact .inl (fun j hj => by
          by_cases e : j = n
          · subst e; exact hn
          · exact h j (by omega))
      · exact .inr ⟨n, by omega, hn, h⟩
    · exact .inr ⟨e, by omega, h2, h3⟩
def subT (a b : Ta) : Prop := sameT a b ∧ ∀ x, cntE x a.rows ≤ cntE x b.rows
noncomputable instance subTDec (a b : Ta) : Decidable (subT a b) := Classical.propDecidable _
theorem cnt_grp {w : Nat} {la : List (List V)} (hw : RsW w la) (ha : Asc la) {g : List V × Nat} (h : g ∈ grp la) : cntE g.1 la = g.2 := by
  have := (cnt_flat (fun g => g.2) g.1 (grp_pw hw ha)).1 g h rfl
  rwa [grp_flat] at this
theorem IsSubtable_impl {a b : Ta} (hsa : rsz a.rows ≤ 1048576) (hsb : rsz b.rows ≤ 1048576) : Does Tryz.prog 25 [] [taD a, taD b] (Bo (decide (subT a b))) [] := by
  have h1 := haveSameWidth_ok a b hsa hsb
  by_cases h : sameT a b
  · rw [decide_eq_true h] at h1
    obtain ⟨w, hw, hw6, hra, haa, hla⟩ := tOk_nat h.1
    obtain ⟨w', hw', _, hrb, hab, hlb⟩ := tOk_nat h.2.1
    obtain rfl : w = w' := by have := h.2.2; omega
    obtain ⟨aw, la⟩ := a
    obtain ⟨bw, lb⟩ := b
    simp only at hw hw' hra haa hla hrb hab hlb
    have h2 := matchedRuns_ok la lb
    have hY := matched_ok hra hrb hw6.2 haa hab hla hlb
    have hgl : ∀ (j : Nat) (g : List V × Nat), (grp la)[j]? = some g → g.2 ≤ 400 := fun j g hg => by
      rw [← cnt_grp hra haa (List.mem_of_getElem? hg)]
      have := cntE_len g.1 la
      omega
    rcases first_of (p := fun j => ∀ g, (grp la)[j]? = some g → g.2 ≤ cntE g.1 lb) (fun j => Classical.em _) (grp la).length with hall | ⟨e, hel, hne, hbe⟩
    · have hd : subT ⟨aw, la⟩ ⟨bw, lb⟩ := ⟨h, fun x => by
        show cntE x la ≤ cntE x lb
        by_cases hx : 0 < cntE x la
        · have hm := cntE_pos.1 hx
          rw [← grp_flat la] at hm
          obtain ⟨g, hg, hxg⟩ := List.mem_flatMap.1 hm
          obtain ⟨_, rfl⟩ := List.mem_replicate.1 hxg
          obtain ⟨j, hj⟩ := List.mem_iff_getElem?.1 hg
          rw [cnt_grp hra haa hg]
          exact hall j (List.getElem?_eq_some_iff.1 hj).1 g hj
        · omega⟩
      rw [decide_eq_true hd]
      refine Bg c_Z95 mixed (go1 trivial ?_)
      refine Uc trivial (h1) (go1 trivial ?_)
      refine Uc trivial (h2) (go1 trivial ?_)
      refine dw_rng 73 [.ptr [rowsD lb], .ptr [.fn 46 []], .ptr [rowsD la]] ((grp la).map (tupM lb)) 3 3 [(2, .ref 1000000 0), (3, .ref 1000001 0), (4, .ref 1000002 0), (15, .fn 73 [.ptr [rowsD lb], .ptr [.fn 46 []], .ptr [rowsD la]])]
        (fun j => [(1000000, .obj [I aw, rowsD la]), (1000001, .obj [I bw, rowsD lb]), (1000002, .obj [Bo false])])
        hY (by kernel_rfl) rfl (Nat.zero_le _) (by decide) (by decide) ?_ (fun j => namesOK_of rfl) (Wk.list [2000002, 2000003, 2000004] rfl rfl ?_) rfl (fun j es h => by obtain ⟨_, _, rfl⟩ := tupM_at h; rfl) (fun j es h hp => ?_) ?_
      · simp (disch := omega) only [go_sem, and_self, Nat.reduceLT]
      · repeat' (first|(conv in hold _=>simp (disch:=omega) only [go_sem])|exact trivial|exact Sub.refl _|omega)
      · obtain ⟨g, hg, rfl⟩ := tupM_at h
        have h8 := hall j (List.getElem?_eq_some_iff.1 hg).1 g hg
        have h9 := hgl j g hg
        have hcl := cntE_len g.1 lb
        refine go1 trivial ?_
        refine Wk.list [1000000, 1000001, 1000002] rfl rfl ?_
        repeat' (first|(conv in hold _=>simp (disch:=omega) only [go_sem])|exact trivial|exact Sub.refl _|omega)
      · exact go0 trivial
    · have hd : ¬ subT ⟨aw, la⟩ ⟨bw, lb⟩ := fun hs => hne (fun g hg => by
        have := hs.2 g.1
        simp only at this
        rw [cnt_grp hra haa (List.mem_of_getElem? hg)] at this
        exact this)
      rw [decide_eq_false hd]
      refine Bg c_Z95 mixed (go1 trivial ?_)
      refine Uc trivial (h1) (go1 trivial ?_)
      refine Uc trivial (h2) (go1 trivial ?_)
      refine dw_rngX 73 [.ptr [rowsD lb], .ptr [.fn 46 []], .ptr [rowsD la]] ((grp la).map (tupM lb)) e 3 3 [(2, .ref 1000000 0), (3, .ref 1000001 0), (4, .ref 1000002 0), (15, .fn 73 [.ptr [rowsD lb], .ptr [.fn 46 []], .ptr [rowsD la]])]
        (fun j => [(1000000, .obj [I aw, rowsD la]), (1000001, .obj [I bw, rowsD lb]), (1000002, .obj [Bo false])])
        hY (by kernel_rfl) rfl (Nat.zero_le _) (by decide) (by decide) ?_ (fun j => namesOK_of rfl) (Wk.list [2000002, 2000003, 2000004] rfl rfl ?_) rfl (fun j es h => by obtain ⟨_, _, rfl⟩ := tupM_at h; rfl) (by rw [List.length_map]; exact hel) (fun j es hj h hp => ?_) (fun es h hp => ?_)
      · simp (disch := omega) only [go_sem, and_self, Nat.reduceLT]
      · repeat' (first|(conv in hold _=>simp (disch:=omega) only [go_sem])|exact trivial|exact Sub.refl _|omega)
      · obtain ⟨g, hg, rfl⟩ := tupM_at h
        have h8 := hbe j hj g hg
        have h9 := hgl j g hg
        have hcl := cntE_len g.1 lb
        refine go1 trivial ?_
        refine Wk.list [1000000, 1000001, 1000002] rfl rfl ?_
        repeat' (first|(conv in hold _=>simp (disch:=omega) only [go_sem])|exact trivial|exact Sub.refl _|omega)
      · obtain ⟨g, hg, rfl⟩ := tupM_at h
        have h8 : cntE g.1 lb < g.2 := by
          refine Classical.byContradiction fun hn => hne (fun g' hg' => ?_)
          rw [hg] at hg'
          cases hg'
          omega
        have h9 := hgl e g hg
        have hcl := cntE_len g.1 lb
        refine go1 trivial ?_
        refine ⟨[(1000000, .obj [I aw, rowsD la]), (1000001, .obj [I bw, rowsD lb]), (1000002, .obj [Bo false])], namesOK_of rfl, Wk.list [1000000, 1000001, 1000002] rfl rfl ?_, ?_⟩
        · repeat' (first|(conv in hold _=>simp (disch:=omega) only [go_sem])|exact trivial|exact Sub.refl _|omega)
        · exact go0 trivial
  · rw [decide_eq_false h] at h1
    rw [decide_eq_false (fun e : subT a b => h e.1)]
    refine Bg c_Z95 mixed (go1 trivial ?_)
    exact Uc trivial (h1) (go0 trivial)
end Go.Proofs.YtibknjpbbeackaaGreat
set_option maxHeartbeats 4000000
set_option maxRecDepth 100000
set_option linter.unusedVariables false
set_option linter.unusedSimpArgs false
namespace Go.Proofs.YtibknjpbbeackaaGreat
open Go.RowKit
def at3 {α : Type} (x y z : α) : Nat → α
  | 0 => x
  | 1 => y
  | _ => z
theorem at3_0 {α : Type} (x y z : α) : at3 x y z 0 = x := rfl
theorem at3_1 {α : Type} (x y z : α) : at3 x y z 1 = y := rfl
theorem at3_2 {α : Type} (x y z : α) : at3 x y z 2 = z := rfl
theorem cast0 : ((0 : Nat) : Int) = 0 := rfl
theorem growV_ok (n : Nat) (h0 : 0 < n) (hn : n ≤ 1000000) : Does Tryz.prog 171 [] [.nul, I n] (.own 1000000 2 0) [.row 2 (List.replicate n (.agg [Bo false, I 0]))] := by
  have hp : D.renL [2000022] (List.replicate n (.agg [Bo false, I 0])) = List.replicate n (.agg [Bo false, I 0]) := by rw [D.renL_map, List.map_replicate]; rfl
  refine Bk c_Z9 mixed 0 (go1 (cj3 @cast0 @Int.sub_self @Int.sub_zero) ?_)
  refine fin_L [2000022] ?_ ?_ rfl ?_
  repeat' (first|(conv in hold _=>simp (disch:=omega) only [go_sem, cast0, Int.sub_self, Int.sub_zero, hp])|exact trivial|exact Sub.refl _|omega)
theorem concatV_own (a b : List V) (h0 : 0 < a.length + b.length) (hl : a.length + b.length ≤ 100000) : Does Tryz.prog 135 [] [.sl 1 [rowD a, rowD b]] (.own 1000000 2 (a.length + b.length)) [.row 2 ((a ++ b).map vD)] := by
  have hg := growV_ok (a.length + b.length) h0 (by omega)
  have e0 : (List.replicate (a.length + b.length) (D.agg [Bo false, I 0])).take 0 = [] := rfl
  have ea := take_all vD a
  have hp : ∀ L, D.renL L (List.replicate (a.length + b.length) (.agg [Bo false, I 0])) = List.replicate (a.length + b.length) (.agg [Bo false, I 0]) := fun L => by rw [D.renL_map, List.map_replicate]; rfl
  have ec : (((a.length + b.length : Nat) : Int)) = (a.length : Int) + (b.length : Int) := by omega
  refine Bk c_Z6 mixed 0 (go1 trivial ?_)
  refine dw_for (c := 0) (l := fun i => [(0, .sl 1 [rowD a, rowD b]), (3, I (at3 0 (a.length : Int) (a.length + b.length : Nat) i)), (9, .sl 1 [rowD a, rowD b]), (10, I 2), (11, I (at3 0 1 2 i))]) 2 (fun _ => True) 0 trivial (Wk.list [] rfl rfl ?_) (fun i hi _ => ?_) (by decide)
  · repeat' (first|(conv in hold _=>simp (disch:=omega) only [go_sem, at3_0, Int.reduceAdd])|exact trivial|exact Sub.refl _|omega)
    first | exact rfl | exact ⟨rfl, rfl⟩
  · have h3 : i = 0 ∨ i = 1 ∨ i = 2 := by omega
    rcases h3 with rfl | rfl | rfl
    · refine go1 (cj2 @at3_0 @Int.zero_add) ?_
      refine ⟨by decide, trivial, Wk.list [] rfl rfl ?_⟩
      repeat' (first|(conv in hold _=>simp (disch:=omega) only [go_sem, at3_1, Nat.reduceAdd, Int.reduceAdd])|exact trivial|exact Sub.refl _|omega)
    · refine go1 @at3_1 ?_
      refine ⟨by decide, trivial, Wk.list [] rfl rfl ?_⟩
      repeat' (first|(conv in hold _=>simp (disch:=omega) only [go_sem, at3_2, Nat.reduceAdd, Int.reduceAdd, ec])|exact trivial|exact Sub.refl _|omega)
    · refine go1 @at3_2 ?_
      refine UcR [3000001] trivial (hg) (go1 trivial ?_)
      refine dw_for (c := 1) (l := fun i => [(6, .own 1000000 2 (at3 0 a.length (a.length + b.length) i)), (25, .sl 1 [rowD a, rowD b]), (26, I 2), (27, I (at3 0 1 2 i)), (1000000, .row 2 (at3 (List.replicate (a.length + b.length) (.agg [Bo false, I 0])) (a.map vD) ((a ++ b).map vD) i))]) 2 (fun _ => True) 0 trivial (Wk.list [3000001] rfl rfl ?_) (fun i hi _ => ?_) (by decide)
      · repeat' (first|(conv in hold _=>simp (disch:=omega) only [go_sem, at3_0, Int.reduceAdd, hp])|exact trivial|exact Sub.refl _|omega)
        first | exact rfl | exact ⟨rfl, rfl⟩
      · have h3 : i = 0 ∨ i = 1 ∨ i = 2 := by omega
        rcases h3 with rfl | rfl | rfl
        · refine go1 (cj2 @at3_0 @e0) ?_
          refine ⟨by decide, trivial, Wk.list [2000033] rfl rfl ?_⟩
          repeat' (first|(conv in hold _=>simp (disch:=omega) only [go_sem, at3_1, Nat.reduceAdd, Int.reduceAdd, e0])|exact trivial|exact Sub.refl _|omega)
        · refine go1 (cj2 @at3_1 @ea) ?_
          refine ⟨by decide, trivial, Wk.list [2000033] rfl rfl ?_⟩
          repeat' (first|(conv in hold _=>simp (disch:=omega) only [go_sem, at3_2, Nat.reduceAdd, Int.reduceAdd, ea])|exact trivial|exact Sub.refl _|omega)
          rw [List.map_append]
        · refine go1 @at3_2 ?_
          refine fin_L [1000000] ?_ ?_ rfl ?_
          repeat' (first|(conv in hold _=>simp (disch:=omega) only [go_sem, at3_2])|exact trivial|exact Sub.refl _|omega)
end Go.Proofs.YtibknjpbbeackaaGreat

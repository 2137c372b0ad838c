/-
  The walk of the function that draws expressions.
-/
import Derived.Test.YtfbkbppaignofaaTree
import Derived.Test.YtfbkbppaignofaaOkE
import Derived.Test.YtfbkbppaignofaaKidS
namespace Go.Proofs.Ytfbkbppaignofaa
open Go.RowKit

namespace ET
/-- An expression drawn: all its blocks are the call's own. -/
def DrPost (w : World) (B rb K : Nat) (e : Ending) (w' : World) : Prop :=
  ∃ (t : ET) (A : Option Addr) (cp : Nat), e = .returned (t.val A cp) ∧ t.At w' (w.heap.size ≤ ·) A ∧ t.Most 2 ∧ Rd w' B rb K ∧ w.grownBy w' (some rb)

theorem own_shapeT {w : World} {B n : Nat} {v : Value} {xs : List Value} (h : w.ownsRow B 27 5 v n xs) (hn : 0 < n) : ∃ A c, v = .slice A n c := by
  rcases h.2 with ⟨_, rfl⟩ | ⟨g, cap, cur, rfl, _⟩
  · omega
  · exact ⟨_, _, rfl⟩
theorem own_ltT {w : World} {B n : Nat} {v : Value} {xs : List Value} (h : w.ownsRow B 27 5 v n xs) : ∀ g, v.ownBlock = some g → g < w.heap.size := by
  intro g hg
  rcases h.2 with ⟨rfl, _⟩ | ⟨g', cap, cur, rfl, _, hh, _⟩
  · simp [Value.ownBlock] at hg
  · simp [Value.ownBlock] at hg
    subst hg
    exact (Array.getElem?_eq_some_iff.1 hh).1

theorem most_leaf (L : Nat) (k c : Int) (b : Bool) (n : Int) : (ET.mk k c b n 0 (fun _ => .no)).Most L := most_kids.2 ⟨Nat.zero_le _, fun i hi => absurd hi (Nat.not_lt_zero i)⟩
theorem at_leaf (w : World) (s : Nat → Prop) (k c : Int) (b : Bool) (n : Int) (A : Option Addr) : (ET.mk k c b n 0 (fun _ => .no)).At w s A := at_kids.2 (fun h => absurd h (Nat.lt_irrefl 0))

theorem constant_any (b : Bool) (n : Int) (w : World) :
    Calls Try.prog 63 #[.agg #[.bool b, .int .i64 n]] w fun e w' => e = .returned (.agg #[.int .i64 2, .int .i64 0, .bool b, .int .i64 n, .slice none 0 0]) ∧ Below w.heap.size w w' := by
  go_enter Try.func63, Try.ntmps63
  go_wp2_with fail
  exact bodyPost_ret (v := .agg #[.int .i64 2, .int .i64 0, .bool b, .int .i64 n, .slice none 0 0]) (by simp [results, Try.results63, go_sem]) rfl ⟨rfl, B_alloc (B_alloc (Below.refl _ _) _) _⟩

def cost : Nat → Nat
  | 0 => 6
  | d + 1 => 6 + 2 * cost d

/-- What randomExpr does at a depth. -/
def DrOK (d : Nat) : Prop := ∀ (w : World) (B rb K : Nat) (W : Int), 1 ≤ W → W ≤ 6 → K + cost d ≤ 100000 → Rd w B rb K → Calls Try.prog 50 #[.pointer (some ⟨rb, 0, none⟩), .int .i64 W, .int .i64 d] w (DrPost w B rb (K + cost d))

set_option maxHeartbeats 4000000 in
set_option maxRecDepth 100000 in
theorem dr_step (d : Nat) (hd : d ≤ 3) (IH : ∀ d', d = d' + 1 → DrOK d') : DrOK d := by
  intro w B rb K W hW1 hW2 hK hr
  have hlt := hr.lt
  have hbase := hr.base
  have H0 := Lib.hid (hr.alloc (.cells #[.int .i64 0, .int .i64 0, .bool false, .int .i64 0, .slice none 0 0] 27))
  have HG0 := Lib.hid (G_alloc (World.grownBy.refl w (some rb)) (.cells #[.int .i64 0, .int .i64 0, .bool false, .int .i64 0, .slice none 0 0] 27))
  have XR := Lib.hid (Blk.new' (w := w) (cs := #[.int .i64 0, .int .i64 0, .bool false, .int .i64 0, .slice none 0 0]) (T := 27) (g := w.heap.size) rfl)
  clear hr
  go_enter Try.func50, Try.ntmps50
  go_wp2_with fail
  refine (pick_any _ B rb K 13 (by omega) (by omega) (by omega) H0.out).mono ?_
  rintro e w1 ⟨k, rfl, hk0, hk1, _, hr1, hg1⟩
  have hk1 := hk1 (by omega)
  have XR1 := Lib.hid (XR.out.grown hg1 (by omega))
  have HR1 := Lib.hid hr1
  have HG1 := Lib.hid (G_more HG0.out hg1)
  have hcost : 6 ≤ cost d := by cases d <;> simp [cost] <;> omega
  clear hr1 hg1 H0 HG0 XR
  by_cases hd0 : d = 0
  · subst hd0
    go_wp2_with fail
    refine (pick_any _ B rb _ 3 (by omega) (by omega) (by omega) HR1.out).mono ?_
    rintro e w2 ⟨x, rfl, hx0, hx1, _, hr2, hg2⟩
    have XR2 := Lib.hid (XR1.out.grown hg2 (by omega))
    have HR2 := Lib.hid hr2
    have HG2 := Lib.hid (G_more HG1.out hg2)
    clear hr2 hg2 XR1 HR1 HG1
    by_cases hx : 0 < x
    · go_wp2_with fail
      refine (pick_any _ B rb _ W (by omega) (by omega) (by omega) HR2.out).mono ?_
      rintro e w3 ⟨y, rfl, hy0, hy1, _, hr3, hg3⟩
      have XR3 := Lib.hid (XR2.out.grown hg3 (by omega))
      have HR3 := Lib.hid hr3
      have HG3 := Lib.hid (G_more HG2.out hg3)
      clear hr3 hg3 XR2 HR2 HG2
      have r0 := XR3.out.cell 0 _ rfl
      have q0 := XR3.out.free 0
      have r1 := XR3.out.cell 1 _ rfl
      have q1 := XR3.out.free 1
      have r2 := XR3.out.cell 2 _ rfl
      have q2 := XR3.out.free 2
      have r3 := XR3.out.cell 3 _ rfl
      have q3 := XR3.out.free 3
      have r4 := XR3.out.cell 4 _ rfl
      have q4 := XR3.out.free 4
      dsimp only [List.getElem_toArray, List.getElem_cons_zero, List.getElem_cons_succ] at r0 r1 r2 r3 r4
      go_wp2_with fail
      exact bodyPost_ret (v := .agg #[.int .i64 1, .int .i64 y, .bool false, .int .i64 0, .slice none 0 0]) (by simp [results, Try.results50, go_sem, r0, r1, r2, r3, r4]) rfl
        ⟨ET.mk 1 y false 0 0 (fun _ => .no), none, 0, rfl, at_leaf _ _ _ _ _ _ _, most_leaf _ _ _ _ _, (((((((HR3.out).set (by simp; omega) (by simp; omega) _).set (by simp; omega) (by simp; omega) _).set (by simp; omega) (by simp; omega) _).set (by simp; omega) (by simp; omega) _).set (by simp; omega) (by simp; omega) _).mono (by have := hcost; omega)), G_set (G_set (G_set (G_set (G_set (HG3.out) (by simp) _) (by simp) _) (by simp) _) (by simp) _) (by simp) _⟩
    · obtain rfl : x = 0 := by omega
      go_wp2_with fail
      refine (randomValue_any _ B rb _ (by omega) HR2.out).mono ?_
      rintro e w3 ⟨b, m, rfl, hr3, hg3⟩
      have XR3 := Lib.hid (XR2.out.grown hg3 (by omega))
      have HR3 := Lib.hid hr3
      have HG3 := Lib.hid (G_more HG2.out hg3)
      clear hr3 hg3 XR2 HR2 HG2
      go_wp2_with fail
      refine (constant_any b m _).mono ?_
      rintro e w4 ⟨rfl, hb⟩
      have XR4 := Lib.hid (XR3.out.below hb)
      have HR4 := Lib.hid (HR3.out.below hb)
      have HG4 := Lib.hid (G_below HG3.out hb)
      clear hb XR3 HR3 HG3
      have r0 := XR4.out.cell 0 _ rfl
      have q0 := XR4.out.free 0
      have r1 := XR4.out.cell 1 _ rfl
      have q1 := XR4.out.free 1
      have r2 := XR4.out.cell 2 _ rfl
      have q2 := XR4.out.free 2
      have r3 := XR4.out.cell 3 _ rfl
      have q3 := XR4.out.free 3
      have r4 := XR4.out.cell 4 _ rfl
      have q4 := XR4.out.free 4
      dsimp only [List.getElem_toArray, List.getElem_cons_zero, List.getElem_cons_succ] at r0 r1 r2 r3 r4
      go_wp2_with fail
      exact bodyPost_ret (v := .agg #[.int .i64 2, .int .i64 0, .bool b, .int .i64 m, .slice none 0 0]) (by simp [results, Try.results50, go_sem, r0, r1, r2, r3, r4]) rfl
        ⟨ET.mk 2 0 b m 0 (fun _ => .no), none, 0, rfl, at_leaf _ _ _ _ _ _ _, most_leaf _ _ _ _ _, (((((((HR4.out).set (by simp; omega) (by simp; omega) _).set (by simp; omega) (by simp; omega) _).set (by simp; omega) (by simp; omega) _).set (by simp; omega) (by simp; omega) _).set (by simp; omega) (by simp; omega) _).mono (by have := hcost; omega)), G_set (G_set (G_set (G_set (G_set (HG4.out) (by simp) _) (by simp) _) (by simp) _) (by simp) _) (by simp) _⟩
  · have hd1 : ((d : Int) == 0) = false := by simpa using hd0
    by_cases hk10 : 10 < k
    · go_wp2_with fail
      refine (pick_any _ B rb _ 3 (by omega) (by omega) (by omega) HR1.out).mono ?_
      rintro e w2 ⟨x, rfl, hx0, hx1, _, hr2, hg2⟩
      have XR2 := Lib.hid (XR1.out.grown hg2 (by omega))
      have HR2 := Lib.hid hr2
      have HG2 := Lib.hid (G_more HG1.out hg2)
      clear hr2 hg2 XR1 HR1 HG1
      by_cases hx : 0 < x
      · go_wp2_with fail
        refine (pick_any _ B rb _ W (by omega) (by omega) (by omega) HR2.out).mono ?_
        rintro e w3 ⟨y, rfl, hy0, hy1, _, hr3, hg3⟩
        have XR3 := Lib.hid (XR2.out.grown hg3 (by omega))
        have HR3 := Lib.hid hr3
        have HG3 := Lib.hid (G_more HG2.out hg3)
        clear hr3 hg3 XR2 HR2 HG2
        have r0 := XR3.out.cell 0 _ rfl
        have q0 := XR3.out.free 0
        have r1 := XR3.out.cell 1 _ rfl
        have q1 := XR3.out.free 1
        have r2 := XR3.out.cell 2 _ rfl
        have q2 := XR3.out.free 2
        have r3 := XR3.out.cell 3 _ rfl
        have q3 := XR3.out.free 3
        have r4 := XR3.out.cell 4 _ rfl
        have q4 := XR3.out.free 4
        dsimp only [List.getElem_toArray, List.getElem_cons_zero, List.getElem_cons_succ] at r0 r1 r2 r3 r4
        go_wp2_with fail
        exact bodyPost_ret (v := .agg #[.int .i64 1, .int .i64 y, .bool false, .int .i64 0, .slice none 0 0]) (by simp [results, Try.results50, go_sem, r0, r1, r2, r3, r4]) rfl
          ⟨ET.mk 1 y false 0 0 (fun _ => .no), none, 0, rfl, at_leaf _ _ _ _ _ _ _, most_leaf _ _ _ _ _, (((((((HR3.out).set (by simp; omega) (by simp; omega) _).set (by simp; omega) (by simp; omega) _).set (by simp; omega) (by simp; omega) _).set (by simp; omega) (by simp; omega) _).set (by simp; omega) (by simp; omega) _).mono (by have := hcost; omega)), G_set (G_set (G_set (G_set (G_set (HG3.out) (by simp) _) (by simp) _) (by simp) _) (by simp) _) (by simp) _⟩
      · obtain rfl : x = 0 := by omega
        go_wp2_with fail
        refine (randomValue_any _ B rb _ (by omega) HR2.out).mono ?_
        rintro e w3 ⟨b, m, rfl, hr3, hg3⟩
        have XR3 := Lib.hid (XR2.out.grown hg3 (by omega))
        have HR3 := Lib.hid hr3
        have HG3 := Lib.hid (G_more HG2.out hg3)
        clear hr3 hg3 XR2 HR2 HG2
        go_wp2_with fail
        refine (constant_any b m _).mono ?_
        rintro e w4 ⟨rfl, hb⟩
        have XR4 := Lib.hid (XR3.out.below hb)
        have HR4 := Lib.hid (HR3.out.below hb)
        have HG4 := Lib.hid (G_below HG3.out hb)
        clear hb XR3 HR3 HG3
        have r0 := XR4.out.cell 0 _ rfl
        have q0 := XR4.out.free 0
        have r1 := XR4.out.cell 1 _ rfl
        have q1 := XR4.out.free 1
        have r2 := XR4.out.cell 2 _ rfl
        have q2 := XR4.out.free 2
        have r3 := XR4.out.cell 3 _ rfl
        have q3 := XR4.out.free 3
        have r4 := XR4.out.cell 4 _ rfl
        have q4 := XR4.out.free 4
        dsimp only [List.getElem_toArray, List.getElem_cons_zero, List.getElem_cons_succ] at r0 r1 r2 r3 r4
        go_wp2_with fail
        exact bodyPost_ret (v := .agg #[.int .i64 2, .int .i64 0, .bool b, .int .i64 m, .slice none 0 0]) (by simp [results, Try.results50, go_sem, r0, r1, r2, r3, r4]) rfl
          ⟨ET.mk 2 0 b m 0 (fun _ => .no), none, 0, rfl, at_leaf _ _ _ _ _ _ _, most_leaf _ _ _ _ _, (((((((HR4.out).set (by simp; omega) (by simp; omega) _).set (by simp; omega) (by simp; omega) _).set (by simp; omega) (by simp; omega) _).set (by simp; omega) (by simp; omega) _).set (by simp; omega) (by simp; omega) _).mono (by have := hcost; omega)), G_set (G_set (G_set (G_set (G_set (HG4.out) (by simp) _) (by simp) _) (by simp) _) (by simp) _) (by simp) _⟩
    · obtain ⟨d', rfl⟩ : ∃ d', d = d' + 1 := ⟨d - 1, by omega⟩
      have hd2 : ((d' : Int) + 1 == 0) = false := by simp; omega
      have HIH := Lib.hid (IH d' rfl)
      have HKB := Lib.hid (show K + 1 + 2 * cost d' ≤ K + cost (d' + 1) ∧ K + 1 + 2 * cost d' ≤ 100000 from ⟨by simp only [cost]; omega, by simp only [cost] at hK; omega⟩)
      have hK0 : K ≤ 100000 := by omega
      clear hK
      obtain ⟨i0, hi0, hz0, hz1, hz2⟩ := info_parts infoE
      obtain ⟨N, hN, hN1, hN2⟩ : ∃ N : Nat, ar (3 + k % 9) = (N : Int) ∧ 1 ≤ N ∧ N ≤ 2 := by
        rcases (show ar (3 + k % 9) = 1 ∨ ar (3 + k % 9) = 2 by unfold ar; repeat' split; all_goals omega) with h | h
        · exact ⟨1, h, by omega, by omega⟩
        · exact ⟨2, h, by omega, by omega⟩
      clear IH hcost
      go_wp2_with fail
      obtain ⟨kd, hkd⟩ : ∃ x, x = 3 + k % 9 := ⟨_, rfl⟩
      rw [← hkd] at hN
      rw [← hkd]
      have HN := Lib.hid hN
      clear hkd hN
      obtain ⟨go, hgo⟩ : ∃ g, g = w1.heap.size := ⟨_, rfl⟩
      have KS0 := Lib.hid (show KS w (w1.alloc (.cells #[.int .i64 kd, .int .i64 0, .bool false, .int .i64 0, .slice none 0 0] 27)) B rb (K + 1) go kd (.slice none 0 0) (.slice none 0 0) [] from
        ⟨Blk.new' hgo, ⟨by simp [cellsT], .inl ⟨rfl, rfl⟩⟩, (fun x hx => by cases hx), XR1.out.alloc _, HR1.out.alloc _, G_alloc HG1.out _, by have := XR1.out.lt; omega, hlt⟩)
      rw [← hgo]
      clear XR1 HR1 HG1 hgo
      go_loopw [10] (fun i wr => ∃ (j : Nat) (l : List TreeY) (v : Value), j ≤ N ∧ i = .int .i64 j ∧ l.length = j ∧ KS w wr B rb (K + 1 + j * cost d') go kd v v l) (fun i _ => N - (intOf i).toNat)
      case atStart => exact ⟨0, [], _, by omega, rfl, rfl, by simpa using KS0.out⟩
      case round =>
        obtain ⟨j, l, v, hj, rfl, hlen, hks⟩ := hrel
        clear KS0
        by_cases hjN : j < N
        · have hj0 : (0 : Int) ≤ (j : Int) := by omega
          have hj1 : (j : Int) < (N : Int) := by omega
          have hcj : j * cost d' ≤ cost d' := by
            have : j ≤ 1 := by omega
            have := Nat.mul_le_mul_right (cost d') this
            omega
          have KSd := Lib.hid hks.drew
          clear hks
          go_wp2_with fail
          refine (kidsOf_any _ _).mono ?_; rintro e w' ⟨rfl, rfl⟩
          rw [HN.out]
          go_wp2_with fail
          refine wp_region_held_drew (S := (fun _ => True)) (by kernel_rfl) trivial (fun hHeld => ?_)
          refine held_take 0 40 _ ?_ rfl rfl (by kernel_rfl) (by kernel_rfl) (by kernel_rfl) (fun _ _ _ h => h) (by kernel_rfl) (fun w' hSw => ?_) (by assumption) ?_
          rotate_left
          · ((try dsimp only at hSw); go_simp; (try with_reducible rfl))
          simp only [Act.put, List.setIfInBounds_toArray, List.set_cons_zero, List.set_cons_succ]
          refine held_take 2 42 _ ?_ rfl rfl (by kernel_rfl) (by kernel_rfl) (by kernel_rfl) (fun _ _ _ h => h) (by kernel_rfl) (fun w' hSw => ?_) (by assumption) ?_
          rotate_left
          · ((try dsimp only at hSw); go_simp; (try with_reducible rfl))
          simp only [Act.put, List.setIfInBounds_toArray, List.set_cons_zero, List.set_cons_succ]
          refine held_take 3 43 _ ?_ rfl rfl (by kernel_rfl) (by kernel_rfl) (by kernel_rfl) (fun _ _ _ h => h) (by kernel_rfl) (fun w' hSw => ?_) (by assumption) ?_
          rotate_left
          · ((try dsimp only at hSw); go_simp; (try with_reducible rfl))
          simp only [Act.put, List.setIfInBounds_toArray, List.set_cons_zero, List.set_cons_succ]
          refine held_take 4 44 _ ?_ rfl rfl (by kernel_rfl) (by kernel_rfl) (by kernel_rfl) (fun _ _ _ h => h) (by kernel_rfl) (fun w' hSw => ?_) (by assumption) ?_
          rotate_left
          · ((try dsimp only at hSw); go_simp; (try with_reducible rfl))
          simp only [Act.put, List.setIfInBounds_toArray, List.set_cons_zero, List.set_cons_succ]
          refine held_take 5 45 _ ?_ rfl rfl (by kernel_rfl) (by kernel_rfl) (by kernel_rfl) (fun _ _ _ h => h) (by kernel_rfl) (fun w' hSw => ?_) (by assumption) ?_
          rotate_left
          · ((try dsimp only at hSw); go_simp; (try with_reducible rfl))
          simp only [Act.put, List.setIfInBounds_toArray, List.set_cons_zero, List.set_cons_succ]
          refine wpAnyH_ready (rs := [1, 6]) (by kernel_rfl) (by simp) ?_
          refine (AllReadyH.cons rfl (fun K' hK' => ?_) (AllReadyH.cons rfl (fun K' hK' => ?_) AllReadyH.nil))
          · rw [if_pos (show Region.wanted _ _ = true from rfl)]
            have x4 := KSd.out.out.cell 4 _ rfl
            dsimp only [List.getElem_toArray, List.getElem_cons_zero, List.getElem_cons_succ] at x4
            go_wp2_with fail
            refine hK'.out _ _ trivial (fun _ => ?_)
            clear hK' K' x4
            (try simp only [Act.put, List.setIfInBounds_toArray, List.set_cons_zero, List.set_cons_succ])
            refine wpAnyH_ready (rs := [6]) (by kernel_rfl) (by simp) ?_
            refine (AllReadyH.cons rfl (fun K' hK' => ?_) AllReadyH.nil)
            rw [if_pos (show Region.wanted _ _ = true from rfl)]
            go_wp2_with fail
            refine (HIH.out _ B rb _ W hW1 hW2 (by have := HKB.out; omega) KSd.out.rd).mono ?_
            rintro e wc ⟨t, A, cp, rfl, hT, hm, hr, hg⟩
            have KS2 := Lib.hid (KSd.out.grown hg hr)
            have T2 := Lib.hid (hT.wide (s' := fun b => go < b ∧ v.ownBlock ≠ some b) (fun b hb => ⟨Nat.lt_of_lt_of_le KSd.out.out.lt hb, fun e => by have := own_ltT KSd.out.row b e; omega⟩))
            have HMO := Lib.hid hm
            clear hT hr hg hm
            unfold ET.val
            go_wp2_with fail
            refine hK'.out _ _ trivial (fun _ => ?_)
            clear hK' K'
            (try simp only [Act.put, List.setIfInBounds_toArray, List.set_cons_zero, List.set_cons_succ])
            refine wpAnyH_ready (rs := [7]) (by kernel_rfl) (by simp) ?_
            refine (AllReadyH.cons rfl (fun K' hK' => ?_) AllReadyH.nil)
            rw [if_pos (show Region.wanted _ _ = true from rfl)]
            go_wp2_with fail
            refine hK'.out _ _ trivial (fun _ => ?_)
            clear hK' K'
            (try simp only [Act.put, List.setIfInBounds_toArray, List.set_cons_zero, List.set_cons_succ])
            have KS3 := Lib.hid (KS2.out.alloc (.cells #[.int .i64 t.k, .int .i64 t.c, .bool t.b, .int .i64 t.n, .slice A t.m cp] 27))
            have T3 := Lib.hid (T2.out.more ((Below.refl _ _).alloc (Nat.le_refl _) (.cells #[.int .i64 t.k, .int .i64 t.c, .bool t.b, .int .i64 t.n, .slice A t.m cp] 27)) (fun _ h => h))
            have XN := Lib.hid (Blk.new wc #[.int .i64 t.k, .int .i64 t.c, .bool t.b, .int .i64 t.n, .slice A t.m cp] 27)
            have hgz := KS2.out.out.lt
            refine wpAnyH_ready (rs := [8]) (by kernel_rfl) (by simp) ?_
            refine (AllReadyH.cons rfl (fun K' hK' => ?_) AllReadyH.nil)
            rw [if_pos (show Region.wanted _ _ = true from rfl)]
            refine oper_append (.tmp 41) (.tmp 47) 25 rfl (go + 1) 27 i0 _ 5 56 Try.underlying25 hi0 hz0 hz1 hz2 rfl (by decide) v j (cellsT l) rfl (hlen ▸ KS3.out.row) ⟨wc.heap.size, 0, none⟩ 1 1 (five ⟨t, A, cp⟩) rfl rfl ?_ ?_ ?_ ?_ ?_ ?_
            · intro q u hq
              match q, hq with
              | 0, hq => exact XN.out.cell 0 u (by simpa [five] using hq)
              | 1, hq => exact XN.out.cell 1 u (by simpa [five] using hq)
              | 2, hq => exact XN.out.cell 2 u (by simpa [five] using hq)
              | 3, hq => exact XN.out.cell 3 u (by simpa [five] using hq)
              | 4, hq => exact XN.out.cell 4 u (by simpa [five] using hq)
            · intro q hq
              simp [five] at hq
              rcases hq with rfl | rfl | rfl | rfl | rfl <;> rfl
            · unfold maxLen; omega
            · omega
            · simp; omega
            intro v' w' hown hgr hob
            refine hK'.out _ _ trivial (fun _ => ?_)
            clear hK' K'
            obtain ⟨Av, cv, rfl⟩ := own_shapeT hown (Nat.succ_pos _)
            have KS4 := Lib.hid (KS3.out.append ⟨t, A, cp⟩ T3.out HMO.out (hlen ▸ hown) hgr hob)
            clear hown hgr hob
            (try simp only [Act.put, List.setIfInBounds_toArray])
            refine held_take 9 49 _ ?_ rfl rfl (by kernel_rfl) (by kernel_rfl) (by kernel_rfl) (fun _ _ _ h => h) (by kernel_rfl) (fun w' hSw => ?_) (by assumption) ?_
            rotate_left
            · ((try dsimp only at hSw); go_simp; (try with_reducible rfl))
            simp only [Act.put]
            refine wpAnyH_ready (rs := [10]) (by kernel_rfl) (by simp) ?_
            refine (AllReadyH.cons rfl (fun K' hK' => ?_) AllReadyH.nil)
            rw [if_pos (show Region.wanted _ _ = true from rfl)]
            have x4 := KS4.out.out.cell 4 _ rfl
            have f4 := KS4.out.out.free 4
            dsimp only [List.getElem_toArray, List.getElem_cons_zero, List.getElem_cons_succ] at x4
            go_wp2_with fail
            refine hK'.out _ _ trivial (fun _ => ?_)
            clear hK' K' x4 f4
            (try simp only [Act.put, List.setIfInBounds_toArray, List.set_cons_zero, List.set_cons_succ])
            have KS5 := Lib.hid (KS4.out.store)
            refine wpAnyH_done (by kernel_rfl) ?_ _
            go_wp2_with fail
            refine ⟨?_, by simp [intOf]; omega⟩
            have HLEN := Lib.hid (show (l ++ [(⟨t, A, cp⟩ : TreeY)]).length = j + 1 by rw [List.length_append, hlen]; rfl)
            have HFIN := Lib.hid (show K + 1 + j * cost d' + cost d' = K + 1 + (j + 1) * cost d' by rw [Nat.add_mul]; omega)
            rw [HFIN.out] at KS5
            exact ⟨j + 1, l ++ [⟨t, A, cp⟩], _, by omega, by go_num, HLEN.out, KS5.out⟩
          · rw [if_pos (show Region.wanted _ _ = true from rfl)]
            go_wp2_with fail
            refine (HIH.out _ B rb _ W hW1 hW2 (by have := HKB.out; omega) KSd.out.rd).mono ?_
            rintro e wc ⟨t, A, cp, rfl, hT, hm, hr, hg⟩
            have KS6 := Lib.hid (KSd.out.grown hg hr)
            have T6 := Lib.hid (hT.wide (s' := fun b => go < b ∧ v.ownBlock ≠ some b) (fun b hb => ⟨Nat.lt_of_lt_of_le KSd.out.out.lt hb, fun e => by have := own_ltT KSd.out.row b e; omega⟩))
            have HMO := Lib.hid hm
            clear hT hr hg hm
            unfold ET.val
            go_wp2_with fail
            refine hK'.out _ _ trivial (fun _ => ?_)
            clear hK' K'
            (try simp only [Act.put, List.setIfInBounds_toArray, List.set_cons_zero, List.set_cons_succ])
            refine wpAnyH_ready (rs := [1, 7]) (by kernel_rfl) (by simp) ?_
            refine (AllReadyH.cons rfl (fun K' hK' => ?_) (AllReadyH.cons rfl (fun K' hK' => ?_) AllReadyH.nil))
            · rw [if_pos (show Region.wanted _ _ = true from rfl)]
              have x4 := KS6.out.out.cell 4 _ rfl
              dsimp only [List.getElem_toArray, List.getElem_cons_zero, List.getElem_cons_succ] at x4
              go_wp2_with fail
              refine hK'.out _ _ trivial (fun _ => ?_)
              clear hK' K' x4
              (try simp only [Act.put, List.setIfInBounds_toArray, List.set_cons_zero, List.set_cons_succ])
              refine wpAnyH_ready (rs := [7]) (by kernel_rfl) (by simp) ?_
              refine (AllReadyH.cons rfl (fun K' hK' => ?_) AllReadyH.nil)
              rw [if_pos (show Region.wanted _ _ = true from rfl)]
              go_wp2_with fail
              refine hK'.out _ _ trivial (fun _ => ?_)
              clear hK' K'
              (try simp only [Act.put, List.setIfInBounds_toArray, List.set_cons_zero, List.set_cons_succ])
              have KS8 := Lib.hid (KS6.out.alloc (.cells #[.int .i64 t.k, .int .i64 t.c, .bool t.b, .int .i64 t.n, .slice A t.m cp] 27))
              have T8 := Lib.hid (T6.out.more ((Below.refl _ _).alloc (Nat.le_refl _) (.cells #[.int .i64 t.k, .int .i64 t.c, .bool t.b, .int .i64 t.n, .slice A t.m cp] 27)) (fun _ h => h))
              have XN := Lib.hid (Blk.new wc #[.int .i64 t.k, .int .i64 t.c, .bool t.b, .int .i64 t.n, .slice A t.m cp] 27)
              have hgz := KS6.out.out.lt
              refine wpAnyH_ready (rs := [8]) (by kernel_rfl) (by simp) ?_
              refine (AllReadyH.cons rfl (fun K' hK' => ?_) AllReadyH.nil)
              rw [if_pos (show Region.wanted _ _ = true from rfl)]
              refine oper_append (.tmp 41) (.tmp 47) 25 rfl (go + 1) 27 i0 _ 5 56 Try.underlying25 hi0 hz0 hz1 hz2 rfl (by decide) v j (cellsT l) rfl (hlen ▸ KS8.out.row) ⟨wc.heap.size, 0, none⟩ 1 1 (five ⟨t, A, cp⟩) rfl rfl ?_ ?_ ?_ ?_ ?_ ?_
              · intro q u hq
                match q, hq with
                | 0, hq => exact XN.out.cell 0 u (by simpa [five] using hq)
                | 1, hq => exact XN.out.cell 1 u (by simpa [five] using hq)
                | 2, hq => exact XN.out.cell 2 u (by simpa [five] using hq)
                | 3, hq => exact XN.out.cell 3 u (by simpa [five] using hq)
                | 4, hq => exact XN.out.cell 4 u (by simpa [five] using hq)
              · intro q hq
                simp [five] at hq
                rcases hq with rfl | rfl | rfl | rfl | rfl <;> rfl
              · unfold maxLen; omega
              · omega
              · simp; omega
              intro v' w' hown hgr hob
              refine hK'.out _ _ trivial (fun _ => ?_)
              clear hK' K'
              obtain ⟨Av, cv, rfl⟩ := own_shapeT hown (Nat.succ_pos _)
              have KS9 := Lib.hid (KS8.out.append ⟨t, A, cp⟩ T8.out HMO.out (hlen ▸ hown) hgr hob)
              clear hown hgr hob
              (try simp only [Act.put, List.setIfInBounds_toArray])
              refine held_take 9 49 _ ?_ rfl rfl (by kernel_rfl) (by kernel_rfl) (by kernel_rfl) (fun _ _ _ h => h) (by kernel_rfl) (fun w' hSw => ?_) (by assumption) ?_
              rotate_left
              · ((try dsimp only at hSw); go_simp; (try with_reducible rfl))
              simp only [Act.put]
              refine wpAnyH_ready (rs := [10]) (by kernel_rfl) (by simp) ?_
              refine (AllReadyH.cons rfl (fun K' hK' => ?_) AllReadyH.nil)
              rw [if_pos (show Region.wanted _ _ = true from rfl)]
              have x4 := KS9.out.out.cell 4 _ rfl
              have f4 := KS9.out.out.free 4
              dsimp only [List.getElem_toArray, List.getElem_cons_zero, List.getElem_cons_succ] at x4
              go_wp2_with fail
              refine hK'.out _ _ trivial (fun _ => ?_)
              clear hK' K' x4 f4
              (try simp only [Act.put, List.setIfInBounds_toArray, List.set_cons_zero, List.set_cons_succ])
              have KS10 := Lib.hid (KS9.out.store)
              refine wpAnyH_done (by kernel_rfl) ?_ _
              go_wp2_with fail
              refine ⟨?_, by simp [intOf]; omega⟩
              have HLEN := Lib.hid (show (l ++ [(⟨t, A, cp⟩ : TreeY)]).length = j + 1 by rw [List.length_append, hlen]; rfl)
              have HFIN := Lib.hid (show K + 1 + j * cost d' + cost d' = K + 1 + (j + 1) * cost d' by rw [Nat.add_mul]; omega)
              rw [HFIN.out] at KS10
              exact ⟨j + 1, l ++ [⟨t, A, cp⟩], _, by omega, by go_num, HLEN.out, KS10.out⟩
            · rw [if_pos (show Region.wanted _ _ = true from rfl)]
              go_wp2_with fail
              refine hK'.out _ _ trivial (fun _ => ?_)
              clear hK' K'
              (try simp only [Act.put, List.setIfInBounds_toArray, List.set_cons_zero, List.set_cons_succ])
              have KS11 := Lib.hid (KS6.out.alloc (.cells #[.int .i64 t.k, .int .i64 t.c, .bool t.b, .int .i64 t.n, .slice A t.m cp] 27))
              have T11 := Lib.hid (T6.out.more ((Below.refl _ _).alloc (Nat.le_refl _) (.cells #[.int .i64 t.k, .int .i64 t.c, .bool t.b, .int .i64 t.n, .slice A t.m cp] 27)) (fun _ h => h))
              have XN := Lib.hid (Blk.new wc #[.int .i64 t.k, .int .i64 t.c, .bool t.b, .int .i64 t.n, .slice A t.m cp] 27)
              have hgz := KS6.out.out.lt
              refine wpAnyH_ready (rs := [1]) (by kernel_rfl) (by simp) ?_
              refine (AllReadyH.cons rfl (fun K' hK' => ?_) AllReadyH.nil)
              rw [if_pos (show Region.wanted _ _ = true from rfl)]
              have x4 := KS11.out.out.cell 4 _ rfl
              dsimp only [List.getElem_toArray, List.getElem_cons_zero, List.getElem_cons_succ] at x4
              go_wp2_with fail
              refine hK'.out _ _ trivial (fun _ => ?_)
              clear hK' K' x4
              (try simp only [Act.put, List.setIfInBounds_toArray, List.set_cons_zero, List.set_cons_succ])
              refine wpAnyH_ready (rs := [8]) (by kernel_rfl) (by simp) ?_
              refine (AllReadyH.cons rfl (fun K' hK' => ?_) AllReadyH.nil)
              rw [if_pos (show Region.wanted _ _ = true from rfl)]
              refine oper_append (.tmp 41) (.tmp 47) 25 rfl (go + 1) 27 i0 _ 5 56 Try.underlying25 hi0 hz0 hz1 hz2 rfl (by decide) v j (cellsT l) rfl (hlen ▸ KS11.out.row) ⟨wc.heap.size, 0, none⟩ 1 1 (five ⟨t, A, cp⟩) rfl rfl ?_ ?_ ?_ ?_ ?_ ?_
              · intro q u hq
                match q, hq with
                | 0, hq => exact XN.out.cell 0 u (by simpa [five] using hq)
                | 1, hq => exact XN.out.cell 1 u (by simpa [five] using hq)
                | 2, hq => exact XN.out.cell 2 u (by simpa [five] using hq)
                | 3, hq => exact XN.out.cell 3 u (by simpa [five] using hq)
                | 4, hq => exact XN.out.cell 4 u (by simpa [five] using hq)
              · intro q hq
                simp [five] at hq
                rcases hq with rfl | rfl | rfl | rfl | rfl <;> rfl
              · unfold maxLen; omega
              · omega
              · simp; omega
              intro v' w' hown hgr hob
              refine hK'.out _ _ trivial (fun _ => ?_)
              clear hK' K'
              obtain ⟨Av, cv, rfl⟩ := own_shapeT hown (Nat.succ_pos _)
              have KS13 := Lib.hid (KS11.out.append ⟨t, A, cp⟩ T11.out HMO.out (hlen ▸ hown) hgr hob)
              clear hown hgr hob
              (try simp only [Act.put, List.setIfInBounds_toArray])
              refine held_take 9 49 _ ?_ rfl rfl (by kernel_rfl) (by kernel_rfl) (by kernel_rfl) (fun _ _ _ h => h) (by kernel_rfl) (fun w' hSw => ?_) (by assumption) ?_
              rotate_left
              · ((try dsimp only at hSw); go_simp; (try with_reducible rfl))
              simp only [Act.put]
              refine wpAnyH_ready (rs := [10]) (by kernel_rfl) (by simp) ?_
              refine (AllReadyH.cons rfl (fun K' hK' => ?_) AllReadyH.nil)
              rw [if_pos (show Region.wanted _ _ = true from rfl)]
              have x4 := KS13.out.out.cell 4 _ rfl
              have f4 := KS13.out.out.free 4
              dsimp only [List.getElem_toArray, List.getElem_cons_zero, List.getElem_cons_succ] at x4
              go_wp2_with fail
              refine hK'.out _ _ trivial (fun _ => ?_)
              clear hK' K' x4 f4
              (try simp only [Act.put, List.setIfInBounds_toArray, List.set_cons_zero, List.set_cons_succ])
              have KS14 := Lib.hid (KS13.out.store)
              refine wpAnyH_done (by kernel_rfl) ?_ _
              go_wp2_with fail
              refine ⟨?_, by simp [intOf]; omega⟩
              have HLEN := Lib.hid (show (l ++ [(⟨t, A, cp⟩ : TreeY)]).length = j + 1 by rw [List.length_append, hlen]; rfl)
              have HFIN := Lib.hid (show K + 1 + j * cost d' + cost d' = K + 1 + (j + 1) * cost d' by rw [Nat.add_mul]; omega)
              rw [HFIN.out] at KS14
              exact ⟨j + 1, l ++ [⟨t, A, cp⟩], _, by omega, by go_num, HLEN.out, KS14.out⟩
        · obtain rfl : j = N := by omega
          obtain ⟨A, cp, rfl, hka⟩ := own_kids (lo := go + 1) hks.row rfl (Nat.le_refl _) (fun x hx => (hks.kids x hx).1.wide (fun b hb => ⟨hb.1, hb.2⟩))
          have HKA := Lib.hid (show (ET.mk kd 0 false 0 j (fun i => (l.getD i TreeY.none).t)).At wr (go + 1 ≤ ·) A from at_kids.2 (hlen ▸ hka))
          have HMM := Lib.hid (show (ET.mk kd 0 false 0 j (fun i => (l.getD i TreeY.none).t)).Most 2 from most_kids.2 ⟨hN2, fun i hi => by
            have hi' : i < l.length := by rw [hlen]; exact hi
            have hm : l.getD i TreeY.none ∈ l := by rw [List.getD_eq_getElem?_getD, List.getElem?_eq_getElem hi']; exact List.getElem_mem _
            exact (hks.kids _ hm).2⟩)
          rw [hlen] at hks
          have KSe := Lib.hid hks
          have hgo2 := hks.hgo
          have x0 := hks.out.cell 0 _ rfl
          have x1 := hks.out.cell 1 _ rfl
          have x2 := hks.out.cell 2 _ rfl
          have x3 := hks.out.cell 3 _ rfl
          have x4 := hks.out.cell 4 _ rfl
          have r0 := hks.res.cell 0 _ rfl
          have r1 := hks.res.cell 1 _ rfl
          have r2 := hks.res.cell 2 _ rfl
          have r3 := hks.res.cell 3 _ rfl
          have r4 := hks.res.cell 4 _ rfl
          have q0 := hks.res.free 0
          have q1 := hks.res.free 1
          have q2 := hks.res.free 2
          have q3 := hks.res.free 3
          have q4 := hks.res.free 4
          dsimp only [List.getElem_toArray, List.getElem_cons_zero, List.getElem_cons_succ] at x0 x1 x2 x3 x4 r0 r1 r2 r3 r4
          have HRD := Lib.hid (hks.rd.mono (K' := K + cost (d' + 1)) (by have := HKB.out.1; have : j * cost d' ≤ 2 * cost d' := Nat.mul_le_mul_right _ hN2; omega))
          have HGR := Lib.hid hks.gr
          clear hks hka
          go_wp2_with fail
          refine (kidsOf_any _ _).mono ?_; rintro e w' ⟨rfl, rfl⟩
          rw [HN.out]
          go_wp2_with fail
          refine bodyPost_ret (v := .agg #[.int .i64 kd, .int .i64 0, .bool false, .int .i64 0, .slice A j cp]) (by simp [results, Try.results50, go_sem, r0, r1, r2, r3, r4]) rfl ⟨ET.mk kd 0 false 0 j (fun i => (l.getD i TreeY.none).t), A, cp, rfl, ?_, HMM.out, ?_, ?_⟩
          · refine At.wide (s := (go + 1 ≤ ·)) ?_ (fun b hb => by omega)
            iterate 5 refine At.put ?_ (by simp; omega) _
            exact HKA.out
          · iterate 5 refine Rd.set ?_ (by simp; omega) (by simp; omega) _
            exact HRD.out
          · iterate 5 refine G_set ?_ (by simp) _
            exact HGR.out
end ET
end Go.Proofs.Ytfbkbppaignofaa

/-
  The terms of the program: termOf.
-/
import Derived.Test.YtfbkbppaignofaaTermE
namespace Go.Proofs.Ytfbkbppaignofaa
open Go.RowKit

namespace ET
def tyP (k : Int) : TypeId := if k = 3 then 96 else if k = 4 then 97 else if k = 5 then 98 else if k = 6 then 99 else if k = 7 then 100 else if k = 8 then 101 else 102
/-- The term of an expression. -/
def termV : ET → Value
  | .mk k c b n _ kid => if k = 1 then .iface 81 (.agg #[.int .i64 c]) else if k = 2 then .iface 83 (.agg #[.bool b, .int .i64 n]) else if k = 10 then .iface 85 (.agg #[(kid 0).termV])
      else if k = 11 then .iface 86 (.agg #[(kid 0).termV]) else .iface (tyP k) (.agg #[(kid 0).termV, (kid 1).termV])
  | .no => .nilIface

theorem termV_shape {t : ET} {W : Int} {lv : Nat} (h : t.okE W lv = true) : ∃ T u, t.termV = .iface T u := by
  cases t with
  | mk k c b n m kid =>
    rw [termV]
    repeat' split
    all_goals exact ⟨_, _, rfl⟩
  | no => exact absurd h (by show ¬ false = true; simp)

theorem pairTerm_any (k : Int) (hk : 3 ≤ k ∧ k ≤ 9) (u v : Value) (w : World) :
    Calls Try.prog 54 #[.int .i64 k, .agg #[u, v]] w fun e w' => e = .returned (.iface (tyP k) (.agg #[u, v])) ∧ Below w.heap.size w w' := by
  have hB := Lib.hid (B_alloc (Below.refl w.heap.size w) (.cells #[u, v] 89))
  obtain rfl | rfl | rfl | rfl | rfl | rfl | rfl : k = 3 ∨ k = 4 ∨ k = 5 ∨ k = 6 ∨ k = 7 ∨ k = 8 ∨ k = 9 := by omega
  all_goals
    go_enter Try.func54, Try.ntmps54
    go_wp2_with fail
    go_ret
    exact ⟨rfl, hB.out⟩

def TeOK (t : ET) : Prop := ∀ (w : World) (A : Option Addr) (cp : Nat) (W : Int) (lv : Nat), On w t A → t.okE W lv = true → Calls Try.prog 36 #[t.val A cp] w fun e w' => e = .returned t.termV ∧ Below w.heap.size w w'

theorem te_col (c : Int) (b : Bool) (n : Int) (w : World) (A : Option Addr) (cp : Nat) :
    Calls Try.prog 36 #[.agg #[.int .i64 1, .int .i64 c, .bool b, .int .i64 n, .slice A 0 cp]] w fun e w' => e = .returned (.iface 81 (.agg #[.int .i64 c])) ∧ Below w.heap.size w w' := by
  go_enter Try.func36, Try.ntmps36
  go_wp2_with fail
  go_ret
  exact ⟨rfl, B_alloc (Below.refl _ _) _⟩
theorem te_con (c : Int) (b : Bool) (n : Int) (w : World) (A : Option Addr) (cp : Nat) :
    Calls Try.prog 36 #[.agg #[.int .i64 2, .int .i64 c, .bool b, .int .i64 n, .slice A 0 cp]] w fun e w' => e = .returned (.iface 83 (.agg #[.bool b, .int .i64 n])) ∧ Below w.heap.size w w' := by
  go_enter Try.func36, Try.ntmps36
  go_wp2_with fail
  go_ret
  exact ⟨rfl, B_alloc (Below.refl _ _) _⟩

theorem te_not (c : Int) (b : Bool) (n : Int) (w : World) (A : Option Addr) (cp : Nat) (kid : Nat → ET) (IH : ∀ i, i < 1 → (kid i).TeOK) (hA : KOn w 1 kid A) (W : Int) (lv : Nat) (hk : ∀ i, i < 1 → (kid i).okE W lv = true) :
    Calls Try.prog 36 #[.agg #[.int .i64 10, .int .i64 c, .bool b, .int .i64 n, .slice A 1 cp]] w fun e w' => e = .returned (.iface 85 (.agg #[(kid 0).termV])) ∧ Below w.heap.size w w' := by
  have HB := Lib.hid (B_alloc (Below.refl w.heap.size w) (.cells #[.int .i64 10, .int .i64 c, .bool b, .int .i64 n, .slice A 1 cp] 27))
  have H1 := Lib.hid (hA.on HB.out)
  have HI := Lib.hid IH
  have HK := Lib.hid hk
  clear hA IH hk
  obtain ⟨bb, o, rfl, hbb, hc⟩ := H1.out (by omega)
  obtain ⟨A0, c0, g00, g01, g02, g03, g04, g05⟩ := hc 0 (by omega)
  clear hc
  simp only [Nat.zero_mul, Nat.add_zero] at g00 g01 g02 g03 g04
  have cc := Lib.hid (HI.out 0 (by omega) _ A0 c0 W lv (show On _ (kid 0) A0 from g05) (HK.out 0 (by omega)))
  unfold ET.val at cc
  obtain ⟨T, u, hT⟩ := termV_shape (HK.out 0 (by omega))
  rw [hT] at cc ⊢
  clear hT
  go_enter Try.func36, Try.ntmps36
  go_wp2_with fail
  refine cc.out.mono ?_; rintro e w1 ⟨rfl, hb⟩
  have HB1 := Lib.hid (B_more HB.out hb)
  clear hb
  go_wp2_with fail
  go_ret
  exact ⟨rfl, HB1.out⟩
theorem te_null (c : Int) (b : Bool) (n : Int) (w : World) (A : Option Addr) (cp : Nat) (kid : Nat → ET) (IH : ∀ i, i < 1 → (kid i).TeOK) (hA : KOn w 1 kid A) (W : Int) (lv : Nat) (hk : ∀ i, i < 1 → (kid i).okE W lv = true) :
    Calls Try.prog 36 #[.agg #[.int .i64 11, .int .i64 c, .bool b, .int .i64 n, .slice A 1 cp]] w fun e w' => e = .returned (.iface 86 (.agg #[(kid 0).termV])) ∧ Below w.heap.size w w' := by
  have HB := Lib.hid (B_alloc (Below.refl w.heap.size w) (.cells #[.int .i64 11, .int .i64 c, .bool b, .int .i64 n, .slice A 1 cp] 27))
  have H1 := Lib.hid (hA.on HB.out)
  have HI := Lib.hid IH
  have HK := Lib.hid hk
  clear hA IH hk
  obtain ⟨bb, o, rfl, hbb, hc⟩ := H1.out (by omega)
  obtain ⟨A0, c0, g00, g01, g02, g03, g04, g05⟩ := hc 0 (by omega)
  clear hc
  simp only [Nat.zero_mul, Nat.add_zero] at g00 g01 g02 g03 g04
  have cc := Lib.hid (HI.out 0 (by omega) _ A0 c0 W lv (show On _ (kid 0) A0 from g05) (HK.out 0 (by omega)))
  unfold ET.val at cc
  obtain ⟨T, u, hT⟩ := termV_shape (HK.out 0 (by omega))
  rw [hT] at cc ⊢
  clear hT
  go_enter Try.func36, Try.ntmps36
  go_wp2_with fail
  refine cc.out.mono ?_; rintro e w1 ⟨rfl, hb⟩
  have HB1 := Lib.hid (B_more HB.out hb)
  clear hb
  go_wp2_with fail
  go_ret
  exact ⟨rfl, HB1.out⟩
set_option maxHeartbeats 4000000 in
set_option maxRecDepth 100000 in
theorem te_pair (k c : Int) (b : Bool) (n : Int) (w : World) (A : Option Addr) (cp : Nat) (hk9 : 3 ≤ k ∧ k ≤ 9) (kid : Nat → ET) (IH : ∀ i, i < 2 → (kid i).TeOK) (hA : KOn w 2 kid A) (W : Int) (lv : Nat) (hk : ∀ i, i < 2 → (kid i).okE W lv = true) :
    Calls Try.prog 36 #[.agg #[.int .i64 k, .int .i64 c, .bool b, .int .i64 n, .slice A 2 cp]] w fun e w' => e = .returned (.iface (tyP k) (.agg #[(kid 0).termV, (kid 1).termV])) ∧ Below w.heap.size w w' := by
  have HB := Lib.hid (B_alloc (Below.refl w.heap.size w) (.cells #[.int .i64 k, .int .i64 c, .bool b, .int .i64 n, .slice A 2 cp] 27))
  have H1 := Lib.hid (hA.on HB.out)
  have HI := Lib.hid IH
  have HK := Lib.hid hk
  clear hA IH hk
  obtain ⟨bb, o, rfl, hbb, hc⟩ := H1.out (by omega)
  obtain ⟨A0, c0, g00, g01, g02, g03, g04, g05⟩ := hc 0 (by omega)
  obtain ⟨A1, c1, g10, g11, g12, g13, g14, g15⟩ := hc 1 (by omega)
  clear hc
  simp only [Nat.zero_mul, Nat.one_mul, Nat.add_zero] at g00 g01 g02 g03 g04 g10 g11 g12 g13 g14
  have hb1 : (k == 1) = false := by simp; omega
  have hb2 : (k == 2) = false := by simp; omega
  have hb3 : (k == 10) = false := by simp; omega
  have hb4 : (k == 11) = false := by simp; omega
  have HK9 := Lib.hid hk9
  clear hk9
  have XE := Lib.hid (Blk.new' (w := w) (cs := #[.int .i64 k, .int .i64 c, .bool b, .int .i64 n, .slice (some ⟨bb, o, none⟩) 2 cp]) (T := 27) (g := w.heap.size) rfl)
  obtain ⟨T0, u0, hT0⟩ := termV_shape (HK.out 0 (by omega))
  obtain ⟨T1, u1, hT1⟩ := termV_shape (HK.out 1 (by omega))
  rw [hT0, hT1]
  have HT0 := Lib.hid hT0
  have HT1 := Lib.hid hT1
  clear hT0 hT1
  go_enter Try.func36, Try.ntmps36
  go_wp2_with fail
  obtain ⟨w0, hw0⟩ : ∃ x, x = w.alloc (.cells #[.int .i64 k, .int .i64 c, .bool b, .int .i64 n, .slice (some ⟨bb, o, none⟩) 2 cp] 27) := ⟨_, rfl⟩
  rw [← hw0] at HB XE g00 g01 g02 g03 g04 g05 g10 g11 g12 g13 g14 g15
  rw [← hw0]
  clear hw0 H1 hbb
  have cc := Lib.hid (HI.out 0 (by omega) w0.drew A0 c0 W lv (On.on (show On w0 (kid 0) A0 from g05) (Below.refl _ _).drew) (HK.out 0 (by omega)))
  have TT1 := Lib.hid (On.on (show On w0 (kid 1) A1 from g15) (Below.refl _ _).drew)
  clear g05 g15
  rw [HT0.out] at cc
  unfold ET.val at cc
  refine wp_region_held_drew (S := (fun w' => w'.cell? ⟨w.heap.size, 0, none⟩ = some (.int .i64 k) ∧ w'.cell? ⟨w.heap.size, 4, none⟩ = some (.slice (some ⟨bb, o, none⟩) 2 cp) ∧ w'.cell? ⟨bb, o, none⟩ = some (.int .i64 (kid 0).k) ∧ w'.cell? ⟨bb, o + 1, none⟩ = some (.int .i64 (kid 0).c) ∧ w'.cell? ⟨bb, o + 2, none⟩ = some (.bool (kid 0).b) ∧ w'.cell? ⟨bb, o + 3, none⟩ = some (.int .i64 (kid 0).n) ∧ w'.cell? ⟨bb, o + 4, none⟩ = some (.slice A0 (kid 0).m c0) ∧ w'.cell? ⟨bb, o + 5, none⟩ = some (.int .i64 (kid 1).k) ∧ w'.cell? ⟨bb, o + 5 + 1, none⟩ = some (.int .i64 (kid 1).c) ∧ w'.cell? ⟨bb, o + 5 + 2, none⟩ = some (.bool (kid 1).b) ∧ w'.cell? ⟨bb, o + 5 + 3, none⟩ = some (.int .i64 (kid 1).n) ∧ w'.cell? ⟨bb, o + 5 + 4, none⟩ = some (.slice A1 (kid 1).m c1) ∧ Below w.heap.size w w')) (by kernel_rfl)
    ⟨XE.out.cell 0 _ rfl, XE.out.cell 4 _ rfl, g00, g01, g02, g03, g04, g10, g11, g12, g13, g14, HB.out.drew⟩ (fun hHeld => ?_)
  clear g00 g01 g02 g03 g04 g10 g11 g12 g13 g14 XE HB
  refine held_take 0 35 _ ?_ rfl rfl (by kernel_rfl) (by kernel_rfl) (by kernel_rfl) (fun _ _ _ h => h) (by kernel_rfl) (fun w' hSw => ?_) (by assumption) ?_
  rotate_left
  · ((try dsimp only at hSw); go_simp; (try with_reducible rfl))
  simp only [Act.put, List.setIfInBounds_toArray, List.set_cons_zero, List.set_cons_succ]
  refine held_take 1 36 _ ?_ rfl rfl (by kernel_rfl) (by kernel_rfl) (by kernel_rfl) (fun _ _ _ h => h) (by kernel_rfl) (fun w' hSw => ?_) (by assumption) ?_
  rotate_left
  · ((try dsimp only at hSw); go_simp; (try with_reducible rfl))
  simp only [Act.put, List.setIfInBounds_toArray, List.set_cons_zero, List.set_cons_succ]
  refine held_take 2 37 _ ?_ rfl rfl (by kernel_rfl) (by kernel_rfl) (by kernel_rfl) (fun _ _ _ h => h) (by kernel_rfl) (fun w' hSw => ?_) (by assumption) ?_
  rotate_left
  · ((try dsimp only at hSw); go_simp; (try with_reducible rfl))
  simp only [Act.put, List.setIfInBounds_toArray, List.set_cons_zero, List.set_cons_succ]
  refine held_take 3 38 _ ?_ rfl rfl (by kernel_rfl) (by kernel_rfl) (by kernel_rfl) (fun _ _ _ h => h) (by kernel_rfl) (fun w' hSw => ?_) (by assumption) ?_
  rotate_left
  · ((try dsimp only at hSw); go_simp; (try with_reducible rfl))
  simp only [Act.put, List.setIfInBounds_toArray, List.set_cons_zero, List.set_cons_succ]
  refine held_take 4 39 _ ?_ rfl rfl (by kernel_rfl) (by kernel_rfl) (by kernel_rfl) (fun _ _ _ h => h) (by kernel_rfl) (fun w' hSw => ?_) (by assumption) ?_
  rotate_left
  · ((try dsimp only at hSw); go_simp; (try with_reducible rfl))
  simp only [Act.put, List.setIfInBounds_toArray, List.set_cons_zero, List.set_cons_succ]
  refine held_take 5 40 _ ?_ rfl rfl (by kernel_rfl) (by kernel_rfl) (by kernel_rfl) (fun _ _ _ h => h) (by kernel_rfl) (fun w' hSw => ?_) (by assumption) ?_
  rotate_left
  · ((try dsimp only at hSw); go_simp; (try with_reducible rfl))
  simp only [Act.put, List.setIfInBounds_toArray, List.set_cons_zero, List.set_cons_succ]
  refine held_take 7 42 _ ?_ rfl rfl (by kernel_rfl) (by kernel_rfl) (by kernel_rfl) (fun _ _ _ h => h) (by kernel_rfl) (fun w' hSw => ?_) (by assumption) ?_
  rotate_left
  · ((try dsimp only at hSw); go_simp; (try with_reducible rfl))
  simp only [Act.put, List.setIfInBounds_toArray, List.set_cons_zero, List.set_cons_succ]
  refine held_take 8 43 _ ?_ rfl rfl (by kernel_rfl) (by kernel_rfl) (by kernel_rfl) (fun _ _ _ h => h) (by kernel_rfl) (fun w' hSw => ?_) (by assumption) ?_
  rotate_left
  · ((try dsimp only at hSw); go_simp; (try with_reducible rfl))
  simp only [Act.put, List.setIfInBounds_toArray, List.set_cons_zero, List.set_cons_succ]
  refine held_take 9 44 _ ?_ rfl rfl (by kernel_rfl) (by kernel_rfl) (by kernel_rfl) (fun _ _ _ h => h) (by kernel_rfl) (fun w' hSw => ?_) (by assumption) ?_
  rotate_left
  · ((try dsimp only at hSw); go_simp; (try with_reducible rfl))
  simp only [Act.put, List.setIfInBounds_toArray, List.set_cons_zero, List.set_cons_succ]
  refine held_take 10 45 _ ?_ rfl rfl (by kernel_rfl) (by kernel_rfl) (by kernel_rfl) (fun _ _ _ h => h) (by kernel_rfl) (fun w' hSw => ?_) (by assumption) ?_
  rotate_left
  · ((try dsimp only at hSw); go_simp; (try with_reducible rfl))
  simp only [Act.put, List.setIfInBounds_toArray, List.set_cons_zero, List.set_cons_succ]
  refine wpAnyH_ready (rs := [6]) (by kernel_rfl) (by simp) ?_
  refine AllReadyH.cons rfl (fun K hK => ?_) AllReadyH.nil
  go_simp
  refine cc.out.mono ?_; rintro e w1 ⟨rfl, hb⟩
  go_wp2_with fail
  refine hK.out _ _ (keep_twelve hHeld hb) (fun hHeld2 => ?_)
  clear hK K
  (try clear hHeld)
  (try simp only [Act.put, List.setIfInBounds_toArray, List.set_cons_zero, List.set_cons_succ])
  have TT2 := Lib.hid (TT1.out.on hb)
  clear hb cc TT1
  have cc := Lib.hid (HI.out 1 (by omega) w1 A1 c1 W lv TT2.out (HK.out 1 (by omega)))
  rw [HT1.out] at cc
  unfold ET.val at cc
  refine wpAnyH_ready (rs := [11]) (by kernel_rfl) (by simp) ?_
  refine AllReadyH.cons rfl (fun K hK => ?_) AllReadyH.nil
  go_simp
  refine cc.out.mono ?_; rintro e w2 ⟨rfl, hb⟩
  go_wp2_with fail
  refine hK.out _ _ (keep_twelve hHeld2 hb) (fun hHeld2 => ?_)
  clear hK K
  (try clear hHeld)
  (try simp only [Act.put, List.setIfInBounds_toArray, List.set_cons_zero, List.set_cons_succ])
  clear hb cc TT2
  refine held_take 12 47 _ ?_ rfl rfl (by kernel_rfl) (by kernel_rfl) (by kernel_rfl) (fun _ _ _ h => h) (by kernel_rfl) (fun w' hSw => ?_) (by assumption) ?_
  rotate_left
  · ((try dsimp only at hSw); go_simp; (try with_reducible rfl))
  simp only [Act.put, List.setIfInBounds_toArray, List.set_cons_zero, List.set_cons_succ]
  refine wpAnyH_ready (rs := [13]) (by kernel_rfl) (by simp) ?_
  refine AllReadyH.cons rfl (fun K hK => ?_) AllReadyH.nil
  go_simp
  refine (pairTerm_any k HK9.out _ _ _).mono ?_; rintro e w3 ⟨rfl, hb⟩
  go_wp2_with fail
  refine hK.out _ _ (keep_twelve hHeld2 hb) (fun hHeld2 => ?_)
  clear hK K
  (try clear hHeld)
  (try simp only [Act.put, List.setIfInBounds_toArray, List.set_cons_zero, List.set_cons_succ])
  clear hb
  refine held_take 14 2 _ ?_ rfl rfl (by kernel_rfl) (by kernel_rfl) (by kernel_rfl) (fun _ _ _ h => h) (by kernel_rfl) (fun w' hSw => ?_) (by assumption) ?_
  rotate_left
  · ((try dsimp only at hSw); go_simp; (try with_reducible rfl))
  simp only [Act.put, List.setIfInBounds_toArray, List.set_cons_zero, List.set_cons_succ]
  have HBZ := Lib.hid hHeld2.2.2.2.2.2.2.2.2.2.2.2.2
  clear hHeld2
  refine wpAnyH_done (by kernel_rfl) ?_ _
  go_wp2_with fail
  go_ret
  exact ⟨rfl, HBZ.out⟩

theorem termOf_step (k c : Int) (b : Bool) (n : Int) (m : Nat) (kid : Nat → ET) (IH : ∀ i, i < m → (kid i).TeOK) : (ET.mk k c b n m kid).TeOK := by
  intro w A cp W lv hA hok
  obtain ⟨ha, hh, hk⟩ := okE_parts hok
  have ha' : (m : Int) = ar k := ha
  have hk' : ∀ i, i < m → (kid i).okE W (lv - 1) = true := fun i hi => (hk i hi).2
  have hA' : KOn w m kid A := On.kids hA
  clear hA ha hh hk hok
  show Calls _ _ #[.agg #[.int .i64 k, .int .i64 c, .bool b, .int .i64 n, .slice A m cp]] _ _
  rw [termV]
  by_cases h1 : k = 1
  · subst h1
    obtain rfl : m = 0 := by simp only [ar] at ha'; omega
    exact te_col c b n w A cp
  · rw [if_neg h1]
    by_cases h2 : k = 2
    · subst h2
      obtain rfl : m = 0 := by simp only [ar] at ha'; omega
      exact te_con c b n w A cp
    · rw [if_neg h2]
      by_cases h3 : k = 10
      · subst h3
        obtain rfl : m = 1 := by simp only [ar] at ha'; omega
        exact te_not c b n w A cp kid IH hA' W (lv - 1) hk'
      · rw [if_neg h3]
        by_cases h4 : k = 11
        · subst h4
          obtain rfl : m = 1 := by simp only [ar] at ha'; omega
          exact te_null c b n w A cp kid IH hA' W (lv - 1) hk'
        · rw [if_neg h4]
          have h9 : 3 ≤ k ∧ k ≤ 9 := by unfold ar at ha'; repeat' split at ha'; all_goals omega
          obtain rfl : m = 2 := by unfold ar at ha'; repeat' split at ha'; all_goals omega
          exact te_pair k c b n w A cp h9 kid IH hA' W (lv - 1) hk'
theorem termOf_any (t : ET) : t.TeOK := ET.all termOf_step (fun _ w A cp W lv _ hok => absurd hok (by show ¬ false = true; simp)) t

theorem ans_pair (k : Int) (hk : 3 ≤ k ∧ k ≤ 9) (i j : Value) (x y : M.V) (R : Option Addr) (rn rc : Nat) (f : Nat → M.V) (hi : Ans R rn rc f i x) (hj : Ans R rn rc f j y) (hx : x.ok = true) (hy : y.ok = true) :
    Ans R rn rc f (.iface (tyP k) (.agg #[i, j])) (M.comb k x y) := by
  obtain ⟨b1, n1⟩ := x
  obtain ⟨b2, n2⟩ := y
  obtain rfl | rfl | rfl | rfl | rfl | rfl | rfl : k = 3 ∨ k = 4 ∨ k = 5 ∨ k = 6 ∨ k = 7 ∨ k = 8 ∨ k = 9 := by omega
  · exact ⟨_, _, 91, rfl, fun w => by kernel_rfl, fun w => by kernel_rfl, fun args w => by kernel_rfl, fun w hR => va_plus i j b1 b2 n1 n2 w R rn rc f hR hi hj hx hy⟩
  · exact ⟨_, _, 95, rfl, fun w => by kernel_rfl, fun w => by kernel_rfl, fun args w => by kernel_rfl, fun w hR => va_minus i j b1 b2 n1 n2 w R rn rc f hR hi hj hx hy⟩
  · exact ⟨_, _, 97, rfl, fun w => by kernel_rfl, fun w => by kernel_rfl, fun args w => by kernel_rfl, fun w hR => va_times i j b1 b2 n1 n2 w R rn rc f hR hi hj hx hy⟩
  · exact ⟨_, _, 99, rfl, fun w => by kernel_rfl, fun w => by kernel_rfl, fun args w => by kernel_rfl, fun w hR => va_equal i j b1 b2 n1 n2 w R rn rc f hR hi hj hx hy⟩
  · exact ⟨_, _, 102, rfl, fun w => by kernel_rfl, fun w => by kernel_rfl, fun args w => by kernel_rfl, fun w hR => va_less i j b1 b2 n1 n2 w R rn rc f hR hi hj hx hy⟩
  · refine ⟨_, _, 104, rfl, fun w => by kernel_rfl, fun w => by kernel_rfl, fun args w => by kernel_rfl, fun w hR => ?_⟩
    have h := va_and i j ⟨b1, n1⟩ ⟨b2, n2⟩ w R rn rc f hR hi hj _ _ rfl rfl
    rw [M.ival_min] at h
    exact h
  · refine ⟨_, _, 106, rfl, fun w => by kernel_rfl, fun w => by kernel_rfl, fun args w => by kernel_rfl, fun w hR => ?_⟩
    have h := va_or i j ⟨b1, n1⟩ ⟨b2, n2⟩ w R rn rc f hR hi hj _ _ rfl rfl
    rw [M.ival_max] at h
    exact h

theorem ans_term (R : Option Addr) (rn rc : Nat) (f : Nat → M.V) (hrn : rn ≤ 6) (hf : ∀ i, i < rn → (f i).ok = true) : ∀ (t : ET) (lv : Nat), t.okE rn lv = true → Ans R rn rc f t.termV (t.ev f) := by
  refine ET.all ?_ ?_
  · intro k c b n m kid IH lv hok
    obtain ⟨ha, hh, hk⟩ := okE_parts hok
    have ha' : (m : Int) = ar k := ha
    have hh' : headOk k c b n rn = true := hh
    have hk' : ∀ i, i < m → (kid i).okE rn (lv - 1) = true := fun i hi => (hk i hi).2
    rw [termV]
    by_cases h1 : k = 1
    · subst h1
      have := of_decide_eq_true (show decide ((0 ≤ c ∧ c < rn) ∧ b = false ∧ n = 0) = true from hh')
      obtain ⟨j, rfl⟩ : ∃ j : Nat, c = (j : Int) := ⟨c.toNat, by omega⟩
      rw [ev_one, if_pos rfl, show (j : Int).toNat = j by omega]
      exact ⟨_, _, 82, rfl, fun w => by kernel_rfl, fun w => by kernel_rfl, fun args w => by kernel_rfl, fun w hR => va_col j w R rn rc f hR hrn (by omega)⟩
    · rw [if_neg h1]
      by_cases h2 : k = 2
      · subst h2
        rw [ev_two, if_pos rfl]
        exact ⟨_, _, 83, rfl, fun w => by kernel_rfl, fun w => by kernel_rfl, fun args w => by kernel_rfl, fun w _ => va_con b n w R rn rc⟩
      · rw [if_neg h2]
        by_cases h3 : k = 10
        · subst h3
          obtain rfl : m = 1 := by simp only [ar] at ha'; omega
          rw [ev_not, if_pos rfl]
          exact ⟨_, _, 84, rfl, fun w => by kernel_rfl, fun w => by kernel_rfl, fun args w => by kernel_rfl, fun w hR => va_not _ _ w R rn rc f hR (IH 0 (by omega) (lv - 1) (hk' 0 (by omega)))⟩
        · rw [if_neg h3]
          by_cases h4 : k = 11
          · subst h4
            obtain rfl : m = 1 := by simp only [ar] at ha'; omega
            rw [ev_null, if_pos rfl]
            exact ⟨_, _, 88, rfl, fun w => by kernel_rfl, fun w => by kernel_rfl, fun args w => by kernel_rfl, fun w hR => va_null _ _ w R rn rc f hR (IH 0 (by omega) (lv - 1) (hk' 0 (by omega)))⟩
          · rw [if_neg h4]
            have h9 : 3 ≤ k ∧ k ≤ 9 := by unfold ar at ha'; repeat' split at ha'; all_goals omega
            obtain rfl : m = 2 := by unfold ar at ha'; repeat' split at ha'; all_goals omega
            rw [ev_pair h9]
            exact ans_pair k h9 _ _ _ _ R rn rc f (IH 0 (by omega) (lv - 1) (hk' 0 (by omega))) (IH 1 (by omega) (lv - 1) (hk' 1 (by omega))) (ev_ok f rn hf _ _ (hk' 0 (by omega))) (ev_ok f rn hf _ _ (hk' 1 (by omega)))
  · intro _ lv hok
    exact absurd hok (by show ¬ false = true; simp)
end ET
end Go.Proofs.Ytfbkbppaignofaa

/-
  The walks of the laws' functions that measure an expression.
-/
import Derived.Test.YtfbkbppaignofaaTree
namespace Go.Proofs.Ytfbkbppaignofaa
open Go.RowKit

namespace ET
/-- What szExpr does at a tree. -/
def SzOK (t : ET) : Prop := ∀ (w : World) (A : Option Addr) (cp : Nat) (left : Int), On w t A → t.Most 9223372036854775807 → 0 ≤ left → left ≤ 1048576 →
  Calls Try.prog 21 #[t.val A cp, .int .i64 left] w fun e w' => e = .returned (.int .i64 (t.sz left)) ∧ Below w.heap.size w w'

theorem szExprS_any (m : Nat) (kid : Nat → ET) (IH : ∀ i, i < m → (kid i).SzOK) (w : World) (A : Option Addr) (cp : Nat) (left : Int) (hA : KOn w m kid A) (hM : ∀ i, i < m → (kid i).Most 9223372036854775807)
    (h1 : 0 ≤ left) (h2 : left ≤ 1048576) (hm : m ≤ 9223372036854775807) :
    Calls Try.prog 42 #[.slice A m cp, .int .i64 left] w fun e w' => e = .returned (.int .i64 (szK (fun i l => (kid i).sz l) m left)) ∧ Below w.heap.size w w' := by
  have H1 := Lib.hid hA
  have HI := Lib.hid IH
  have HM := Lib.hid hM
  clear hA IH hM
  by_cases h : left - (m : Int) < 0
  · have K := Lib.hid (show szK (fun i l => (kid i).sz l) m left = -1 from if_pos h)
    go_enter Try.func42, Try.ntmps42
    go_wp2_with fail
    go_ret
    exact ⟨ret_int K.out.symm, Below.refl _ _⟩
  · have K := Lib.hid (show szK (fun i l => (kid i).sz l) m left = loopE (fun i l => (kid i).sz l) m 0 (left - m) from if_neg h)
    have hm2 : (m : Int) ≤ 1048576 := by omega
    go_enter Try.func42, Try.ntmps42
    go_wp2_with fail
    go_loopw [1, 5] (fun l i wr => ∃ (k : Nat) (x : Int), k ≤ m ∧ i = .int .i64 k ∧ l = .int .i64 x ∧ 0 ≤ x ∧ x ≤ 1048576 ∧ szK (fun i l => (kid i).sz l) m left = loopE (fun i l => (kid i).sz l) (m - k) k x ∧ Below w.heap.size w wr) (fun _ i _ => m - (intOf i).toNat)
    case atStart => exact ⟨0, left - m, by omega, rfl, rfl, by omega, by omega, K.out, Below.refl _ _⟩
    case round =>
      obtain ⟨k, x, hk, rfl, rfl, hx0, hx1, hs, hB⟩ := hrel
      have HS := Lib.hid hs
      have HB := Lib.hid hB
      clear hs K hB
      by_cases hlt : k < m
      · obtain ⟨b, o, rfl, hb, hc⟩ := (H1.out.on HB.out) (by omega)
        obtain ⟨A', c', g0, g1, g2, g3, g4, g5⟩ := hc k hlt
        have HK := Lib.hid (show On wr (kid k) A' from g5)
        have hk0 : (0 : Int) ≤ (k : Int) := by omega
        have hk1 : (k : Int) < (m : Int) := by omega
        have hsp := (kid k).sz_spends x hx0
        clear hc g5
        obtain ⟨y, hy⟩ : ∃ y, y = (kid k).sz x := ⟨_, rfl⟩
        have cc := Lib.hid (HI.out k hlt wr A' c' x HK.out (HM.out k hlt) hx0 hx1)
        have HY := Lib.hid hy
        rw [← hy] at cc hsp
        clear hy
        by_cases hneg : y < 0
        · have HE := Lib.hid (HS.out.trans (loop_stop (fun i l => (kid i).sz l) m k x hlt (by rw [← HY.out]; exact hneg)))
          obtain rfl : y = -1 := by omega
          clear hsp hneg
          go_wp2_with fail
          refine cc.out.mono ?_; rintro e w1 ⟨rfl, hb1⟩
          have HS2 := Lib.hid (B_more HB.out hb1)
          clear hb1
          go_wp2_with fail
          go_ret
          exact ⟨ret_int HE.out.symm, HS2.out⟩
        · have HE := Lib.hid (HS.out.trans (loop_step (fun i l => (kid i).sz l) m k x hlt (by rw [← HY.out]; exact hneg)))
          obtain ⟨hy0, hy1⟩ : 0 ≤ y ∧ y ≤ 1048576 := by omega
          clear hsp
          go_wp2_with fail
          refine cc.out.mono ?_; rintro e w1 ⟨rfl, hb1⟩
          have HS2 := Lib.hid (B_more HB.out hb1)
          clear hb1
          go_wp2_with fail
          refine ⟨?_, by simp [intOf]; omega⟩
          first
            | exact ⟨k + 1, y, by omega, by go_num, rfl, hy0, hy1, by rw [HE.out, HY.out], HS2.out⟩
            | ((repeat apply Exists.intro); exact ⟨⟨k + 1, y, by omega, by go_num, rfl, hy0, hy1, by rw [HE.out, HY.out], HS2.out⟩, rfl⟩)
      · obtain rfl : k = m := by omega
        have HE := Lib.hid (HS.out.trans (loop_end (fun i l => (kid i).sz l) k x))
        go_wp2_with fail
        go_ret
        exact ⟨ret_int HE.out.symm, HB.out⟩

theorem szExpr_step (k c : Int) (b : Bool) (n : Int) (m : Nat) (kid : Nat → ET) (IH : ∀ i, i < m → (kid i).SzOK) : (ET.mk k c b n m kid).SzOK := by
  intro w A cp left hA hM h1 h2
  have HB := Lib.hid (B_alloc (Below.refl w.heap.size w) (.cells #[.int .i64 k, .int .i64 c, .bool b, .int .i64 n, .slice A m cp] 42))
  have H1 := Lib.hid (On.kids (hA.on HB.out))
  have H2 := Lib.hid (most_kids.1 hM)
  have HI := Lib.hid IH
  have hsp := (ET.mk k c b n m kid).sz_spends left h1
  clear hA hM IH
  obtain ⟨y, hy⟩ : ∃ y, y = (ET.mk k c b n m kid).sz left := ⟨_, rfl⟩
  have HY := Lib.hid hy
  have HZ := Lib.hid (hy.trans (sz_kids (ET.mk k c b n m kid) left))
  rw [← hy] at hsp
  clear hy
  show Calls _ _ #[.agg #[.int .i64 k, .int .i64 c, .bool b, .int .i64 n, .slice A m cp], .int .i64 left] _ _
  by_cases hneg : y < 0
  · obtain rfl : y = -1 := by omega
    clear hsp hneg
    go_enter Try.func21, Try.ntmps21
    go_wp2_with fail
    refine (szExprS_any m kid HI.out _ A cp left H1.out H2.out.2 h1 h2 H2.out.1).mono ?_; rintro e w1 ⟨rfl, hb1⟩
    have HS2 := Lib.hid (B_more HB.out hb1)
    have HZ' : szK (fun i l => (kid i).sz l) m left = -1 := HZ.out.symm
    rw [HZ']
    clear hb1 HZ'
    go_wp2_with fail
    go_ret
    exact ⟨ret_int HY.out, HS2.out⟩
  · obtain ⟨hy0, hy1⟩ : 0 ≤ y ∧ y ≤ 1048576 := by omega
    clear hsp
    go_enter Try.func21, Try.ntmps21
    go_wp2_with fail
    refine (szExprS_any m kid HI.out _ A cp left H1.out H2.out.2 h1 h2 H2.out.1).mono ?_; rintro e w1 ⟨rfl, hb1⟩
    have HS2 := Lib.hid (B_more HB.out hb1)
    have HZ' : szK (fun i l => (kid i).sz l) m left = y := HZ.out.symm
    rw [HZ']
    clear hb1 HZ'
    go_wp2_with fail
    go_ret
    exact ⟨ret_int HY.out, HS2.out⟩
theorem szExpr_any (t : ET) : t.SzOK := ET.all szExpr_step (fun h w A cp left _ _ => h w A cp left (on_no w A) (most_no _)) t
end ET
end Go.Proofs.Ytfbkbppaignofaa

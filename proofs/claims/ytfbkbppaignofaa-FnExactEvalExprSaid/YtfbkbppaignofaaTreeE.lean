/-
  The walks of the laws' functions that compare expressions.
-/
import Derived.Test.YtfbkbppaignofaaTree
import Derived.Test.YtfbkbppaignofaaBlk
import Derived.Deep.RegionHeld3
namespace Go.Proofs.Ytfbkbppaignofaa
open Go.RowKit

theorem keep_ten {wr X w1 : World} {a0 : Addr} {a1 : Addr} {a2 : Addr} {a3 : Addr} {a4 : Addr} {a5 : Addr} {a6 : Addr} {a7 : Addr} {a8 : Addr} {a9 : Addr} {v0 : Value} {v1 : Value} {v2 : Value} {v3 : Value} {v4 : Value} {v5 : Value} {v6 : Value} {v7 : Value} {v8 : Value} {v9 : Value} (h : X.cell? a0 = some v0 ∧ X.cell? a1 = some v1 ∧ X.cell? a2 = some v2 ∧ X.cell? a3 = some v3 ∧ X.cell? a4 = some v4 ∧ X.cell? a5 = some v5 ∧ X.cell? a6 = some v6 ∧ X.cell? a7 = some v7 ∧ X.cell? a8 = some v8 ∧ X.cell? a9 = some v9 ∧ Below wr.heap.size wr X) (hb : Below X.heap.size X w1) :
    w1.cell? a0 = some v0 ∧ w1.cell? a1 = some v1 ∧ w1.cell? a2 = some v2 ∧ w1.cell? a3 = some v3 ∧ w1.cell? a4 = some v4 ∧ w1.cell? a5 = some v5 ∧ w1.cell? a6 = some v6 ∧ w1.cell? a7 = some v7 ∧ w1.cell? a8 = some v8 ∧ w1.cell? a9 = some v9 ∧ Below wr.heap.size wr w1 := by
  obtain ⟨h0, h1, h2, h3, h4, h5, h6, h7, h8, h9, hB⟩ := h
  exact ⟨keep_cell h0 hb, keep_cell h1 hb, keep_cell h2 hb, keep_cell h3 hb, keep_cell h4 hb, keep_cell h5 hb, keep_cell h6 hb, keep_cell h7 hb, keep_cell h8 hb, keep_cell h9 hb, B_more hB hb⟩
theorem init_ten {wr : World} {a0 : Addr} {a1 : Addr} {a2 : Addr} {a3 : Addr} {a4 : Addr} {a5 : Addr} {a6 : Addr} {a7 : Addr} {a8 : Addr} {a9 : Addr} {v0 : Value} {v1 : Value} {v2 : Value} {v3 : Value} {v4 : Value} {v5 : Value} {v6 : Value} {v7 : Value} {v8 : Value} {v9 : Value} (h0 : wr.cell? a0 = some v0) (h1 : wr.cell? a1 = some v1) (h2 : wr.cell? a2 = some v2) (h3 : wr.cell? a3 = some v3) (h4 : wr.cell? a4 = some v4) (h5 : wr.cell? a5 = some v5) (h6 : wr.cell? a6 = some v6) (h7 : wr.cell? a7 = some v7) (h8 : wr.cell? a8 = some v8) (h9 : wr.cell? a9 = some v9) :
    wr.drew.cell? a0 = some v0 ∧ wr.drew.cell? a1 = some v1 ∧ wr.drew.cell? a2 = some v2 ∧ wr.drew.cell? a3 = some v3 ∧ wr.drew.cell? a4 = some v4 ∧ wr.drew.cell? a5 = some v5 ∧ wr.drew.cell? a6 = some v6 ∧ wr.drew.cell? a7 = some v7 ∧ wr.drew.cell? a8 = some v8 ∧ wr.drew.cell? a9 = some v9 ∧ Below wr.heap.size wr wr.drew := ⟨h0, h1, h2, h3, h4, h5, h6, h7, h8, h9, (Below.refl _ _).drew⟩

theorem eqV_same (b : Bool) (n : Int) (w : World) :
    Calls Try.prog 27 #[.agg #[.bool b, .int .i64 n], .agg #[.bool b, .int .i64 n]] w fun e w' => e = .returned (.bool true) ∧ Below w.heap.size w w' :=
  (eqValue_any b n b n w).mono fun e w' h => ⟨by rw [h.1, show eqVB b n b n = true from eqVB_true (u := ⟨b, n⟩) rfl], h.2⟩

namespace ET
/-- What eqExpr does at one tree in two places. -/
def EqOK (t : ET) : Prop := ∀ (w : World) (A A' : Option Addr) (cp cp' : Nat), On w t A → On w t A' → t.Most 2000000 →
  Calls Try.prog 24 #[t.val A cp, t.val A' cp'] w fun e w' => e = .returned (.bool true) ∧ Below w.heap.size w w'

theorem eqExprS_any (m : Nat) (kid : Nat → ET) (IH : ∀ i, i < m → (kid i).EqOK) (w : World) (A A' : Option Addr) (cp cp' : Nat) (hA : KOn w m kid A) (hA' : KOn w m kid A') (hM : ∀ i, i < m → (kid i).Most 2000000) (hm : m ≤ 2000000) :
    Calls Try.prog 47 #[.slice A m cp, .slice A' m cp'] w fun e w' => e = .returned (.bool true) ∧ Below w.heap.size w w' := by
  have H1 := Lib.hid hA
  have H2 := Lib.hid hA'
  have HI := Lib.hid IH
  have HM := Lib.hid hM
  clear hA hA' IH hM
  go_enter Try.func47, Try.ntmps47
  go_wp2_with fail
  go_loopw [5] (fun i wr => ∃ k : Nat, k ≤ m ∧ i = .int .i64 k ∧ Below w.heap.size w wr) (fun i _ => m - (intOf i).toNat)
  case atStart => exact ⟨0, by omega, rfl, Below.refl _ _⟩
  case round =>
    obtain ⟨k, hk, rfl, hB⟩ := hrel
    by_cases hlt : k < m
    · obtain ⟨b, o, rfl, hb, hc⟩ := (H1.out.on hB) (by omega)
      obtain ⟨b', o', rfl, hb', hc'⟩ := (H2.out.on hB) (by omega)
      obtain ⟨A1, c1, x0, x1, x2, x3, x4, hT1⟩ := hc k hlt
      obtain ⟨A2, c2, y0, y1, y2, y3, y4, hT2⟩ := hc' k hlt
      have HB := Lib.hid hB
      have cc := Lib.hid (HI.out k hlt wr.drew A1 A2 c1 c2 (show On wr.drew (kid k) A1 from On.on (show On wr (kid k) A1 from hT1) (Below.refl _ _).drew) (show On wr.drew (kid k) A2 from On.on (show On wr (kid k) A2 from hT2) (Below.refl _ _).drew) (HM.out k hlt))
      unfold ET.val at cc
      clear hB hc hc' hT1 hT2
      have hk0 : (0 : Int) ≤ (k : Int) := by omega
      have hk1 : (k : Int) < (m : Int) := by omega
      go_wp2_with fail
      go_region_held3 (fun w' => w'.cell? ⟨b, o + k * 5, none⟩ = some (.int .i64 (kid k).k) ∧ w'.cell? ⟨b, o + k * 5 + 1, none⟩ = some (.int .i64 (kid k).c) ∧ w'.cell? ⟨b, o + k * 5 + 2, none⟩ = some (.bool (kid k).b) ∧ w'.cell? ⟨b, o + k * 5 + 3, none⟩ = some (.int .i64 (kid k).n) ∧ w'.cell? ⟨b, o + k * 5 + 4, none⟩ = some (.slice A1 (kid k).m c1) ∧ w'.cell? ⟨b', o' + k * 5, none⟩ = some (.int .i64 (kid k).k) ∧ w'.cell? ⟨b', o' + k * 5 + 1, none⟩ = some (.int .i64 (kid k).c) ∧ w'.cell? ⟨b', o' + k * 5 + 2, none⟩ = some (.bool (kid k).b) ∧ w'.cell? ⟨b', o' + k * 5 + 3, none⟩ = some (.int .i64 (kid k).n) ∧ w'.cell? ⟨b', o' + k * 5 + 4, none⟩ = some (.slice A2 (kid k).m c2) ∧ Below wr.heap.size wr w')
        (first | exact init_ten x0 x1 x2 x3 x4 y0 y1 y2 y3 y4 | exact keep_ten (by assumption) hb1)
        (first | (go_at_call 24; refine cc.out.mono ?_; rintro e w1 ⟨rfl, hb1⟩))
      have hS : Below wr.heap.size wr w1 := (by assumption : _ ∧ _ ∧ _ ∧ _ ∧ _ ∧ _ ∧ _ ∧ _ ∧ _ ∧ _ ∧ Below wr.heap.size wr w1).2.2.2.2.2.2.2.2.2.2
      have HS := Lib.hid (HB.out.trans (hS.mono HB.out.size))
      clear hS
      go_wp2_with fail
      refine ⟨?_, by simp [intOf]; omega⟩
      first
        | exact ⟨k + 1, by omega, by go_num, HS.out⟩
        | ((repeat apply Exists.intro); exact ⟨⟨k + 1, by omega, by go_num, HS.out⟩, rfl⟩)
    · have HB := Lib.hid hB
      clear hB
      go_wp2_with fail
      go_ret
      exact ⟨rfl, HB.out⟩

theorem eqExpr_step (k c : Int) (b : Bool) (n : Int) (m : Nat) (kid : Nat → ET) (IH : ∀ i, i < m → (kid i).EqOK) : (ET.mk k c b n m kid).EqOK := by
  intro w A A' cp cp' hA hA' hM
  have HI := Lib.hid IH
  have HM := Lib.hid (most_kids.1 hM)
  have H1 := Lib.hid hA
  have H2 := Lib.hid hA'
  have HB := Lib.hid (B_alloc (B_alloc (Below.refl w.heap.size w) (.cells #[.int .i64 k, .int .i64 c, .bool b, .int .i64 n, .slice A m cp] 27)) (.cells #[.int .i64 k, .int .i64 c, .bool b, .int .i64 n, .slice A' m cp'] 27))
  clear hA hA' hM IH
  show Calls _ _ #[.agg #[.int .i64 k, .int .i64 c, .bool b, .int .i64 n, .slice A m cp], .agg #[.int .i64 k, .int .i64 c, .bool b, .int .i64 n, .slice A' m cp']] _ _
  go_enter Try.func24, Try.ntmps24
  go_wp2_with fail
  refine (eqV_same _ _ _).mono ?_; rintro e w1 ⟨rfl, hb⟩
  have XA := Lib.hid (((Blk.new' (g := w.heap.size) (by simp)).alloc _).below hb)
  have XB := Lib.hid ((Blk.new' (g := w.heap.size + 1) (by simp)).below hb)
  have HB1 := Lib.hid (B_more HB.out hb)
  clear hb
  have a4 := XA.out.cell 4 _ rfl
  have b4 := XB.out.cell 4 _ rfl
  go_wp2_with fail
  refine (eqExprS_any m kid HI.out _ A A' cp cp' (On.kids (H1.out.on HB1.out)) (On.kids (H2.out.on HB1.out)) HM.out.2 HM.out.1).mono ?_; rintro e w2 ⟨rfl, hb⟩
  have HB2 := Lib.hid (B_more HB1.out hb)
  clear hb
  go_wp2_with fail
  go_ret
  exact ⟨rfl, HB2.out⟩
theorem eqExpr_any (t : ET) : t.EqOK := ET.all eqExpr_step (fun h w A A' cp cp' _ _ _ => h w A A' cp cp' (on_no w A) (on_no w A') (most_no _)) t
end ET
end Go.Proofs.Ytfbkbppaignofaa

/-
  The walk of the laws' function that copies an expression.
-/
import Derived.Test.YtfbkbppaignofaaTreeT
import Derived.Test.YtfbkbppaignofaaBlk
namespace Go.Proofs.Ytfbkbppaignofaa
open Go.RowKit

namespace ET
theorem toExpr_step (k c : Int) (b : Bool) (n : Int) (m : Nat) (kid : Nat → ET) (IH : ∀ i, i < m → (kid i).ToOK) : (ET.mk k c b n m kid).ToOK := by
  intro w A cp hA hM
  have HI := Lib.hid IH
  have HM := Lib.hid (most_kids.1 hM)
  have H1 := Lib.hid hA
  clear hA hM IH
  show Calls _ _ #[.agg #[.int .i64 k, .int .i64 c, .bool b, .int .i64 n, .slice A m cp]] _ _
  go_enter Try.func23, Try.ntmps23
  go_wp2_with fail
  have hB := B_alloc (B_alloc (B_alloc (Below.refl w.heap.size w) (.cells #[.int .i64 k, .int .i64 c, .bool b, .int .i64 n, .slice A m cp] 42)) (.cells #[.int .i64 0, .int .i64 0, .bool false, .int .i64 0, .slice none 0 0] 27)) (.cells #[.int .i64 k, .int .i64 c, .bool false, .int .i64 0, .slice none 0 0] 27)
  have HB := Lib.hid hB
  clear hB
  refine (toValue_any _ _ _).mono ?_; rintro e w1 ⟨rfl, hb⟩
  have X0 := Lib.hid ((Blk.new' (g := w.heap.size + 1 + 1) (by simp)).below hb)
  have XA := Lib.hid ((((Blk.new' (g := w.heap.size) (by simp)).alloc _).alloc _).below hb)
  have XR := Lib.hid (((Blk.new' (g := w.heap.size + 1) (by simp)).alloc _).below hb)
  have HB1 := Lib.hid (B_more HB.out hb)
  clear hb HB
  have a4 := XA.out.cell 4 _ rfl
  have x2 := X0.out.cell 2 _ rfl
  have x3 := X0.out.cell 3 _ rfl
  have f2 := X0.out.free 2
  have f3 := X0.out.free 3
  go_wp2_with fail
  have HK := Lib.hid (B_set (B_set HB1.out (p := ⟨w.heap.size + 1 + 1, 2, none⟩) (by simp; omega) (.bool b)) (p := ⟨w.heap.size + 1 + 1, 3, none⟩) (by simp; omega) (.int .i64 n))
  have X1 := Lib.hid ((X0.out.put' 2 (.bool b) (cs' := #[.int .i64 k, .int .i64 c, .bool b, .int .i64 0, .slice none 0 0]) rfl).put' 3 (.int .i64 n) (cs' := #[.int .i64 k, .int .i64 c, .bool b, .int .i64 n, .slice none 0 0]) rfl)
  have XR1 := Lib.hid ((XR.out.other ⟨w.heap.size + 1 + 1, 2, none⟩ (by simp) (.bool b)).other ⟨w.heap.size + 1 + 1, 3, none⟩ (by simp) (.int .i64 n))
  have H2 := Lib.hid (On.kids (H1.out.on HK.out))
  clear x2 x3 f2 f3 HB1 X0 a4 XA XR
  refine (toExprS_any m kid HI.out _ A cp H2.out HM.out.2 HM.out.1).mono ?_; rintro e w3 ⟨A', rfl, hT, hb⟩
  have HK3 := Lib.hid (B_more HK.out hb)
  have X3 := Lib.hid (X1.out.below hb)
  have XR3 := Lib.hid (XR1.out.below hb)
  have HT := Lib.hid (show (ET.mk k c b n m kid).At w3 (w.heap.size + 1 + 1 < ·) A' from (at_kids.2 hT).wide (fun x hx => Nat.lt_of_lt_of_le X1.out.lt hx))
  clear X1 XR1 hb HK hT H2
  have x0 := X3.out.cell 0 _ rfl
  have x1 := X3.out.cell 1 _ rfl
  have x2 := X3.out.cell 2 _ rfl
  have x3 := X3.out.cell 3 _ rfl
  have x4 := X3.out.cell 4 _ rfl
  have f4 := X3.out.free 4
  have r0 := XR3.out.cell 0 _ rfl
  have r1 := XR3.out.cell 1 _ rfl
  have r2 := XR3.out.cell 2 _ rfl
  have r3 := XR3.out.cell 3 _ rfl
  have r4 := XR3.out.cell 4 _ rfl
  have q0 := XR3.out.free 0
  have q1 := XR3.out.free 1
  have q2 := XR3.out.free 2
  have q3 := XR3.out.free 3
  have q4 := XR3.out.free 4
  dsimp only [List.getElem_toArray, List.getElem_cons_zero, List.getElem_cons_succ] at x0 x1 x2 x3 x4 r0 r1 r2 r3 r4
  go_wp2_with fail
  refine bodyPost_ret (v := .agg #[.int .i64 k, .int .i64 c, .bool b, .int .i64 n, .slice A' m m]) (by simp [results, Try.results23, go_sem, r0, r1, r2, r3, r4]) rfl ⟨A', rfl, ?_, ?_⟩
  · refine At.wide (s := (w.heap.size + 1 + 1 < ·)) ?_ (fun b hb => by omega)
    iterate 6 refine At.put ?_ (by simp) _
    exact HT.out
  · iterate 6 refine B_set ?_ (by simp; try omega) _
    exact HK3.out
theorem toExpr_any (t : ET) : t.ToOK := ET.all toExpr_step (fun h w A cp _ _ => (h w A cp (on_no w A) (most_no _)).mono (fun _ _ hh => by obtain ⟨A, he, _, hb⟩ := hh; exact ⟨A, he, trivial, hb⟩)) t
end ET
end Go.Proofs.Ytfbkbppaignofaa

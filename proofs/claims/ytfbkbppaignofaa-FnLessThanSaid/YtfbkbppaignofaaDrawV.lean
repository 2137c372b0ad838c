/-
  The walk of the function that draws an expression and a row.
-/
import Derived.Test.YtfbkbppaignofaaDrawX
import Derived.Test.YtfbkbppaignofaaRowS
import Derived.Test.YtfbkbppaignofaaTreeT
import Derived.Deep.RegionHeld3
namespace Go.Proofs.Ytfbkbppaignofaa
open Go.RowKit

namespace ET
def EvPost (w : World) (e : Ending) (w' : World) : Prop :=
  ∃ (t : ET) (A : Option Addr) (cp : Nat) (R : Option Addr) (rn rc : Nat) (f : Nat → M.V), e = .returned (.tuple #[t.val A cp, .slice R rn rc]) ∧ On w' t A ∧ t.Most 2 ∧ rn ≤ 7 ∧ RowAt w' w'.heap.size R rn f ∧ Below w.heap.size w w'

set_option maxHeartbeats 4000000 in
set_option maxRecDepth 100000 in
theorem DrawEvalExpr_any (w : World) (a : Option Addr) (len cap : Nat) (zs : List Int) (h : IsRow .u8 w a len cap zs) :
    Calls Try.prog 13 #[.slice a len cap] w (EvPost w) := by
  have HB0 := Lib.hid (B_alloc (Below.refl w.heap.size w) (.cells #[.int .i64 0, .int .i64 0, .bool false, .int .i64 0, .slice none 0 0] 27))
  have XR := Lib.hid (Blk.new' (w := w) (cs := #[.int .i64 0, .int .i64 0, .bool false, .int .i64 0, .slice none 0 0]) (T := 27) (g := w.heap.size) rfl)
  have hh := Lib.hid (h.below HB0.out)
  have hlt := Lib.hid (fun x hx h0 => Nat.lt_of_lt_of_le (h.lt x hx h0) HB0.out.size)
  clear h
  go_enter Try.func13, Try.ntmps13
  go_wp2_with fail
  refine (newReader_any _ a len cap zs _ (Nat.le_refl _) hh.out hlt.out).mono ?_
  rintro e w1 ⟨rb, rfl, hr1, hrb, hb1⟩
  have hrb2 : w.heap.size < rb := by rw [hrb]; simp
  have HR1 := Lib.hid hr1
  have XR1 := Lib.hid (XR.out.below hb1)
  have HB1 := Lib.hid (B_more HB0.out hb1)
  clear hr1 hb1 hrb hh hlt XR HB0
  go_wp2_with fail
  refine (pick_any w1 _ rb 0 3 (by omega) (by omega) (by omega) HR1.out).mono ?_
  rintro e w2 ⟨x, rfl, hx0, hx1, _, hr2, hg2⟩
  have hx1 := hx1 (by omega)
  obtain ⟨m, rfl⟩ := Int.eq_ofNat_of_zero_le hx0
  have HR2 := Lib.hid hr2
  have XR2 := Lib.hid (XR1.out.grown hg2 (by omega))
  have HB2 := Lib.hid (below_of_grown HB1.out (Nat.le_of_lt hrb2) hg2)
  clear hr2 hg2 HR1 XR1 HB1
  go_wp2_with fail
  refine (anyExpr_any w2 _ rb _ _ (by omega) (by omega) (by omega) HR2.out).mono ?_
  rintro e w3 ⟨t, A, cp, rfl, hT, hm, hr3, hg3⟩
  have HR3 := Lib.hid hr3
  have XR3 := Lib.hid (XR2.out.grown hg3 (by omega))
  have HB3 := Lib.hid (below_of_grown HB2.out (Nat.le_of_lt hrb2) hg3)
  have HT3 := Lib.hid (hT.wide (s' := (rb < ·)) (fun b hb => Nat.lt_of_lt_of_le HR2.out.lt hb))
  have HM := Lib.hid hm
  clear hr3 hg3 hT hm HR2 XR2 HB2
  obtain ⟨ge, hge⟩ : ∃ g, g = w3.heap.size := ⟨_, rfl⟩
  have hgr : rb < ge := by have := HR3.out.lt; omega
  have HRd := Lib.hid ((HR3.out.alloc (.cells #[.int .i64 t.k, .int .i64 t.c, .bool t.b, .int .i64 t.n, .slice A t.m cp] 27)).drew)
  have XRd := Lib.hid ((XR3.out.alloc (.cells #[.int .i64 t.k, .int .i64 t.c, .bool t.b, .int .i64 t.n, .slice A t.m cp] 27)).drew)
  have XEd := Lib.hid ((Blk.new' (w := w3) (cs := #[.int .i64 t.k, .int .i64 t.c, .bool t.b, .int .i64 t.n, .slice A t.m cp]) (T := 27) hge).drew)
  have HBd := Lib.hid ((B_alloc HB3.out (.cells #[.int .i64 t.k, .int .i64 t.c, .bool t.b, .int .i64 t.n, .slice A t.m cp] 27)).drew)
  have HTd := Lib.hid (HT3.out.more ((Below.refl w3.heap.size w3).alloc (Nat.le_refl _) (.cells #[.int .i64 t.k, .int .i64 t.c, .bool t.b, .int .i64 t.n, .slice A t.m cp] 27)).drew (fun _ h => h))
  unfold ET.val
  go_wp2_with fail
  rw [← hge]
  clear hge HR3 XR3 HB3 HT3
  refine wp_region_held_drew (S := (fun w' => Blk w' ge #[.int .i64 t.k, .int .i64 t.c, .bool t.b, .int .i64 t.n, .slice A t.m cp] 27)) (by kernel_rfl) XEd.out (fun hHeld => ?_)
  refine held_take 0 15 _ ?_ rfl rfl (by kernel_rfl) (by kernel_rfl) (by kernel_rfl) (fun _ _ _ h => h) (by kernel_rfl) (fun w' hSw => ?_) (by assumption) ?_
  rotate_left
  · have y0 := Blk.cell hSw 0 _ rfl
    have y1 := Blk.cell hSw 1 _ rfl
    have y2 := Blk.cell hSw 2 _ rfl
    have y3 := Blk.cell hSw 3 _ rfl
    have y4 := Blk.cell hSw 4 _ rfl
    dsimp only [List.getElem_toArray, List.getElem_cons_zero, List.getElem_cons_succ] at y0 y1 y2 y3 y4
    go_simp
    (try with_reducible rfl)
  simp only [Act.put, List.setIfInBounds_toArray, List.set_cons_zero, List.set_cons_succ]
  refine held_take 1 16 _ ?_ rfl rfl (by kernel_rfl) (by kernel_rfl) (by kernel_rfl) (fun _ _ _ h => h) (by kernel_rfl) (fun w' hSw => ?_) (by assumption) ?_
  rotate_left
  · ((try dsimp only at hSw); go_simp; (try with_reducible rfl))
  simp only [Act.put, List.setIfInBounds_toArray, List.set_cons_zero, List.set_cons_succ]
  refine held_take 2 17 _ ?_ rfl rfl (by kernel_rfl) (by kernel_rfl) (by kernel_rfl) (fun _ _ _ h => h) (by kernel_rfl) (fun w' hSw => ?_) (by assumption) ?_
  rotate_left
  · ((try dsimp only at hSw); go_simp; (try with_reducible rfl))
  simp only [Act.put, List.setIfInBounds_toArray, List.set_cons_zero, List.set_cons_succ]
  refine wpAnyH_ready (rs := [3]) (by kernel_rfl) (by simp) ?_
  refine AllReadyH.cons rfl (fun K hK => ?_) AllReadyH.nil
  go_simp
  refine (anyRow_int _ _ rb _ (m + 1) _ (by omega) (by omega) (by omega) (by omega) HRd.out).mono ?_; rintro e w4 ⟨R, rn, rc, f, rfl, _, hrn, hI, hr4, hg4⟩
  go_wp2_with fail
  refine hK.out _ _ (XEd.out.grown hg4 (by omega)) (fun hHeld2 => ?_)
  clear hK K
  (try clear hHeld)
  (try simp only [Act.put, List.setIfInBounds_toArray, List.set_cons_zero, List.set_cons_succ])
  have XE4 := Lib.hid (XEd.out.grown hg4 (by omega))
  have XR4 := Lib.hid (XRd.out.grown hg4 (by omega))
  have HB4 := Lib.hid (below_of_grown HBd.out (Nat.le_of_lt hrb2) hg4)
  have HT4 := Lib.hid (HTd.out.grown (fun b hb => by omega) hg4)
  have HI4 := Lib.hid hI
  clear hI hr4 hg4 HRd XRd XEd HBd HTd hHeld2
  have r0 := XR4.out.cell 0 _ rfl
  have r1 := XR4.out.cell 1 _ rfl
  have r2 := XR4.out.cell 2 _ rfl
  have r3 := XR4.out.cell 3 _ rfl
  have r4 := XR4.out.cell 4 _ rfl
  have q0 := XR4.out.free 0
  have q1 := XR4.out.free 1
  have q2 := XR4.out.free 2
  have q3 := XR4.out.free 3
  have q4 := XR4.out.free 4
  dsimp only [List.getElem_toArray, List.getElem_cons_zero, List.getElem_cons_succ] at r0 r1 r2 r3 r4
  refine wpAnyH_ready (rs := [4]) (by kernel_rfl) (by simp) ?_
  refine AllReadyH.cons rfl (fun K hK => ?_) AllReadyH.nil
  go_wp2_with fail
  refine hK.out _ _ (((((XE4.out.other _ (by show w.heap.size ≠ ge; omega) _).other _ (by show w.heap.size ≠ ge; omega) _).other _ (by show w.heap.size ≠ ge; omega) _).other _ (by show w.heap.size ≠ ge; omega) _).other _ (by show w.heap.size ≠ ge; omega) _) (fun hHeld3 => ?_)
  clear hK K
  (try simp only [Act.put, List.setIfInBounds_toArray, List.set_cons_zero, List.set_cons_succ])
  refine held_take 5 3 _ ?_ rfl rfl (by kernel_rfl) (by kernel_rfl) (by kernel_rfl) (fun _ _ _ h => h) (by kernel_rfl) (fun w' hSw => ?_) (by assumption) ?_
  rotate_left
  · ((try dsimp only at hSw); go_simp; (try with_reducible rfl))
  simp only [Act.put, List.setIfInBounds_toArray, List.set_cons_zero, List.set_cons_succ]
  refine wpAnyH_done (by kernel_rfl) ?_ _
  go_wp2_with fail
  refine bodyPost_ret (v := .tuple #[.agg #[.int .i64 t.k, .int .i64 t.c, .bool t.b, .int .i64 t.n, .slice A t.m cp], .slice R rn rc]) (by simp [results, Try.results13, go_sem, r0, r1, r2, r3, r4]) rfl ⟨t, A, cp, R, rn, rc, f, rfl, ?_, HM.out, hrn, ?_, ?_⟩
  · refine At.isOn (s := (rb < ·)) ?_
    iterate 5 refine At.put ?_ (by simp; omega) _
    exact HT4.out
  · refine RowS.at_ (s := (rb < ·)) ?_
    iterate 5 refine RowS.put ?_ (by simp; omega) _
    intro hn
    obtain ⟨b, o, hA, hb, hlt, hc⟩ := HI4.out hn
    exact ⟨b, o, hA, hb, hlt, hc⟩
  · iterate 5 refine B_set ?_ (by simp) _
    exact HB4.out
end ET
end Go.Proofs.Ytfbkbppaignofaa

/-
  The walk of the law that null tests are never null.
-/
import Derived.Test.YtfbkbppaignofaaDrawV
import Derived.Test.YtfbkbppaignofaaEvalX
namespace Go.Proofs.Ytfbkbppaignofaa
open Go.RowKit

namespace ET
theorem on_one {w : World} {g : Nat} {t : ET} {A : Option Addr} {cp : Nat} {k c : Int} {b : Bool} {n : Int} (X : Blk w g #[.int .i64 t.k, .int .i64 t.c, .bool t.b, .int .i64 t.n, .slice A t.m cp] 27) (hT : On w t A) : On w (ET.mk k c b n 1 (fun _ => t)) (some ⟨g, 0, none⟩) :=
  at_kids.2 (fun _ => ⟨g, 0, rfl, X.lt, fun i hi => by
    obtain rfl : i = 0 := by have : i < 1 := hi; omega
    exact ⟨A, cp, X.cell 0 _ rfl, X.cell 1 _ rfl, X.cell 2 _ rfl, X.cell 3 _ rfl, X.cell 4 _ rfl, hT⟩⟩)
end ET

set_option maxHeartbeats 4000000 in
set_option maxRecDepth 100000 in
theorem walk_FnNullTest (a : Option Addr) (len cap : Nat) (zs : List Int) (w : World) (h : IsRow .u8 w a len cap zs) :
    Calls Try.prog 7 #[.slice a len cap] w fun e w' => e = .returned (.bool true) ∧ Below w.heap.size w w' := by
  have hh := Lib.hid h
  clear h
  by_cases hlen : (1048576 : Int) < (len : Int)
  · go_enter Try.func7, Try.ntmps7
    go_wp2_with fail
    go_ret
    exact ⟨rfl, Below.refl _ _⟩
  · go_enter Try.func7, Try.ntmps7
    go_wp2_with fail
    refine (ET.DrawEvalExpr_any _ a len cap zs hh.out).mono ?_
    rintro e w1 ⟨t, A, cp, R, rn, rc, f, rfl, hT, hM, hrn, hR, hb⟩
    have HT1 := Lib.hid hT
    have HM := Lib.hid hM
    have HR1 := Lib.hid hR
    have HB1 := Lib.hid hb
    clear hT hM hR hb hh
    have hbA := B_alloc (Below.refl w1.heap.size w1) (.cells #[.int .i64 t.k, .int .i64 t.c, .bool t.b, .int .i64 t.n, .slice A t.m cp] 27)
    have HB_2 := Lib.hid (B_alloc HB1.out (.cells #[.int .i64 t.k, .int .i64 t.c, .bool t.b, .int .i64 t.n, .slice A t.m cp] 27))
    have HT_2 := Lib.hid (HT1.out.on hbA)
    have HR_2 := Lib.hid (HR1.out.on hbA)
    have XE_2 := Lib.hid (Blk.new' (w := w1) (cs := #[.int .i64 t.k, .int .i64 t.c, .bool t.b, .int .i64 t.n, .slice A t.m cp]) (T := 27) (g := w1.heap.size) rfl)
    clear hbA HT1 HR1 HB1
    unfold ET.val
    go_wp2_with fail
    refine (ET.EvalExpr_any t _ A cp R rn rc f HT_2.out (HM.out.up (by omega)) HR_2.out (by omega)).mono ?_; rintro e w3 ⟨rfl, hb⟩
    have HB_3 := Lib.hid (B_more HB_2.out hb)
    have HT_3 := Lib.hid (HT_2.out.on hb)
    have HR_3 := Lib.hid (HR_2.out.on hb)
    have XE_3 := Lib.hid (XE_2.out.below hb)
    clear hb HT_2 HR_2 HB_2 XE_2
    obtain ⟨ev, hev⟩ : ∃ x, x = t.evV rn f := ⟨_, rfl⟩
    obtain ⟨eb, heb⟩ : ∃ x, x = t.evB rn f := ⟨_, rfl⟩
    have HEV := Lib.hid hev
    have HEB := Lib.hid heb
    rw [← hev, ← heb]
    clear hev heb
    unfold vv
    have hbA := B_alloc (Below.refl w3.heap.size w3) (.cells #[.bool ev.nul, .int .i64 ev.n] 24)
    have HB_4 := Lib.hid (B_alloc HB_3.out (.cells #[.bool ev.nul, .int .i64 ev.n] 24))
    have HT_4 := Lib.hid (HT_3.out.on hbA)
    have HR_4 := Lib.hid (HR_3.out.on hbA)
    have XE_4 := Lib.hid (XE_3.out.below hbA)
    have XV_4 := Lib.hid (Blk.new' (w := w3) (cs := #[.bool ev.nul, .int .i64 ev.n]) (T := 24) (g := w3.heap.size) rfl)
    clear hbA HT_3 HR_3 HB_3 XE_3
    have a0 := XE_4.out.cell 0 _ rfl
    have a1 := XE_4.out.cell 1 _ rfl
    have a2 := XE_4.out.cell 2 _ rfl
    have a3 := XE_4.out.cell 3 _ rfl
    have a4 := XE_4.out.cell 4 _ rfl
    dsimp only [List.getElem_toArray, List.getElem_cons_zero, List.getElem_cons_succ] at a0 a1 a2 a3 a4
    go_wp2_with fail
    refine (ET.sEvalExpr_any t _ A cp R rn rc f HT_4.out (HM.out.up (by omega)) HR_4.out (by omega)).mono ?_; rintro e w5 ⟨rfl, hb⟩
    have HB_5 := Lib.hid (B_more HB_4.out hb)
    have HT_5 := Lib.hid (HT_4.out.on hb)
    have HR_5 := Lib.hid (HR_4.out.on hb)
    have XE_5 := Lib.hid (XE_4.out.below hb)
    have XV_5 := Lib.hid (XV_4.out.below hb)
    clear hb HT_4 HR_4 HB_4 XE_4 XV_4
    clear a0 a1 a2 a3 a4
    rw [← HEV.out, ← HEB.out]
    unfold vv
    have hbA := B_alloc (Below.refl w5.heap.size w5) (.cells #[.bool ev.nul, .int .i64 ev.n] 24)
    have HB_6 := Lib.hid (B_alloc HB_5.out (.cells #[.bool ev.nul, .int .i64 ev.n] 24))
    have HT_6 := Lib.hid (HT_5.out.on hbA)
    have HR_6 := Lib.hid (HR_5.out.on hbA)
    have XE_6 := Lib.hid (XE_5.out.below hbA)
    have XV_6 := Lib.hid (XV_5.out.below hbA)
    have XW_6 := Lib.hid (Blk.new' (w := w5) (cs := #[.bool ev.nul, .int .i64 ev.n]) (T := 24) (g := w5.heap.size) rfl)
    clear hbA HT_5 HR_5 HB_5 XE_5 XV_5
    have a0 := XE_6.out.cell 0 _ rfl
    have a1 := XE_6.out.cell 1 _ rfl
    have a2 := XE_6.out.cell 2 _ rfl
    have a3 := XE_6.out.cell 3 _ rfl
    have a4 := XE_6.out.cell 4 _ rfl
    dsimp only [List.getElem_toArray, List.getElem_cons_zero, List.getElem_cons_succ] at a0 a1 a2 a3 a4
    have b0 := XV_6.out.cell 0 _ rfl
    have b1 := XV_6.out.cell 1 _ rfl
    dsimp only [List.getElem_toArray, List.getElem_cons_zero, List.getElem_cons_succ] at b0 b1
    have c0 := XW_6.out.cell 0 _ rfl
    have c1 := XW_6.out.cell 1 _ rfl
    dsimp only [List.getElem_toArray, List.getElem_cons_zero, List.getElem_cons_succ] at c0 c1
    cases eb
    · go_wp2_with fail
      go_ret
      exact ⟨rfl, HB_6.out⟩
    · have hbA := B_alloc (Below.refl (w5.alloc (.cells #[.bool ev.nul, .int .i64 ev.n] 24)).heap.size (w5.alloc (.cells #[.bool ev.nul, .int .i64 ev.n] 24))) (.cells #[.int .i64 t.k, .int .i64 t.c, .bool t.b, .int .i64 t.n, .slice A t.m cp] 27)
      have HB_7 := Lib.hid (B_alloc HB_6.out (.cells #[.int .i64 t.k, .int .i64 t.c, .bool t.b, .int .i64 t.n, .slice A t.m cp] 27))
      have HT_7 := Lib.hid (HT_6.out.on hbA)
      have HR_7 := Lib.hid (HR_6.out.on hbA)
      have XE_7 := Lib.hid (XE_6.out.below hbA)
      have XV_7 := Lib.hid (XV_6.out.below hbA)
      have XW_7 := Lib.hid (XW_6.out.below hbA)
      have XK_7 := Lib.hid (Blk.new' (w := w5.alloc (.cells #[.bool ev.nul, .int .i64 ev.n] 24)) (cs := #[.int .i64 t.k, .int .i64 t.c, .bool t.b, .int .i64 t.n, .slice A t.m cp]) (T := 27) (g := w5.heap.size + 1) (by simp))
      clear hbA HT_6 HR_6 HB_6 XE_6 XV_6 XW_6
      have HT2 := Lib.hid (ET.on_one (k := 11) (c := 0) (b := false) (n := 0) XK_7.out HT_7.out)
      have HM2 := Lib.hid (show (ET.mk 11 0 false 0 1 (fun _ => t)).Most 2000000 from ET.most_kids.2 ⟨by show 1 ≤ 2000000; omega, fun _ _ => HM.out.up (by omega)⟩)
      have cc := Lib.hid (ET.EvalExpr_any _ _ _ 1 R rn rc f HT2.out HM2.out HR_7.out (by omega))
      unfold ET.val vv at cc
      clear HT2 HM2
      go_wp2_with fail
      refine cc.out.mono ?_; rintro e w8 ⟨rfl, hb⟩
      have HB_8 := Lib.hid (B_more HB_7.out hb)
      have HT_8 := Lib.hid (HT_7.out.on hb)
      have HR_8 := Lib.hid (HR_7.out.on hb)
      have XE_8 := Lib.hid (XE_7.out.below hb)
      have XV_8 := Lib.hid (XV_7.out.below hb)
      have XW_8 := Lib.hid (XW_7.out.below hb)
      have XK_8 := Lib.hid (XK_7.out.below hb)
      clear hb HT_7 HR_7 HB_7 XE_7 XV_7 XW_7 XK_7
      clear cc a0 a1 a2 a3 a4 b0 b1 c0 c1
      by_cases h2 : (ET.mk 11 0 false 0 1 (fun _ => t)).evB rn f = true
      · have e2 : (ET.mk 11 0 false 0 1 (fun _ => t)).evV rn f = ⟨false, M.oneIf ev.nul⟩ := (ET.evV_yes h2).trans (ET.ev_null.trans (by rw [HEV.out, ET.evV_yes HEB.out.symm]))
        rw [e2, h2]
        clear e2 h2 HEV
        have hbA := B_alloc (Below.refl w8.heap.size w8) (.cells #[.bool false, .int .i64 (M.oneIf ev.nul)] 24)
        have HB_9 := Lib.hid (B_alloc HB_8.out (.cells #[.bool false, .int .i64 (M.oneIf ev.nul)] 24))
        have HT_9 := Lib.hid (HT_8.out.on hbA)
        have HR_9 := Lib.hid (HR_8.out.on hbA)
        have XE_9 := Lib.hid (XE_8.out.below hbA)
        have XV_9 := Lib.hid (XV_8.out.below hbA)
        have XW_9 := Lib.hid (XW_8.out.below hbA)
        have XK_9 := Lib.hid (XK_8.out.below hbA)
        have XT_9 := Lib.hid (Blk.new' (w := w8) (cs := #[.bool false, .int .i64 (M.oneIf ev.nul)]) (T := 24) (g := w8.heap.size) rfl)
        clear hbA HT_8 HR_8 HB_8 XE_8 XV_8 XW_8 XK_8
        have d0 := XT_9.out.cell 0 _ rfl
        have d1 := XT_9.out.cell 1 _ rfl
        dsimp only [List.getElem_toArray, List.getElem_cons_zero, List.getElem_cons_succ] at d0 d1
        have b0 := XV_9.out.cell 0 _ rfl
        have b1 := XV_9.out.cell 1 _ rfl
        dsimp only [List.getElem_toArray, List.getElem_cons_zero, List.getElem_cons_succ] at b0 b1
        obtain ⟨eb, en⟩ := ev
        cases eb
        · have e3 : M.oneIf false = 0 := rfl
          dsimp only [] at d0 d1 b0 b1 ⊢
          have HBZ := Lib.hid HB_9.out
          dsimp only [] at HBZ
          rw [e3] at d0 d1 b0 b1 HBZ
          rw [e3]
          clear e3 HT_9 HR_9 HB_9 XE_9 XV_9 XW_9 XK_9 XT_9
          go_wp2_with fail
          go_ret
          exact ⟨rfl, HBZ.out⟩
        · have e3 : M.oneIf true = 1 := rfl
          dsimp only [] at d0 d1 b0 b1 ⊢
          have HBZ := Lib.hid HB_9.out
          dsimp only [] at HBZ
          rw [e3] at d0 d1 b0 b1 HBZ
          rw [e3]
          clear e3 HT_9 HR_9 HB_9 XE_9 XV_9 XW_9 XK_9 XT_9
          go_wp2_with fail
          go_ret
          exact ⟨rfl, HBZ.out⟩
      · have h2' := Bool.eq_false_iff.2 h2
        rw [ET.evV_no h2', h2']
        clear h2 h2'
        have hbA := B_alloc (Below.refl w8.heap.size w8) (.cells #[.bool false, .int .i64 0] 24)
        have HB_9 := Lib.hid (B_alloc HB_8.out (.cells #[.bool false, .int .i64 0] 24))
        have HT_9 := Lib.hid (HT_8.out.on hbA)
        have HR_9 := Lib.hid (HR_8.out.on hbA)
        have XE_9 := Lib.hid (XE_8.out.below hbA)
        have XV_9 := Lib.hid (XV_8.out.below hbA)
        have XW_9 := Lib.hid (XW_8.out.below hbA)
        have XK_9 := Lib.hid (XK_8.out.below hbA)
        have XT_9 := Lib.hid (Blk.new' (w := w8) (cs := #[.bool false, .int .i64 0]) (T := 24) (g := w8.heap.size) rfl)
        clear hbA HT_8 HR_8 HB_8 XE_8 XV_8 XW_8 XK_8
        have d0 := XT_9.out.cell 0 _ rfl
        have d1 := XT_9.out.cell 1 _ rfl
        dsimp only [List.getElem_toArray, List.getElem_cons_zero, List.getElem_cons_succ] at d0 d1
        have b0 := XV_9.out.cell 0 _ rfl
        have b1 := XV_9.out.cell 1 _ rfl
        dsimp only [List.getElem_toArray, List.getElem_cons_zero, List.getElem_cons_succ] at b0 b1
        go_wp2_with fail
        go_ret
        exact ⟨rfl, HB_9.out⟩
end Go.Proofs.Ytfbkbppaignofaa

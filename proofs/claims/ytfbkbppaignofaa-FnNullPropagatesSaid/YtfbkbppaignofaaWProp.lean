/-
  The walk of the law that arithmetic and comparisons with null are null.
-/
import Derived.Test.YtfbkbppaignofaaDrawV
import Derived.Test.YtfbkbppaignofaaMono
namespace Go.Proofs.Ytfbkbppaignofaa
open Go.RowKit

set_option maxHeartbeats 4000000 in
set_option maxRecDepth 100000 in
theorem walk_FnNullPropagates (a : Option Addr) (len cap : Nat) (zs : List Int) (w : World) (h : IsRow .u8 w a len cap zs) :
    Calls Try.prog 5 #[.slice a len cap] w fun e w' => e = .returned (.bool true) ∧ Below w.heap.size w w' := by
  have hh := Lib.hid h
  clear h
  by_cases hlen : (1048576 : Int) < (len : Int)
  · go_enter Try.func5, Try.ntmps5
    go_wp2_with fail
    go_ret
    exact ⟨rfl, Below.refl _ _⟩
  · go_enter Try.func5, Try.ntmps5
    go_wp2_with fail
    refine (ET.DrawEvalExpr_any _ a len cap zs hh.out).mono ?_
    rintro e w1 ⟨t, A, cp, R, rn, rc, f, rfl, hT, hM, hrn, hR, hb⟩
    have HT1 := Lib.hid hT
    have HM := Lib.hid hM
    have HR1 := Lib.hid hR
    have HB1 := Lib.hid hb
    clear hT hM hR hb hh
    have hbA := B_alloc (Below.refl w1.heap.size w1) (.cells #[.int .i64 t.k, .int .i64 t.c, .bool t.b, .int .i64 t.n, .slice A t.m cp] 27)
    have HB_2 := Lib.hid (B_alloc HB1.out (.cells #[.int .i64 t.k, .int .i64 t.c, .bool t.b, .int .i64 t.n, .slice A t.m cp] 27))
    have HT_2 := Lib.hid (HT1.out.on hbA)
    have HR_2 := Lib.hid (HR1.out.on hbA)
    have XE_2 := Lib.hid (Blk.new' (w := w1) (cs := #[.int .i64 t.k, .int .i64 t.c, .bool t.b, .int .i64 t.n, .slice A t.m cp]) (T := 27) (g := w1.heap.size) rfl)
    clear hbA HT1 HR1 HB1
    unfold ET.val
    go_wp2_with fail
    refine (ET.EvalExpr_any t _ A cp R rn rc f HT_2.out (HM.out.up (by omega)) HR_2.out (by omega)).mono ?_; rintro e w3 ⟨rfl, hb⟩
    have HB_3 := Lib.hid (B_more HB_2.out hb)
    have HT_3 := Lib.hid (HT_2.out.on hb)
    have HR_3 := Lib.hid (HR_2.out.on hb)
    have XE_3 := Lib.hid (XE_2.out.below hb)
    clear hb HT_2 HR_2 HB_2 XE_2
    obtain ⟨ev, hev⟩ : ∃ x, x = t.evV rn f := ⟨_, rfl⟩
    obtain ⟨eb, heb⟩ : ∃ x, x = t.evB rn f := ⟨_, rfl⟩
    have HEV := Lib.hid hev
    have HEB := Lib.hid heb
    rw [← hev, ← heb]
    clear hev heb
    unfold vv
    have hbA := B_alloc (Below.refl w3.heap.size w3) (.cells #[.bool ev.nul, .int .i64 ev.n] 24)
    have HB_4 := Lib.hid (B_alloc HB_3.out (.cells #[.bool ev.nul, .int .i64 ev.n] 24))
    have HT_4 := Lib.hid (HT_3.out.on hbA)
    have HR_4 := Lib.hid (HR_3.out.on hbA)
    have XE_4 := Lib.hid (XE_3.out.below hbA)
    have XV_4 := Lib.hid (Blk.new' (w := w3) (cs := #[.bool ev.nul, .int .i64 ev.n]) (T := 24) (g := w3.heap.size) rfl)
    clear hbA HT_3 HR_3 HB_3 XE_3
    have a0 := XE_4.out.cell 0 _ rfl
    have a1 := XE_4.out.cell 1 _ rfl
    have a2 := XE_4.out.cell 2 _ rfl
    have a3 := XE_4.out.cell 3 _ rfl
    have a4 := XE_4.out.cell 4 _ rfl
    dsimp only [List.getElem_toArray, List.getElem_cons_zero, List.getElem_cons_succ] at a0 a1 a2 a3 a4
    go_wp2_with fail
    refine (ET.sEvalExpr_any t _ A cp R rn rc f HT_4.out (HM.out.up (by omega)) HR_4.out (by omega)).mono ?_; rintro e w5 ⟨rfl, hb⟩
    have HB_5 := Lib.hid (B_more HB_4.out hb)
    have HT_5 := Lib.hid (HT_4.out.on hb)
    have HR_5 := Lib.hid (HR_4.out.on hb)
    have XE_5 := Lib.hid (XE_4.out.below hb)
    have XV_5 := Lib.hid (XV_4.out.below hb)
    clear hb HT_4 HR_4 HB_4 XE_4 XV_4
    clear a0 a1 a2 a3 a4
    rw [← HEV.out, ← HEB.out]
    unfold vv
    have hbA := B_alloc (Below.refl w5.heap.size w5) (.cells #[.bool ev.nul, .int .i64 ev.n] 24)
    have HB_6 := Lib.hid (B_alloc HB_5.out (.cells #[.bool ev.nul, .int .i64 ev.n] 24))
    have HT_6 := Lib.hid (HT_5.out.on hbA)
    have HR_6 := Lib.hid (HR_5.out.on hbA)
    have XE_6 := Lib.hid (XE_5.out.below hbA)
    have XV_6 := Lib.hid (XV_5.out.below hbA)
    have XW_6 := Lib.hid (Blk.new' (w := w5) (cs := #[.bool ev.nul, .int .i64 ev.n]) (T := 24) (g := w5.heap.size) rfl)
    clear hbA HT_5 HR_5 HB_5 XE_5 XV_5
    have a0 := XE_6.out.cell 0 _ rfl
    have a1 := XE_6.out.cell 1 _ rfl
    have a2 := XE_6.out.cell 2 _ rfl
    have a3 := XE_6.out.cell 3 _ rfl
    have a4 := XE_6.out.cell 4 _ rfl
    dsimp only [List.getElem_toArray, List.getElem_cons_zero, List.getElem_cons_succ] at a0 a1 a2 a3 a4
    have b0 := XV_6.out.cell 0 _ rfl
    have b1 := XV_6.out.cell 1 _ rfl
    dsimp only [List.getElem_toArray, List.getElem_cons_zero, List.getElem_cons_succ] at b0 b1
    have c0 := XW_6.out.cell 0 _ rfl
    have c1 := XW_6.out.cell 1 _ rfl
    dsimp only [List.getElem_toArray, List.getElem_cons_zero, List.getElem_cons_succ] at c0 c1
    cases eb
    · go_wp2_with fail
      go_ret
      exact ⟨rfl, HB_6.out⟩
    · have HE := Lib.hid HEB.out.symm
      by_cases hk : 3 ≤ t.k ∧ t.k ≤ 7
      · have hm2 := ET.m_of HE.out ⟨hk.1, by omega⟩
        have HX := Lib.hid ((HEV.out.trans (ET.evV_yes HE.out)).trans (ET.ev_two_kids ⟨hk.1, by omega⟩))
        have HKD := Lib.hid (ET.On.kids HT_6.out)
        obtain ⟨bb, o, rfl, hbb, hcs⟩ := HKD.out (by omega)
        obtain ⟨A0, c0_, g00, g01, g02, g03, g04, g05⟩ := hcs 0 (by omega)
        obtain ⟨A1, c1_, g10, g11, g12, g13, g14, g15⟩ := hcs 1 (by omega)
        clear hcs HKD
        have HK0 := Lib.hid (show ET.On _ (t.kid 0) A0 from g05)
        have HK1 := Lib.hid (show ET.On _ (t.kid 1) A1 from g15)
        clear g05 g15
        simp only [Nat.zero_mul, Nat.one_mul, Nat.add_zero] at g00 g01 g02 g03 g04 g10 g11 g12 g13 g14
        have F1 := Lib.hid (show Five _ bb (o + 5) (t.kid 1) A1 c1_ from ⟨g10, g11, g12, g13, g14⟩)
        have HMK := Lib.hid (fun i (hi : i < t.m) => ((ET.most_kids.1 HM.out).2 i hi).up (L' := 2000000) (by omega))
        have hk1 := hk.1
        have hk2 := hk.2
        rw [hm2] at a4
        go_wp2_with fail
        refine (ET.EvalExpr_any (t.kid 0) _ A0 c0_ R rn rc f HK0.out (HMK.out 0 (by omega)) HR_6.out (by omega)).mono ?_; rintro e w7 ⟨rfl, hb⟩
        have HB_7 := Lib.hid (B_more HB_6.out hb)
        have HT_7 := Lib.hid (HT_6.out.on hb)
        have HR_7 := Lib.hid (HR_6.out.on hb)
        have XE_7 := Lib.hid (XE_6.out.below hb)
        have XV_7 := Lib.hid (XV_6.out.below hb)
        have XW_7 := Lib.hid (XW_6.out.below hb)
        have HK0_7 := Lib.hid (HK0.out.on hb)
        have HK1_7 := Lib.hid (HK1.out.on hb)
        have F1_7 := Lib.hid (F1.out.on hb)
        clear hb HT_6 HR_6 HB_6 XE_6 XV_6 XW_6 HK0 HK1 F1
        rw [ET.evV_yes (ET.evB_kid HE.out (i := 0) (by omega)), ET.evB_kid HE.out (i := 0) (by omega)]
        obtain ⟨x, hx⟩ : ∃ x, x = (t.kid 0).ev f := ⟨_, rfl⟩
        rw [← hx]
        have HX0 := Lib.hid hx
        clear hx
        unfold vv
        have hbA := B_alloc (Below.refl w7.heap.size w7) (.cells #[.bool x.nul, .int .i64 x.n] 24)
        have HB_8 := Lib.hid (B_alloc HB_7.out (.cells #[.bool x.nul, .int .i64 x.n] 24))
        have HT_8 := Lib.hid (HT_7.out.on hbA)
        have HR_8 := Lib.hid (HR_7.out.on hbA)
        have XE_8 := Lib.hid (XE_7.out.below hbA)
        have XV_8 := Lib.hid (XV_7.out.below hbA)
        have XW_8 := Lib.hid (XW_7.out.below hbA)
        have HK0_8 := Lib.hid (HK0_7.out.on hbA)
        have HK1_8 := Lib.hid (HK1_7.out.on hbA)
        have F1_8 := Lib.hid (F1_7.out.on hbA)
        have XA_8 := Lib.hid (Blk.new' (w := w7) (cs := #[.bool x.nul, .int .i64 x.n]) (T := 24) (g := w7.heap.size) rfl)
        clear hbA HT_7 HR_7 HB_7 XE_7 XV_7 XW_7 HK0_7 HK1_7 F1_7
        have a0 := XE_8.out.cell 0 _ rfl
        have a1 := XE_8.out.cell 1 _ rfl
        have a2 := XE_8.out.cell 2 _ rfl
        have a3 := XE_8.out.cell 3 _ rfl
        have a4 := XE_8.out.cell 4 _ rfl
        dsimp only [List.getElem_toArray, List.getElem_cons_zero, List.getElem_cons_succ] at a0 a1 a2 a3 a4
        obtain ⟨h10, h11, h12, h13, h14⟩ := F1_8.out
        rw [hm2] at a4
        go_wp2_with fail
        refine (ET.EvalExpr_any (t.kid 1) _ A1 c1_ R rn rc f HK1_8.out (HMK.out 1 (by omega)) HR_8.out (by omega)).mono ?_; rintro e w9 ⟨rfl, hb⟩
        have HB_9 := Lib.hid (B_more HB_8.out hb)
        have HT_9 := Lib.hid (HT_8.out.on hb)
        have HR_9 := Lib.hid (HR_8.out.on hb)
        have XE_9 := Lib.hid (XE_8.out.below hb)
        have XV_9 := Lib.hid (XV_8.out.below hb)
        have XW_9 := Lib.hid (XW_8.out.below hb)
        have HK0_9 := Lib.hid (HK0_8.out.on hb)
        have HK1_9 := Lib.hid (HK1_8.out.on hb)
        have F1_9 := Lib.hid (F1_8.out.on hb)
        have XA_9 := Lib.hid (XA_8.out.below hb)
        clear hb HT_8 HR_8 HB_8 XE_8 XV_8 XW_8 HK0_8 HK1_8 F1_8 XA_8
        rw [ET.evV_yes (ET.evB_kid HE.out (i := 1) (by omega)), ET.evB_kid HE.out (i := 1) (by omega)]
        obtain ⟨y, hy⟩ : ∃ y, y = (t.kid 1).ev f := ⟨_, rfl⟩
        rw [← hy]
        have HX1 := Lib.hid hy
        clear hy
        unfold vv
        have hbA := B_alloc (Below.refl w9.heap.size w9) (.cells #[.bool y.nul, .int .i64 y.n] 24)
        have HB_10 := Lib.hid (B_alloc HB_9.out (.cells #[.bool y.nul, .int .i64 y.n] 24))
        have HT_10 := Lib.hid (HT_9.out.on hbA)
        have HR_10 := Lib.hid (HR_9.out.on hbA)
        have XE_10 := Lib.hid (XE_9.out.below hbA)
        have XV_10 := Lib.hid (XV_9.out.below hbA)
        have XW_10 := Lib.hid (XW_9.out.below hbA)
        have HK0_10 := Lib.hid (HK0_9.out.on hbA)
        have HK1_10 := Lib.hid (HK1_9.out.on hbA)
        have F1_10 := Lib.hid (F1_9.out.on hbA)
        have XA_10 := Lib.hid (XA_9.out.below hbA)
        have XB_10 := Lib.hid (Blk.new' (w := w9) (cs := #[.bool y.nul, .int .i64 y.n]) (T := 24) (g := w9.heap.size) rfl)
        clear hbA HT_9 HR_9 HB_9 XE_9 XV_9 XW_9 HK0_9 HK1_9 F1_9 XA_9
        clear a0 a1 a2 a3 a4 b0 b1 c0 c1 h10 h11 h12 h13 h14
        rw [← HX0.out, ← HX1.out] at HX
        have d0 := XA_10.out.cell 0 _ rfl
        have d1 := XA_10.out.cell 1 _ rfl
        dsimp only [List.getElem_toArray, List.getElem_cons_zero, List.getElem_cons_succ] at d0 d1
        have p0 := XB_10.out.cell 0 _ rfl
        have p1 := XB_10.out.cell 1 _ rfl
        dsimp only [List.getElem_toArray, List.getElem_cons_zero, List.getElem_cons_succ] at p0 p1
        have b0 := XV_10.out.cell 0 _ rfl
        have b1 := XV_10.out.cell 1 _ rfl
        dsimp only [List.getElem_toArray, List.getElem_cons_zero, List.getElem_cons_succ] at b0 b1
        have HBZ := Lib.hid HB_10.out
        obtain ⟨xb, xn⟩ := x
        obtain ⟨yb, yn⟩ := y
        by_cases hn : xb = true ∨ yb = true
        · have hv : ev = ⟨true, 0⟩ := HX.out.trans (comb_null ⟨hk1, hk2⟩ hn)
          clear HX HX0 HX1 HEV HEB
          subst hv
          dsimp only [] at d0 d1 p0 p1 b0 b1 HBZ ⊢
          cases xb <;> cases yb
          · exact absurd hn (by simp)
          · go_wp2_with fail
            go_ret
            exact ⟨ET.ret_of rfl rfl, HBZ.out⟩
          · go_wp2_with fail
            go_ret
            exact ⟨ET.ret_of rfl rfl, HBZ.out⟩
          · go_wp2_with fail
            go_ret
            exact ⟨ET.ret_of rfl rfl, HBZ.out⟩
        · obtain rfl : xb = false := Bool.eq_false_iff.2 (fun h => hn (.inl h))
          obtain rfl : yb = false := Bool.eq_false_iff.2 (fun h => hn (.inr h))
          dsimp only [] at d0 d1 p0 p1 b0 b1 HBZ ⊢
          go_wp2_with fail
          go_ret
          exact ⟨ET.ret_of rfl rfl, HBZ.out⟩
      · rcases (show t.k < 3 ∨ 7 < t.k by omega) with h | h
        · go_wp2_with fail
          go_ret
          exact ⟨rfl, HB_6.out⟩
        · go_wp2_with fail
          go_ret
          exact ⟨rfl, HB_6.out⟩
end Go.Proofs.Ytfbkbppaignofaa

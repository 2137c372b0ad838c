/-
  The walks of the functions that draw an expression and a row.
-/
import Derived.Test.YtfbkbppaignofaaDrawE
namespace Go.Proofs.Ytfbkbppaignofaa
open Go.RowKit

namespace ET
theorem dr_any : ∀ d, d ≤ 3 → DrOK d
  | 0, h => dr_step 0 h (fun d' h => by omega)
  | d + 1, h => dr_step (d + 1) h (fun d' h' => by obtain rfl : d = d' := by omega
                                                   exact dr_any d (by omega))

theorem At.head {w : World} {s : Nat → Prop} {t : ET} {A : Option Addr} (h : t.At w s A) (k c : Int) (b : Bool) (n : Int) : (ET.mk k c b n t.m t.kid).At w s A := at_kids.2 (show KidsAt w s t.m t.kid A from at_kids.1 h)
theorem Most.head {L : Nat} {t : ET} (h : t.Most L) (k c : Int) (b : Bool) (n : Int) : (ET.mk k c b n t.m t.kid).Most L := most_kids.2 (show t.m ≤ L ∧ ∀ i, i < t.m → (t.kid i).Most L from most_kids.1 h)

set_option maxHeartbeats 1000000 in
theorem anyExpr_any (w : World) (B rb K : Nat) (W : Int) (hW1 : 1 ≤ W) (hW2 : W ≤ 6) (hK : K ≤ 10000) (hr : Rd w B rb K) :
    Calls Try.prog 33 #[.pointer (some ⟨rb, 0, none⟩), .int .i64 W] w (DrPost w B rb (K + 200)) := by
  have hlt := hr.lt
  have hbase := hr.base
  have hc3 : cost 3 = 90 := by decide
  have H0 := Lib.hid (hr.alloc (.cells #[.int .i64 0, .int .i64 0, .bool false, .int .i64 0, .slice none 0 0] 27))
  have HG0 := Lib.hid (G_alloc (World.grownBy.refl w (some rb)) (.cells #[.int .i64 0, .int .i64 0, .bool false, .int .i64 0, .slice none 0 0] 27))
  have XR := Lib.hid (Blk.new' (w := w) (cs := #[.int .i64 0, .int .i64 0, .bool false, .int .i64 0, .slice none 0 0]) (T := 27) (g := w.heap.size) rfl)
  clear hr
  go_enter Try.func33, Try.ntmps33
  go_wp2_with fail
  refine (dr_any 3 (by omega) _ B rb K W hW1 hW2 (by omega) H0.out).mono ?_
  rintro e w1 ⟨t, A, cp, rfl, hT, hm, hr1, hg1⟩
  have XR1 := Lib.hid (XR.out.grown hg1 (by omega))
  have HR1 := Lib.hid hr1
  have HG1 := Lib.hid (G_more HG0.out hg1)
  have HM := Lib.hid hm
  have HT1 := Lib.hid (hT.wide (s' := (w.heap.size < ·)) (fun b hb => by have : w.heap.size < (w.alloc (.cells #[.int .i64 0, .int .i64 0, .bool false, .int .i64 0, .slice none 0 0] 27)).heap.size := by simp
                                                                         omega))
  clear hr1 hg1 hm hT H0 HG0 XR
  obtain ⟨ge, hge⟩ : ∃ g, g = w1.heap.size := ⟨_, rfl⟩
  have hgw : w.heap.size < ge := by have := XR1.out.lt; omega
  have HT1' := Lib.hid ((At.lt t A HT1.out).wide (s' := fun b => w.heap.size < b ∧ b ≠ ge) (fun b hb => ⟨hb.1, by omega⟩))
  have HRa := Lib.hid (HR1.out.alloc (.cells #[.int .i64 t.k, .int .i64 t.c, .bool t.b, .int .i64 t.n, .slice A t.m cp] 27))
  unfold ET.val
  go_wp2_with fail
  refine (pick_any _ B rb _ 18 (by omega) (by omega) (by omega) HRa.out).mono ?_
  rintro e w2 ⟨x, rfl, hx0, hx1, _, hr2, hg2⟩
  have XE2 := Lib.hid ((Blk.new' (w := w1) (cs := #[.int .i64 t.k, .int .i64 t.c, .bool t.b, .int .i64 t.n, .slice A t.m cp]) (T := 27) hge).grown hg2 (by omega))
  have XR2 := Lib.hid ((XR1.out.alloc (.cells #[.int .i64 t.k, .int .i64 t.c, .bool t.b, .int .i64 t.n, .slice A t.m cp] 27)).grown hg2 (by omega))
  have HT2 := Lib.hid ((HT1'.out.more ((Below.refl _ _).alloc (Nat.le_refl _) (.cells #[.int .i64 t.k, .int .i64 t.c, .bool t.b, .int .i64 t.n, .slice A t.m cp] 27)) (fun _ h => h)).grown (fun b hb => by omega) hg2)
  have HR2 := Lib.hid hr2
  have HG2 := Lib.hid (G_more (G_alloc HG1.out (.cells #[.int .i64 t.k, .int .i64 t.c, .bool t.b, .int .i64 t.n, .slice A t.m cp] 27)) hg2)
  rw [← hge]
  clear hr2 hg2 hge XR1 HR1 HG1 HT1 HT1' HRa
  by_cases h0 : x = 0
  · subst h0
    go_wp2_with fail
    have hr3 := HR2.out.alloc (.cells #[.int .i64 0, .int .i64 12, .int .i64 3, .int .i64 10] 3)
    refine (one_any _ B rb _ w2.heap.size 4 4 (fun i => [0, 12, 3, 10].getD i 0) (by omega) (by omega) (by omega) hr3 (by have := HR2.out.lt; omega) (by simp) ?_).mono ?_
    · intro i hi
      match i, hi with
      | 0, _ => simp
      | 1, _ => simp
      | 2, _ => simp
      | 3, _ => simp
    rintro e w3 ⟨i, hi, rfl, hr4, hg3⟩
    obtain ⟨y, hy⟩ : ∃ y, y = (fun i => [0, 12, 3, 10].getD i 0 : Nat → Int) i := ⟨_, rfl⟩
    rw [← hy]
    have HG3 := Lib.hid (G_more (G_alloc HG2.out (.cells #[.int .i64 0, .int .i64 12, .int .i64 3, .int .i64 10] 3)) hg3)
    have XE3 := Lib.hid ((XE2.out.alloc (.cells #[.int .i64 0, .int .i64 12, .int .i64 3, .int .i64 10] 3)).grown hg3 (by omega))
    have XR3 := Lib.hid ((XR2.out.alloc (.cells #[.int .i64 0, .int .i64 12, .int .i64 3, .int .i64 10] 3)).grown hg3 (by omega))
    have HT3 := Lib.hid ((HT2.out.more ((Below.refl _ _).alloc (Nat.le_refl _) (.cells #[.int .i64 0, .int .i64 12, .int .i64 3, .int .i64 10] 3)) (fun _ h => h)).grown (fun b hb => by omega) hg3)
    have HR3 := Lib.hid hr4
    clear hy hr3 hr4 hg3
    have e0 := XE3.out.cell 0 _ rfl
    have e1 := XE3.out.cell 1 _ rfl
    have e2 := XE3.out.cell 2 _ rfl
    have e3 := XE3.out.cell 3 _ rfl
    have e4 := XE3.out.cell 4 _ rfl
    have r0 := XR3.out.cell 0 _ rfl
    have r1 := XR3.out.cell 1 _ rfl
    have r2 := XR3.out.cell 2 _ rfl
    have r3 := XR3.out.cell 3 _ rfl
    have r4 := XR3.out.cell 4 _ rfl
    have fr0 := XR3.out.free 0
    have fr1 := XR3.out.free 1
    have fr2 := XR3.out.free 2
    have fr3 := XR3.out.free 3
    have fr4 := XR3.out.free 4
    have fe := XE3.out.free 0
    dsimp only [List.getElem_toArray, List.getElem_cons_zero, List.getElem_cons_succ] at e0 e1 e2 e3 e4 r0 r1 r2 r3 r4
    go_wp2_with fail
    refine bodyPost_ret (v := .agg #[.int .i64 y, .int .i64 t.c, .bool t.b, .int .i64 t.n, .slice A t.m cp]) (by simp [results, Try.results33, go_sem, r0, r1, r2, r3, r4]) rfl ⟨ET.mk y t.c t.b t.n t.m t.kid, A, cp, rfl, ?_, HM.out.head _ _ _ _, ?_, ?_⟩
    · refine At.wide (s := fun b => w.heap.size < b ∧ b ≠ ge) ?_ (fun b hb => by omega)
      iterate 6 refine At.put ?_ (by simp) _
      exact (HT3.out).head _ _ _ _
    · iterate 6 refine Rd.set ?_ (by simp; omega) (by simp; omega) _
      exact HR3.out.mono (by omega)
    · iterate 6 refine G_set ?_ (by simp; try omega) _
      exact HG3.out
  · by_cases h1 : x = 1
    · subst h1
      go_wp2_with fail
      have hr3 := HR2.out.alloc (.cells #[.int .i64 (-1), .int .i64 6, .int .i64 W] 3)
      refine (one_any _ B rb _ w2.heap.size 3 3 (fun i => [(-1), 6, W].getD i 0) (by omega) (by omega) (by omega) hr3 (by have := HR2.out.lt; omega) (by simp) ?_).mono ?_
      · intro i hi
        match i, hi with
        | 0, _ => simp
        | 1, _ => simp
        | 2, _ => simp
      rintro e w3 ⟨i, hi, rfl, hr4, hg3⟩
      obtain ⟨y, hy⟩ : ∃ y, y = (fun i => [(-1), 6, W].getD i 0 : Nat → Int) i := ⟨_, rfl⟩
      rw [← hy]
      have HG3 := Lib.hid (G_more (G_alloc HG2.out (.cells #[.int .i64 (-1), .int .i64 6, .int .i64 W] 3)) hg3)
      have XE3 := Lib.hid ((XE2.out.alloc (.cells #[.int .i64 (-1), .int .i64 6, .int .i64 W] 3)).grown hg3 (by omega))
      have XR3 := Lib.hid ((XR2.out.alloc (.cells #[.int .i64 (-1), .int .i64 6, .int .i64 W] 3)).grown hg3 (by omega))
      have HT3 := Lib.hid ((HT2.out.more ((Below.refl _ _).alloc (Nat.le_refl _) (.cells #[.int .i64 (-1), .int .i64 6, .int .i64 W] 3)) (fun _ h => h)).grown (fun b hb => by omega) hg3)
      have HR3 := Lib.hid hr4
      clear hy hr3 hr4 hg3
      have e0 := XE3.out.cell 0 _ rfl
      have e1 := XE3.out.cell 1 _ rfl
      have e2 := XE3.out.cell 2 _ rfl
      have e3 := XE3.out.cell 3 _ rfl
      have e4 := XE3.out.cell 4 _ rfl
      have r0 := XR3.out.cell 0 _ rfl
      have r1 := XR3.out.cell 1 _ rfl
      have r2 := XR3.out.cell 2 _ rfl
      have r3 := XR3.out.cell 3 _ rfl
      have r4 := XR3.out.cell 4 _ rfl
      have fr0 := XR3.out.free 0
      have fr1 := XR3.out.free 1
      have fr2 := XR3.out.free 2
      have fr3 := XR3.out.free 3
      have fr4 := XR3.out.free 4
      have fe := XE3.out.free 1
      dsimp only [List.getElem_toArray, List.getElem_cons_zero, List.getElem_cons_succ] at e0 e1 e2 e3 e4 r0 r1 r2 r3 r4
      go_wp2_with fail
      refine bodyPost_ret (v := .agg #[.int .i64 t.k, .int .i64 y, .bool t.b, .int .i64 t.n, .slice A t.m cp]) (by simp [results, Try.results33, go_sem, r0, r1, r2, r3, r4]) rfl ⟨ET.mk t.k y t.b t.n t.m t.kid, A, cp, rfl, ?_, HM.out.head _ _ _ _, ?_, ?_⟩
      · refine At.wide (s := fun b => w.heap.size < b ∧ b ≠ ge) ?_ (fun b hb => by omega)
        iterate 6 refine At.put ?_ (by simp) _
        exact (HT3.out).head _ _ _ _
      · iterate 6 refine Rd.set ?_ (by simp; omega) (by simp; omega) _
        exact HR3.out.mono (by omega)
      · iterate 6 refine G_set ?_ (by simp; try omega) _
        exact HG3.out
    · by_cases h2 : x = 2
      · subst h2
        go_wp2_with fail
        refine (anyValue_any _ B rb _ (by omega) HR2.out).mono ?_
        rintro e w3 ⟨b, m, rfl, hr3, hg3⟩
        have HG3 := Lib.hid (G_more HG2.out hg3)
        have XE3 := Lib.hid (XE2.out.grown hg3 (by omega))
        have XR3 := Lib.hid (XR2.out.grown hg3 (by omega))
        have HT3 := Lib.hid (HT2.out.grown (fun b hb => by omega) hg3)
        have HR3 := Lib.hid hr3
        clear hr3 hg3
        have e0 := XE3.out.cell 0 _ rfl
        have e1 := XE3.out.cell 1 _ rfl
        have e2 := XE3.out.cell 2 _ rfl
        have e3 := XE3.out.cell 3 _ rfl
        have e4 := XE3.out.cell 4 _ rfl
        have r0 := XR3.out.cell 0 _ rfl
        have r1 := XR3.out.cell 1 _ rfl
        have r2 := XR3.out.cell 2 _ rfl
        have r3 := XR3.out.cell 3 _ rfl
        have r4 := XR3.out.cell 4 _ rfl
        have fr0 := XR3.out.free 0
        have fr1 := XR3.out.free 1
        have fr2 := XR3.out.free 2
        have fr3 := XR3.out.free 3
        have fr4 := XR3.out.free 4
        have fe2 := XE3.out.free 2
        have fe3 := XE3.out.free 3
        dsimp only [List.getElem_toArray, List.getElem_cons_zero, List.getElem_cons_succ] at e0 e1 e2 e3 e4 r0 r1 r2 r3 r4
        go_wp2_with fail
        refine bodyPost_ret (v := .agg #[.int .i64 t.k, .int .i64 t.c, .bool b, .int .i64 m, .slice A t.m cp]) (by simp [results, Try.results33, go_sem, r0, r1, r2, r3, r4]) rfl ⟨ET.mk t.k t.c b m t.m t.kid, A, cp, rfl, ?_, HM.out.head _ _ _ _, ?_, ?_⟩
        · refine At.wide (s := fun b => w.heap.size < b ∧ b ≠ ge) ?_ (fun b hb => by omega)
          iterate 7 refine At.put ?_ (by simp) _
          exact (HT3.out).head _ _ _ _
        · iterate 7 refine Rd.set ?_ (by simp; omega) (by simp; omega) _
          exact HR3.out.mono (by omega)
        · iterate 7 refine G_set ?_ (by simp; try omega) _
          exact HG3.out
      · have HG3 := HG2
        have e0 := XE2.out.cell 0 _ rfl
        have e1 := XE2.out.cell 1 _ rfl
        have e2 := XE2.out.cell 2 _ rfl
        have e3 := XE2.out.cell 3 _ rfl
        have e4 := XE2.out.cell 4 _ rfl
        have r0 := XR2.out.cell 0 _ rfl
        have r1 := XR2.out.cell 1 _ rfl
        have r2 := XR2.out.cell 2 _ rfl
        have r3 := XR2.out.cell 3 _ rfl
        have r4 := XR2.out.cell 4 _ rfl
        have fr0 := XR2.out.free 0
        have fr1 := XR2.out.free 1
        have fr2 := XR2.out.free 2
        have fr3 := XR2.out.free 3
        have fr4 := XR2.out.free 4
        dsimp only [List.getElem_toArray, List.getElem_cons_zero, List.getElem_cons_succ] at e0 e1 e2 e3 e4 r0 r1 r2 r3 r4
        go_wp2_with fail
        refine bodyPost_ret (v := .agg #[.int .i64 t.k, .int .i64 t.c, .bool t.b, .int .i64 t.n, .slice A t.m cp]) (by simp [results, Try.results33, go_sem, r0, r1, r2, r3, r4]) rfl ⟨ET.mk t.k t.c t.b t.n t.m t.kid, A, cp, rfl, ?_, HM.out.head _ _ _ _, ?_, ?_⟩
        · refine At.wide (s := fun b => w.heap.size < b ∧ b ≠ ge) ?_ (fun b hb => by omega)
          iterate 5 refine At.put ?_ (by simp) _
          exact (HT2.out).head _ _ _ _
        · iterate 5 refine Rd.set ?_ (by simp; omega) (by simp; omega) _
          exact HR2.out.mono (by omega)
        · iterate 5 refine G_set ?_ (by simp; try omega) _
          exact HG2.out
end ET
end Go.Proofs.Ytfbkbppaignofaa

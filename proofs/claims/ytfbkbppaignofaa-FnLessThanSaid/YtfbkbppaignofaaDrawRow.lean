/-
  The walks of the functions that draw rows.
-/
import Derived.Test.YtfbkbppaignofaaDrawT
import Derived.Deep.RegionWith
import Derived.Test.YtfbkbppaignofaaLineC
namespace Go.Proofs.Ytfbkbppaignofaa
open Go.RowKit

def cellsL (l : List M.V) : List Value := l.flatMap fun v => [.bool v.nul, .int .i64 v.n]
theorem cellsL_snoc (l : List M.V) (v : M.V) : cellsL (l ++ [v]) = cellsL l ++ [.bool v.nul, .int .i64 v.n] := by simp [cellsL]
theorem cellsL_len (l : List M.V) : (cellsL l).length = l.length * 2 := by
  induction l with
  | nil => rfl
  | cons v l ih => simp [cellsL] at ih ⊢; omega
theorem cellsL_at (l : List M.V) (i : Nat) (h : i < l.length) : (cellsL l)[i * 2]? = some (.bool (l.getD i ⟨false, 0⟩).nul) ∧ (cellsL l)[i * 2 + 1]? = some (.int .i64 (l.getD i ⟨false, 0⟩).n) := by
  induction l generalizing i with
  | nil => simp at h
  | cons v l ih =>
    match i with
    | 0 => simp [cellsL]
    | i + 1 =>
      have := ih i (by simpa using h)
      have e : (i + 1) * 2 = i * 2 + 2 := by omega
      rw [e]
      simpa [cellsL] using this

/-- A row that lies in no block of the reader's. -/
def RowIn (w : World) (rb : Nat) (A : Option Addr) (n : Nat) (f : Nat → M.V) : Prop :=
  0 < n → ∃ b o, A = some ⟨b, o, none⟩ ∧ rb < b ∧ b < w.heap.size ∧ ∀ i, i < n → w.cell? ⟨b, o + i * 2, none⟩ = some (.bool (f i).nul) ∧ w.cell? ⟨b, o + i * 2 + 1, none⟩ = some (.int .i64 (f i).n)
theorem RowIn.at_ {w : World} {rb : Nat} {A : Option Addr} {n : Nat} {f : Nat → M.V} (h : RowIn w rb A n f) : RowAt w w.heap.size A n f := fun hn => by
  obtain ⟨b, o, hA, _, hlt, hc⟩ := h hn
  exact ⟨b, o, hA, hlt, hc⟩
theorem RowIn.grown {w w' : World} {rb : Nat} {A : Option Addr} {n : Nat} {f : Nat → M.V} (h : RowIn w rb A n f) (hg : w.grownBy w' (some rb)) : RowIn w' rb A n f := fun hn => by
  obtain ⟨b, o, hA, hne, hlt, hc⟩ := h hn
  obtain ⟨k1, _, k3⟩ := own_step hg (Nat.ne_of_gt hne) hlt
  exact ⟨b, o, hA, hne, k3, fun i hi => ⟨(k1 _).trans (hc i hi).1, (k1 _).trans (hc i hi).2⟩⟩

/-- A row drawn: a slice of the call's own. -/
def RowPost (w : World) (B rb K : Nat) (n : Nat) (e : Ending) (w' : World) : Prop :=
  ∃ v, e = .returned v ∧ (∃ l : List M.V, l.length = n ∧ w'.ownsRow w.heap.size 24 2 v n (cellsL l)) ∧ Rd w' B rb K ∧ w.grownBy w' (some rb)

theorem own_empty (w : World) : (w.alloc (.cells #[] 24)).ownsRow w.heap.size 24 2 (.slice (some ⟨w.heap.size, 0, none⟩) 0 0) 0 (cellsL []) :=
  ⟨rfl, .inr ⟨w.heap.size, 0, #[], rfl, Nat.le_refl _, heap_alloc_new w _, Nat.le_refl _, Nat.zero_le _, rfl, rfl⟩⟩

theorem own_alloc {w : World} {B : Nat} {v : Value} {n : Nat} {xs : List Value} (h : w.ownsRow B 24 2 v n xs) (o : Obj) : (w.alloc o).ownsRow B 24 2 v n xs := h.alloc o
theorem own_draw {w w' : World} {B rb : Nat} {v : Value} {n : Nat} {xs : List Value} (h : w.ownsRow B 24 2 v n xs) (hB : rb < B) (hg : w.grownBy w' (some rb)) : w'.ownsRow B 24 2 v n xs := by
  obtain ⟨hl, h | ⟨g, cap, cur, hv, hgB, hh, r⟩⟩ := h
  · exact ⟨hl, .inl h⟩
  · have hlt : g < w.heap.size := (Array.getElem?_eq_some_iff.1 hh).1
    exact ⟨hl, .inr ⟨g, cap, cur, hv, hgB, (hg.block g hlt (by intro e; injection e with e; omega)).trans hh, r⟩⟩
theorem own_ne {w : World} {B rb : Nat} {v : Value} {n : Nat} {xs : List Value} (h : w.ownsRow B 24 2 v n xs) (hB : rb < B) : v.ownBlock ≠ some rb := by
  rcases h.2 with ⟨rfl, _⟩ | ⟨g, cap, cur, rfl, hg, _⟩
  · simp [Value.ownBlock]
  · simp [Value.ownBlock]; omega

/-- Behind an append onto a row of one's own the reader stands, and what was there. -/
theorem Rd.app {w w' : World} {B rb K : Nat} {row : Option Nat} (h : Rd w B rb K) (hg : w.grownBy w' row) (hr : row ≠ some rb) (hr2 : ∀ g, row = some g → B ≤ g) : Rd w' B rb K :=
  h.keep (fun k hk => hg.block k (by have := h.lt; have := h.base; omega) (by
    intro e
    rcases hk with hk | hk
    · have := hr2 k e.symm; omega
    · exact hr (by rw [← e, hk]))) hg.size (Nat.le_refl _)
theorem G_app {w x y : World} {rb : Nat} {row : Option Nat} (h : w.grownBy x (some rb)) (k : x.grownBy y row) (hr : ∀ g, row = some g → w.heap.size ≤ g) : w.grownBy y (some rb) :=
  ⟨k.os.trans h.os, k.tape.trans h.tape, k.output.trans h.output, Nat.le_trans h.size k.size, fun i hi hne => (k.block i (by have := h.size; omega) (by intro e; have := hr i e.symm; omega)).trans (h.block i hi hne)⟩
theorem own_ge {w : World} {B : Nat} {v : Value} {n : Nat} {xs : List Value} (h : w.ownsRow B 24 2 v n xs) : ∀ g, v.ownBlock = some g → B ≤ g := by
  intro g hg
  rcases h.2 with ⟨rfl, _⟩ | ⟨g', cap, cur, rfl, hgB, _⟩
  · simp [Value.ownBlock] at hg
  · simp [Value.ownBlock] at hg; omega

set_option maxHeartbeats 800000 in
theorem randomRow_any (w : World) (B rb K n : Nat) (hn : n ≤ 7) (hK : K ≤ 1000000) (hr : Rd w B rb K) :
    Calls Try.prog 53 #[.pointer (some ⟨rb, 0, none⟩), .int .i64 (n : Int)] w (RowPost w B rb (K + 2 * n) n) := by
  obtain ⟨i0, hi0, hz0, hz1, hz2⟩ := info_parts infoV
  have hlt := hr.lt
  have hbase := hr.base
  have H0 := Lib.hid (hr.alloc (.cells #[] 24))
  have HO := Lib.hid (own_empty w)
  have HG := Lib.hid (G_alloc (World.grownBy.refl w (some rb)) (.cells #[] 24))
  clear hr
  go_enter Try.func53, Try.ntmps53
  go_wp2_with fail
  go_loopw [5, 6] (fun v i wr => ∃ (k : Nat) (l : List M.V), k ≤ n ∧ i = .int .i64 k ∧ l.length = k ∧ wr.ownsRow w.heap.size 24 2 v k (cellsL l) ∧ Rd wr B rb (K + 2 * k) ∧ w.grownBy wr (some rb)) (fun _ i _ => n - (intOf i).toNat)
  case atStart => exact ⟨0, [], by omega, rfl, rfl, HO.out, H0.out, HG.out⟩
  case round =>
    obtain ⟨k, l, hk, rfl, hl, hO, hR, hG⟩ := hrel
    clear HO H0 HG
    have HO := Lib.hid hO
    have HR := Lib.hid hR
    have HG := Lib.hid hG
    have HL := Lib.hid hl
    clear hO hR hG hl
    by_cases hkn : k < n
    · have hk1 : (k : Int) < (n : Int) := by omega
      go_wp2_with fail
      refine (randomValue_any _ B rb _ (by omega) HR.out).mono ?_
      rintro e w2 ⟨b, m, rfl, hR2, hG2⟩
      have HO2 := Lib.hid (own_alloc (own_draw HO.out hlt hG2) (.cells #[.bool b, .int .i64 m] 24))
      have HR2 := Lib.hid (hR2.alloc (.cells #[.bool b, .int .i64 m] 24))
      have HG2 := Lib.hid (G_alloc (G_more HG.out hG2) (.cells #[.bool b, .int .i64 m] 24))
      have hsz := Lib.hid (Nat.le_trans HG.out.size hG2.size)
      have HNE := Lib.hid (own_ne HO2.out hlt)
      have HGE := Lib.hid (own_ge HO2.out)
      have HL2 := Lib.hid (show (l ++ [(⟨b, m⟩ : M.V)]).length = k + 1 by rw [List.length_append, HL.out]; rfl)
      have HC2 := Lib.hid (cellsL_snoc l ⟨b, m⟩)
      clear hR2 hG2
      go_wp2_with (at_builtin; refine wpList_append_own _ rfl _ _ 28 rfl w.heap.size 24 i0 _ 2 16 Try.underlying28 hi0 hz0 hz1 hz2 rfl (by decide) u5 k (cellsL l) rfl HO2.out ⟨w2.heap.size, 0, none⟩ 1 1 [.bool b, .int .i64 m] rfl rfl ?c1 ?c2 ?c3 ?c4 ?c5 ?_)
      case c1 =>
        intro j u hj
        match j, hj with
        | 0, hj => simp at hj; subst hj; simp [Addr.add]
        | 1, hj => simp at hj; subst hj; simp [Addr.add]
      case c2 => intro u hu; simp at hu; rcases hu with rfl | rfl <;> rfl
      case c3 => unfold maxLen; omega
      case c4 => omega
      case c5 => have := hsz.out; simp; omega
      · intro v' w3 hO3 hG3 _
        have HO3 := Lib.hid hO3
        have HR3 := Lib.hid (HR2.out.app hG3 HNE.out (fun g hg => by have := HGE.out g hg; omega))
        have HG4 := Lib.hid (G_app HG2.out hG3 HGE.out)
        clear hO3 hG3
        go_wp2_with fail
        refine ⟨?_, by simp [intOf]; omega⟩
        have HO4 : Hid (w3.ownsRow w.heap.size 24 2 v' (k + 1) (cellsL (l ++ [(⟨b, m⟩ : M.V)]))) := by rw [HC2.out]; exact HO3.out
        first
          | exact ⟨k + 1, l ++ [⟨b, m⟩], by omega, by go_num, HL2.out, HO4.out, HR3.out.mono (by omega), HG4.out⟩
          | ((repeat apply Exists.intro); exact ⟨⟨k + 1, l ++ [⟨b, m⟩], by omega, by go_num, HL2.out, HO4.out, HR3.out.mono (by omega), HG4.out⟩, rfl⟩)
    · obtain rfl : k = n := by omega
      go_wp2_with fail
      go_ret
      exact ⟨u5, rfl, ⟨l, HL.out, HO.out⟩, HR.out, HG.out⟩

theorem own_row {w : World} {B rb : Nat} {v : Value} {n : Nat} {l : List M.V} (h : w.ownsRow B 24 2 v n (cellsL l)) (hl : l.length = n) (hB : rb < B) :
    ∃ A c, v = .slice A n c ∧ (A = none → c = 0) ∧ RowIn w rb A n (fun i => l.getD i ⟨false, 0⟩) ∧ (0 < n → ∃ g, A = some ⟨g, 0, none⟩ ∧ B ≤ g ∧ g < w.heap.size ∧ n ≤ c ∧ ∀ j, w.frozen? ⟨g, j, none⟩ = false) := by
  obtain ⟨_, ⟨rfl, rfl⟩ | ⟨g, cap, cur, rfl, hg, hh, hnc, hcm, hsz, hx⟩⟩ := h
  · exact ⟨none, 0, rfl, fun _ => rfl, fun h => absurd h (by omega), fun h => absurd h (by omega)⟩
  · have hlt : g < w.heap.size := (Array.getElem?_eq_some_iff.1 hh).1
    refine ⟨some ⟨g, 0, none⟩, cap, rfl, (fun h => by cases h), fun _ => ⟨g, 0, rfl, by omega, hlt, fun i hi => ?_⟩, fun _ => ⟨g, rfl, hg, hlt, hnc, fun j => by simp [World.frozen?, hh]⟩⟩
    have e : ∀ j, j < n * 2 → w.cell? ⟨g, 0 + j, none⟩ = (cellsL l)[j]? := fun j hj => by
      rw [Nat.zero_add, cell_of_row w g j cur _ _ hh, ← hx, List.getElem?_take_of_lt hj, Array.getElem?_toList]
    have h2 := cellsL_at l i (by omega)
    exact ⟨(e _ (by omega)).trans h2.1, (e _ (by omega)).trans h2.2⟩

def AnyPost (w : World) (B rb K : Nat) (e : Ending) (w' : World) : Prop :=
  ∃ A n c f, e = .returned (.slice A n c) ∧ (A = none → c = 0) ∧ n ≤ 7 ∧ RowIn w' rb A n f ∧ Rd w' B rb K ∧ w.grownBy w' (some rb)

theorem RowIn.set {w : World} {rb g n : Nat} {f : Nat → M.V} (h : RowIn w rb (some ⟨g, 0, none⟩) n f) {k : Nat} (hk : k < n) (b : Bool) (m : Int) :
    RowIn ((w.setCell ⟨g, k * 2, none⟩ (.bool b)).setCell ⟨g, k * 2 + 1, none⟩ (.int .i64 m)) rb (some ⟨g, 0, none⟩) n (fun i => if i = k then ⟨b, m⟩ else f i) := fun hn => by
  obtain ⟨b', o, hA, hne, hlt, hc⟩ := h hn
  injection hA with hA
  injection hA with e1 e2 _
  subst e1 e2
  refine ⟨g, 0, rfl, hne, by simpa [World.setCell] using hlt, fun i hi => ?_⟩
  obtain ⟨c0, c1⟩ := hc i hi
  obtain ⟨d0, d1⟩ := hc k hk
  simp only [Nat.zero_add] at c0 c1 d0 d1 ⊢
  by_cases hik : i = k
  · subst hik
    rw [if_pos rfl]
    constructor
    · rw [World.cell?_setCell_other _ _ _ _ (by simp)]
      exact World.cell?_setCell_same w _ _ d0
    · refine World.cell?_setCell_same (u := .int .i64 (f i).n) _ _ _ ?_
      rw [World.cell?_setCell_other _ _ _ _ (by simp)]
      exact d1
  · rw [if_neg hik]
    constructor
    · rw [World.cell?_setCell_other _ _ _ _ (by intro e; injection e with _ e2 _; omega), World.cell?_setCell_other _ _ _ _ (by intro e; injection e with _ e2 _; omega)]
      exact c0
    · rw [World.cell?_setCell_other _ _ _ _ (by intro e; injection e with _ e2 _; omega), World.cell?_setCell_other _ _ _ _ (by intro e; injection e with _ e2 _; omega)]
      exact c1

set_option maxHeartbeats 800000 in
theorem anyRow_any (w : World) (B rb K n : Nat) (hn1 : 1 ≤ n) (hn : n ≤ 7) (hK : K ≤ 100000) (hr : Rd w B rb K) :
    Calls Try.prog 34 #[.pointer (some ⟨rb, 0, none⟩), .int .i64 (n : Int)] w (AnyPost w B rb (K + 40)) := by
  have hlt := hr.lt
  have hbase := hr.base
  have H0 := Lib.hid hr
  clear hr
  go_enter Try.func34, Try.ntmps34
  go_wp2_with fail
  refine (randomRow_any w B rb K n hn (by omega) H0.out).mono ?_
  rintro e w1 ⟨v, rfl, ⟨l, hl, hO⟩, hR1, hG1⟩
  obtain ⟨A, c, rfl, hAc, hI, hF⟩ := own_row hO hl hlt
  replace hAc := Lib.hid hAc
  have HI := Lib.hid hI
  have HF := Lib.hid (hF (by omega))
  have HR1 := Lib.hid hR1
  have HG1 := Lib.hid hG1
  clear hI hF hR1 hG1 hO
  go_wp2_with fail
  refine (pick_any _ B rb (K + 2 * n) 18 (by omega) (by omega) (by omega) HR1.out).mono ?_
  rintro e w2 ⟨x, rfl, hx0, hx1, _, hR2, hG2⟩
  have HI2 := Lib.hid (HI.out.grown hG2)
  have HR2 := Lib.hid hR2
  have HG2 := Lib.hid (G_more HG1.out hG2)
  have HS := Lib.hid hG2
  clear hR2 hG2
  by_cases h0 : x = 0
  · subst h0
    go_wp2_with fail
    go_ret
    exact ⟨_, 0, _, fun _ => ⟨false, 0⟩, rfl, (fun h => by cases h), by omega, fun h => absurd h (by omega), (HR2.out.alloc _).mono (by omega), G_alloc HG2.out _⟩
  · by_cases h1 : x = 1
    · subst h1
      clear h0
      go_wp2_with fail
      refine (randomRow_any w2 B rb _ 7 (by omega) (by omega) HR2.out).mono ?_
      rintro e w3 ⟨v3, rfl, ⟨l3, hl3, hO3⟩, hR3, hG3⟩
      obtain ⟨A3, c3, rfl, hAc3, hI3, _⟩ := own_row hO3 hl3 HR2.out.lt
      replace hAc3 := Lib.hid hAc3
      have HI3 := Lib.hid hI3
      have HR3 := Lib.hid hR3
      have HG3 := Lib.hid (G_more HG2.out hG3)
      clear hI3 hR3 hG3 hO3
      go_wp2_with fail
      go_ret
      exact ⟨A3, 7, c3, _, rfl, hAc3.out, by omega, HI3.out, HR3.out.mono (by omega), HG3.out⟩
    · by_cases h2 : x = 2
      · subst h2
        clear h0 h1
        obtain ⟨g, rfl, hg1, hg2, hnc, hfz⟩ := HF.out
        have hgr : g ≠ rb := by omega
        go_wp2_with fail
        refine (pick_any _ B rb _ (n : Int) (by omega) (by omega) (by omega) HR2.out).mono ?_
        rintro e w3 ⟨y, rfl, hy0, hy1, _, hR3, hG3⟩
        have hy1 := hy1 (by omega)
        obtain ⟨k, rfl⟩ := Int.eq_ofNat_of_zero_le hy0
        have hkn : k < n := by omega
        have HI3 := Lib.hid (HI2.out.grown hG3)
        have HR3 := Lib.hid hR3
        have HG3 := Lib.hid (G_more HG2.out hG3)
        obtain ⟨hz2, hz2'⟩ := (own_step HS.out hgr hg2).2
        obtain ⟨hz3, hz3'⟩ := (own_step hG3 hgr hz2').2
        have HZ3 := Lib.hid (fun o => (hz3 o).trans ((hz2 o).trans (hfz o)))
        clear hR3 hG3 hz2 hz3 hfz
        go_wp2_with fail
        refine (anyValue_any w3 B rb _ (by omega) HR3.out).mono ?_
        rintro e w4 ⟨b, m, rfl, hR4, hG4⟩
        have hI4 := HI3.out.grown hG4
        obtain ⟨hz4, hz4'⟩ := (own_step hG4 hgr hz3').2
        obtain ⟨b', o', hA, _, _, hc⟩ := hI4 (by omega)
        injection hA with hA
        injection hA with e1 e2 _
        subst e1 e2
        obtain ⟨d0, d1⟩ := hc k hkn
        simp only [Nat.zero_add] at d0 d1
        have z0 := (hz4 (k * 2)).trans (HZ3.out _)
        have z1 := (hz4 (k * 2 + 1)).trans (HZ3.out _)
        have d2 : (w4.setCell ⟨g, k * 2, none⟩ (.bool b)).cell? ⟨g, k * 2 + 1, none⟩ = some (.int .i64 ((fun i => l.getD i ⟨false, 0⟩ : Nat → M.V) k).n) := by rw [World.cell?_setCell_other _ _ _ _ (by simp)]; exact d1
        have HI5 := Lib.hid (hI4.set hkn b m)
        have HR5 := Lib.hid ((hR4.set (a := ⟨g, k * 2, none⟩) (by show B ≤ g; omega) hgr (.bool b)).set (a := ⟨g, k * 2 + 1, none⟩) (by show B ≤ g; omega) hgr (.int .i64 m))
        have HG5 := Lib.hid (G_set (G_set (G_more HG3.out hG4) (a := ⟨g, k * 2, none⟩) hg1 (.bool b)) (a := ⟨g, k * 2 + 1, none⟩) hg1 (.int .i64 m))
        have hk0 : (0 : Int) ≤ (k : Int) := by omega
        clear hI4 hc hR4 hG4 hz4
        go_wp2_with fail
        go_ret
        exact ⟨_, n, c, _, rfl, hAc.out, hn, HI5.out, HR5.out.mono (by omega), HG5.out⟩
      · go_wp2_with fail
        go_ret
        exact ⟨A, n, c, _, rfl, hAc.out, hn, HI2.out, HR2.out.mono (by omega), HG2.out⟩

theorem anyRow_int (w : World) (B rb K n : Nat) (N : Int) (hN : N = (n : Int)) (hn1 : 1 ≤ n) (hn : n ≤ 7) (hK : K ≤ 100000) (hr : Rd w B rb K) :
    Calls Try.prog 34 #[.pointer (some ⟨rb, 0, none⟩), .int .i64 N] w (AnyPost w B rb (K + 40)) := by
  subst hN
  exact anyRow_any w B rb K n hn1 hn hK hr

end Go.Proofs.Ytfbkbppaignofaa

/-
  The walks of the functions that compare rows.
-/
import Derived.Test.YtimmglcjjbmpdaaLine
namespace Go.Proofs.Ytimmglcjjbmpdaa
open Go.RowKit

def okRow (n : Nat) (f : Nat → M.V) : Bool := decide (1 ≤ n ∧ n ≤ 6 ∧ ∀ i, i < n → (f i).ok = true)

/-- The first difference of m values from place k on, or 0. -/
def lexFrom (f g : Nat → M.V) : Nat → Nat → Int
  | 0, _ => 0
  | m + 1, k => if (f k).cmp (g k) = 0 then lexFrom f g m (k + 1) else (f k).cmp (g k)

theorem lex_step (f g : Nat → M.V) (n k : Nat) (hk : k < n) (h : (f k).cmp (g k) = 0) : lexFrom f g (n - k) k = lexFrom f g (n - (k + 1)) (k + 1) := by
  obtain ⟨m, hm⟩ : ∃ m, n - k = m + 1 := ⟨n - k - 1, by omega⟩
  rw [hm, show n - (k + 1) = m by omega]
  simp [lexFrom, h]
theorem lex_stop (f g : Nat → M.V) (n k : Nat) (hk : k < n) (h : (f k).cmp (g k) ≠ 0) : lexFrom f g (n - k) k = (f k).cmp (g k) := by
  obtain ⟨m, hm⟩ : ∃ m, n - k = m + 1 := ⟨n - k - 1, by omega⟩
  rw [hm]
  simp [lexFrom, h]
theorem lex_end (f g : Nat → M.V) (n : Nat) : lexFrom f g (n - n) n = 0 := by simp [lexFrom]

theorem okV_ne {v : M.V} (h : (!okB v.nul v.n) = true) : ¬ v.ok = true := fun e => by
  have : okB v.nul v.n = true := e
  rw [this] at h
  cases h
theorem okV_eq {v : M.V} (h : (!okB v.nul v.n) = false) : v.ok = true := by
  have : okB v.nul v.n = true := nb h
  exact this

theorem validWidth_any (n : Nat) (w : World) (hn : n ≤ 2000000) :
    Calls Try.prog 92 #[.int .i64 (n : Int)] w fun e w' => e = .returned (.bool (decide (1 ≤ n ∧ n ≤ 6))) ∧ w = w' := by
  by_cases h1 : (1 : Int) ≤ (n : Int)
  · go_enter Try.func92, Try.ntmps92
    go_wp2
    go_ret
    exact ⟨ret_bool (by rw [Bool.eq_iff_iff]; simp; omega), rfl⟩
  · go_enter Try.func92, Try.ntmps92
    go_wp2
    go_ret
    exact ⟨ret_bool (by simp; omega), rfl⟩

theorem validRow_any (w : World) (A : Option Addr) (n c : Nat) (f : Nat → M.V) (hA : RowAt w w.heap.size A n f) (hn : n ≤ 2000000) :
    Calls Try.prog 63 #[.slice A n c] w fun e w' => e = .returned (.bool (okRow n f)) ∧ Below w.heap.size w w' := by
  have H1 := Lib.hid hA
  clear hA
  by_cases hw : 1 ≤ n ∧ n ≤ 6
  · have hd : decide (1 ≤ n ∧ n ≤ 6) = true := decide_eq_true hw
    obtain ⟨hw1, hw2⟩ := hw
    have cw := Lib.hid (validWidth_any n w hn)
    rw [hd] at cw
    clear hd
    go_enter Try.func63, Try.ntmps63
    go_wp2_with fail
    refine cw.out.mono ?_; rintro e w' ⟨rfl, rfl⟩
    go_wp2_with fail
    go_loopw [11] (fun i wr => ∃ k : Nat, k ≤ n ∧ i = .int .i64 k ∧ (∀ j, j < k → (f j).ok = true) ∧ Below w.heap.size w wr) (fun i _ => n - (intOf i).toNat)
    case atStart => exact ⟨0, by omega, rfl, fun j hj => absurd hj (by omega), Below.refl _ _⟩
    case round =>
      obtain ⟨k, hk, rfl, heq, hB⟩ := hrel
      by_cases hlt : k < n
      · obtain ⟨b, o, rfl, hb, hc⟩ := (H1.out.below hB) (by omega)
        obtain ⟨x0, x1⟩ := hc k hlt
        have HQ := Lib.hid heq
        have HB := Lib.hid hB
        clear heq hB hc
        have hk0 : (0 : Int) ≤ (k : Int) := by omega
        have hk1 : (k : Int) < (n : Int) := by omega
        go_wp2_with fail
        refine (valid_any _ _ _).mono ?_; rintro e w1 ⟨rfl, hb1⟩
        have HS := Lib.hid (B_more (B_alloc HB.out _) hb1)
        clear hb1
        go_wp2_with fail
        · have hbad := okV_ne (v := f k) (by assumption)
          go_ret
          exact ⟨ret_bool (by simp [okRow]; exact fun _ _ => ⟨k, hlt, by simpa using hbad⟩), HS.out⟩
        · have hok := okV_eq (v := f k) (by assumption)
          have HN : ∀ j, j < k + 1 → (f j).ok = true := fun j hj => by
            by_cases hjk : j = k
            · subst hjk; exact hok
            · exact HQ.out j (by omega)
          refine ⟨?_, by simp [intOf]; omega⟩
          first
            | exact ⟨k + 1, by omega, by go_num, HN, HS.out⟩
            | ((repeat apply Exists.intro); exact ⟨⟨k + 1, by omega, by go_num, HN, HS.out⟩, rfl⟩)
      · have HQ := Lib.hid heq
        have HB := Lib.hid hB
        clear heq hB
        go_wp2_with fail
        go_ret
        exact ⟨ret_bool (by simp [okRow]; exact ⟨hw1, hw2, fun i hi => HQ.out i (by omega)⟩), HB.out⟩
  · have hd : decide (1 ≤ n ∧ n ≤ 6) = false := decide_eq_false hw
    have cw := Lib.hid (validWidth_any n w hn)
    rw [hd] at cw
    clear hd
    have HW := Lib.hid hw
    clear hw
    go_enter Try.func63, Try.ntmps63
    go_wp2_with fail
    refine cw.out.mono ?_; rintro e w' ⟨rfl, rfl⟩
    go_wp2_with fail
    go_ret
    exact ⟨ret_bool (by simp [okRow]; intro h1 h2; exact absurd ⟨h1, h2⟩ HW.out), Below.refl _ _⟩

theorem svalidRow_any (w : World) (A : Option Addr) (n c : Nat) (f : Nat → M.V) (hA : RowAt w w.heap.size A n f) (hn : n ≤ 2000000) :
    Calls Try.prog 65 #[.slice A n c] w fun e w' => e = .returned (.bool (okRow n f)) ∧ Below w.heap.size w w' := by
  have H1 := Lib.hid hA
  clear hA
  go_enter Try.func65, Try.ntmps65
  go_wp2_with fail
  go_loopw [3] (fun i wr => ∃ k : Nat, k ≤ n ∧ i = .int .i64 k ∧ (∀ j, j < k → (f j).ok = true) ∧ Below w.heap.size w wr) (fun i _ => n - (intOf i).toNat)
  case atStart => exact ⟨0, by omega, rfl, fun j hj => absurd hj (by omega), Below.refl _ _⟩
  case round =>
    obtain ⟨k, hk, rfl, heq, hB⟩ := hrel
    by_cases hlt : k < n
    · obtain ⟨b, o, rfl, hb, hc⟩ := (H1.out.below hB) (by omega)
      obtain ⟨x0, x1⟩ := hc k hlt
      have HQ := Lib.hid heq
      have HB := Lib.hid hB
      clear heq hB hc
      have hk0 : (0 : Int) ≤ (k : Int) := by omega
      have hk1 : (k : Int) < (n : Int) := by omega
      go_wp2_with fail
      refine (svalid_any _ _ _).mono ?_; rintro e w1 ⟨rfl, hb1⟩
      have HS := Lib.hid (B_more HB.out hb1)
      clear hb1
      go_wp2_with fail
      · have hbad := okV_ne (v := f k) (by assumption)
        go_ret
        exact ⟨ret_bool (by simp [okRow]; exact fun _ _ => ⟨k, hlt, by simpa using hbad⟩), HS.out⟩
      · have hok := okV_eq (v := f k) (by assumption)
        have HN : ∀ j, j < k + 1 → (f j).ok = true := fun j hj => by
          by_cases hjk : j = k
          · subst hjk; exact hok
          · exact HQ.out j (by omega)
        refine ⟨?_, by simp [intOf]; omega⟩
        first
          | exact ⟨k + 1, by omega, by go_num, HN, HS.out⟩
          | ((repeat apply Exists.intro); exact ⟨⟨k + 1, by omega, by go_num, HN, HS.out⟩, rfl⟩)
    · have HQ := Lib.hid heq
      have HB := Lib.hid hB
      clear heq hB
      go_wp2_with fail
      refine (inRange_any _ _ _ _).mono ?_; rintro e w' ⟨rfl, rfl⟩
      go_wp2_with fail
      go_ret
      refine ⟨ret_bool ?_, HB.out⟩
      unfold okRow
      rw [Bool.eq_iff_iff]
      simp only [Bool.and_eq_true, decide_eq_true_eq]
      constructor
      · rintro ⟨h1, h2⟩
        exact ⟨by omega, by omega, fun i hi => HQ.out i (by omega)⟩
      · rintro ⟨h1, h2, _⟩
        exact ⟨by omega, by omega⟩

theorem cmpV_V (u v : M.V) : cmpV u.nul u.n v.nul v.n = u.cmp v := rfl

theorem compareRows_any (w : World) (A A' : Option Addr) (n c c' : Nat) (f g : Nat → M.V) (hA : RowAt w w.heap.size A n f) (hA' : RowAt w w.heap.size A' n g) (hn : n ≤ 2000000)
    (hf : ∀ i, i < n → (f i).ok = true) (hg : ∀ i, i < n → (g i).ok = true) :
    Calls Try.prog 64 #[.slice A n c, .slice A' n c'] w fun e w' => e = .returned (.int .i64 (lexFrom f g n 0)) ∧ Below w.heap.size w w' := by
  have H1 := Lib.hid hA
  have H2 := Lib.hid hA'
  have F1 := Lib.hid hf
  have F2 := Lib.hid hg
  clear hA hA' hf hg
  go_enter Try.func64, Try.ntmps64
  go_wp2_with fail
  go_loopw [9] (fun i wr => ∃ k : Nat, k ≤ n ∧ i = .int .i64 k ∧ lexFrom f g n 0 = lexFrom f g (n - k) k ∧ Below w.heap.size w wr) (fun i _ => n - (intOf i).toNat)
  case atStart => exact ⟨0, by omega, rfl, rfl, Below.refl _ _⟩
  case round =>
    obtain ⟨k, hk, rfl, heq, hB⟩ := hrel
    by_cases hlt : k < n
    · obtain ⟨b, o, rfl, hb, hc⟩ := (H1.out.below hB) (by omega)
      obtain ⟨b', o', rfl, hb', hc'⟩ := (H2.out.below hB) (by omega)
      obtain ⟨x0, x1⟩ := hc k hlt
      obtain ⟨y0, y1⟩ := hc' k hlt
      have HQ := Lib.hid heq
      have HB := Lib.hid hB
      clear heq hB hc hc'
      have hk0 : (0 : Int) ≤ (k : Int) := by omega
      have hk1 : (k : Int) < (n : Int) := by omega
      have cc := Lib.hid (fun w => compare_any (f k).nul (f k).n (g k).nul (g k).n w (F1.out k hlt) (F2.out k hlt))
      go_wp2_with fail
      go_region_held3 (fun w' => w'.cell? ⟨b, o + k * 2, none⟩ = some (.bool (f k).nul) ∧ w'.cell? ⟨b, o + k * 2 + 1, none⟩ = some (.int .i64 (f k).n) ∧ w'.cell? ⟨b', o' + k * 2, none⟩ = some (.bool (g k).nul) ∧ w'.cell? ⟨b', o' + k * 2 + 1, none⟩ = some (.int .i64 (g k).n) ∧ Below wr.heap.size wr w')
        (first | exact init_four x0 x1 y0 y1 | exact keep_four (by assumption) hb1)
        (first | (go_at_call 56; refine (cc.out _).mono ?_; rintro e w1 ⟨rfl, hb1⟩))
      have hS : Below wr.heap.size wr w1 := (by assumption : _ ∧ _ ∧ _ ∧ _ ∧ Below wr.heap.size wr w1).2.2.2.2
      have HS := Lib.hid (HB.out.trans (hS.mono HB.out.size))
      clear hS
      rw [cmpV_V]
      by_cases hz : (f k).cmp (g k) = 0
      · have hz' : ((f k).cmp (g k) == 0) = true := by simpa using hz
        have hz'' : ((f k).cmp (g k) != 0) = false := by simpa using hz
        have HN := Lib.hid (HQ.out.trans (lex_step f g n k hlt hz))
        clear hz
        go_wp2_with fail
        refine ⟨?_, by simp [intOf]; omega⟩
        first
          | exact ⟨k + 1, by omega, by go_num, HN.out, HS.out⟩
          | ((repeat apply Exists.intro); exact ⟨⟨k + 1, by omega, by go_num, HN.out, HS.out⟩, rfl⟩)
      · have hz' : ((f k).cmp (g k) == 0) = false := by simpa using hz
        have hz'' : ((f k).cmp (g k) != 0) = true := by simpa using hz
        have HN := Lib.hid (HQ.out.trans (lex_stop f g n k hlt hz))
        clear hz
        go_wp2_with fail
        go_ret
        exact ⟨ret_int HN.out.symm, HS.out⟩
    · obtain rfl : k = n := by omega
      have HN := Lib.hid (heq.trans (lex_end f g k))
      have HB := Lib.hid hB
      clear heq hB
      go_wp2_with fail
      go_ret
      exact ⟨ret_int HN.out.symm, HB.out⟩

/-- The result of the model's comparison of any two rows. -/
def slex (n m : Nat) (f g : Nat → M.V) : Int := if lexFrom f g (min n m) 0 = 0 then (n : Int) - (m : Int) else lexFrom f g (min n m) 0

theorem scompareRows_any (w : World) (A A' : Option Addr) (n m c c' : Nat) (f g : Nat → M.V) (hA : RowAt w w.heap.size A n f) (hA' : RowAt w w.heap.size A' m g) (hn : n ≤ 2000000) (hm : m ≤ 2000000) :
    Calls Try.prog 66 #[.slice A n c, .slice A' m c'] w fun e w' => e = .returned (.int .i64 (slex n m f g)) ∧ Below w.heap.size w w' := by
  have H1 := Lib.hid hA
  have H2 := Lib.hid hA'
  clear hA hA'
  obtain ⟨N, hN⟩ : ∃ N, N = min n m := ⟨_, rfl⟩
  have hNn : N ≤ n := by omega
  have hNm : N ≤ m := by omega
  have hor := Lib.hid (show N = n ∨ N = m by omega)
  have hs := Lib.hid (show slex n m f g = if lexFrom f g N 0 = 0 then (n : Int) - (m : Int) else lexFrom f g N 0 by rw [hN]; rfl)
  clear hN
  go_enter Try.func66, Try.ntmps66
  go_wp2_with fail
  go_loopw [5] (fun i wr => ∃ k : Nat, k ≤ N ∧ i = .int .i64 k ∧ lexFrom f g N 0 = lexFrom f g (N - k) k ∧ Below w.heap.size w wr) (fun i _ => N - (intOf i).toNat)
  case atStart => exact ⟨0, by omega, rfl, rfl, Below.refl _ _⟩
  case round =>
    obtain ⟨k, hk, rfl, heq, hB⟩ := hrel
    by_cases hlt : k < N
    · obtain ⟨b, o, rfl, hb, hc⟩ := (H1.out.below hB) (by omega)
      obtain ⟨b', o', rfl, hb', hc'⟩ := (H2.out.below hB) (by omega)
      obtain ⟨x0, x1⟩ := hc k (by omega)
      obtain ⟨y0, y1⟩ := hc' k (by omega)
      have HQ := Lib.hid heq
      have HB := Lib.hid hB
      clear heq hB hc hc'
      have hk0 : (0 : Int) ≤ (k : Int) := by omega
      have hk1 : (k : Int) < (n : Int) := by omega
      have hk2 : (k : Int) < (m : Int) := by omega
      go_wp2_with fail
      go_region_held3 (fun w' => w'.cell? ⟨b, o + k * 2, none⟩ = some (.bool (f k).nul) ∧ w'.cell? ⟨b, o + k * 2 + 1, none⟩ = some (.int .i64 (f k).n) ∧ w'.cell? ⟨b', o' + k * 2, none⟩ = some (.bool (g k).nul) ∧ w'.cell? ⟨b', o' + k * 2 + 1, none⟩ = some (.int .i64 (g k).n) ∧ Below wr.heap.size wr w')
        (first | exact init_four x0 x1 y0 y1 | exact keep_four (by assumption) hb1)
        (first | (go_at_call 58; refine (scompare_any _ _ _ _ _).mono ?_; rintro e w1 ⟨rfl, hb1⟩))
      have hS : Below wr.heap.size wr w1 := (by assumption : _ ∧ _ ∧ _ ∧ _ ∧ Below wr.heap.size wr w1).2.2.2.2
      have HS := Lib.hid (HB.out.trans (hS.mono HB.out.size))
      clear hS
      rw [cmpV_V]
      by_cases hz : (f k).cmp (g k) = 0
      · have hz' : ((f k).cmp (g k) == 0) = true := by simpa using hz
        have hz'' : ((f k).cmp (g k) != 0) = false := by simpa using hz
        have HN := Lib.hid (HQ.out.trans (lex_step f g N k hlt hz))
        clear hz
        go_wp2_with fail
        refine ⟨?_, by simp [intOf]; omega⟩
        first
          | exact ⟨k + 1, by omega, by go_num, HN.out, HS.out⟩
          | ((repeat apply Exists.intro); exact ⟨⟨k + 1, by omega, by go_num, HN.out, HS.out⟩, rfl⟩)
      · have hz' : ((f k).cmp (g k) == 0) = false := by simpa using hz
        have hz'' : ((f k).cmp (g k) != 0) = true := by simpa using hz
        have HN := Lib.hid (HQ.out.trans (lex_stop f g N k hlt hz))
        have hz3 := Lib.hid hz
        clear hz
        go_wp2_with fail
        go_ret
        exact ⟨ret_int (by rw [hs.out, HN.out, if_neg hz3.out]), HS.out⟩
    · obtain rfl : k = N := by omega
      have HN := Lib.hid (heq.trans (lex_end f g k))
      have HB := Lib.hid hB
      clear heq hB
      have hb1 : -2000000 ≤ (n : Int) - (m : Int) := by omega
      have hb2 : (n : Int) - (m : Int) ≤ 2000000 := by omega
      by_cases hkn : (k : Int) < (n : Int)
      · have hkm : ¬ (k : Int) < (m : Int) := by have := hor.out; omega
        go_wp2_with fail
        go_ret
        exact ⟨ret_int (by rw [hs.out, if_pos HN.out]), HB.out⟩
      · go_wp2_with fail
        go_ret
        exact ⟨ret_int (by rw [hs.out, if_pos HN.out]), HB.out⟩

def cmpRows (n m : Nat) (f g : Nat → M.V) : Int := if okRow n f = true ∧ okRow m g = true ∧ n = m then lexFrom f g n 0 else 2

theorem okRow_all {n : Nat} {f : Nat → M.V} (h : okRow n f = true) : ∀ i, i < n → (f i).ok = true := (of_decide_eq_true h).2.2

theorem validRow_lit {w : World} {A : Option Addr} {n c : Nat} {f : Nat → M.V} {x : Bool} (hA : RowAt w w.heap.size A n f) (hn : n ≤ 2000000) (h : okRow n f = x) :
    Calls Try.prog 63 #[.slice A n c] w fun e w' => e = .returned (.bool x) ∧ Below w.heap.size w w' := by
  subst h
  exact validRow_any w A n c f hA hn
theorem svalidRow_lit {w : World} {A : Option Addr} {n c : Nat} {f : Nat → M.V} {x : Bool} (hA : RowAt w w.heap.size A n f) (hn : n ≤ 2000000) (h : okRow n f = x) :
    Calls Try.prog 65 #[.slice A n c] w fun e w' => e = .returned (.bool x) ∧ Below w.heap.size w w' := by
  subst h
  exact svalidRow_any w A n c f hA hn
/-- A row in a later world. -/
theorem RowAt.on {w w' : World} {A : Option Addr} {n : Nat} {f : Nat → M.V} (h : RowAt w w.heap.size A n f) (hb : Below w.heap.size w w') : RowAt w' w'.heap.size A n f := (h.below hb).more hb.size

theorem CompareRows_any (w : World) (A A' : Option Addr) (n m c c' : Nat) (f g : Nat → M.V) (hA : RowAt w w.heap.size A n f) (hA' : RowAt w w.heap.size A' m g) (hn : n ≤ 2000000) (hm : m ≤ 2000000) :
    Calls Try.prog 21 #[.slice A n c, .slice A' m c'] w fun e w' => e = .returned (.int .i64 (cmpRows n m f g)) ∧ Below w.heap.size w w' := by
  have H1 := Lib.hid hA
  have H2 := Lib.hid hA'
  have HP := Lib.hid (show cmpRows n m f g = if okRow n f = true ∧ okRow m g = true ∧ n = m then lexFrom f g n 0 else 2 from rfl)
  clear hA hA'
  by_cases hnm : n = m
  · subst hnm
    have hB := Below.refl w.heap.size w
    by_cases h1 : okRow n f = true
    · by_cases h2 : okRow n g = true
      · have K1 := Lib.hid h1
        have K2 := Lib.hid h2
        clear h1 h2
        go_enter Try.func21, Try.ntmps21
        go_wp2_with fail
        refine (validRow_lit H1.out hn K1.out).mono ?_; rintro e w1 ⟨rfl, hb⟩
        replace hB := B_more hB hb
        clear hb
        go_wp2_with fail
        refine (validRow_lit (H2.out.on hB) hn K2.out).mono ?_; rintro e w2 ⟨rfl, hb⟩
        replace hB := B_more hB hb
        clear hb
        go_wp2_with fail
        refine (compareRows_any _ A A' n c c' f g (H1.out.on hB) (H2.out.on hB) hn (okRow_all K1.out) (okRow_all K2.out)).mono ?_; rintro e w3 ⟨rfl, hb⟩
        replace hB := B_more hB hb
        clear hb
        go_wp2_with fail
        go_ret
        exact ⟨ret_int (by rw [HP.out, if_pos ⟨K1.out, K2.out, (by trivial)⟩]), hB⟩
      · have K1 := Lib.hid h1
        have K2 := Lib.hid (Bool.eq_false_iff.2 h2)
        clear h1 h2
        go_enter Try.func21, Try.ntmps21
        go_wp2_with fail
        refine (validRow_lit H1.out hn K1.out).mono ?_; rintro e w1 ⟨rfl, hb⟩
        replace hB := B_more hB hb
        clear hb
        go_wp2_with fail
        refine (validRow_lit (H2.out.on hB) hn K2.out).mono ?_; rintro e w2 ⟨rfl, hb⟩
        replace hB := B_more hB hb
        clear hb
        go_wp2_with fail
        go_ret
        exact ⟨ret_int (by rw [HP.out, if_neg (by rw [K2.out]; simp)]), hB⟩
    · have K1 := Lib.hid (Bool.eq_false_iff.2 h1)
      clear h1
      go_enter Try.func21, Try.ntmps21
      go_wp2_with fail
      refine (validRow_lit H1.out hn K1.out).mono ?_; rintro e w1 ⟨rfl, hb⟩
      replace hB := B_more hB hb
      clear hb
      go_wp2_with fail
      go_ret
      exact ⟨ret_int (by rw [HP.out, if_neg (by rw [K1.out]; simp)]), hB⟩
  · have hd : decide ((n : Int) = (m : Int)) = false := by simpa using (by omega : ¬ (n : Int) = (m : Int))
    have hd1 : ((n : Int) == (m : Int)) = false := by simpa using (by omega : ¬ (n : Int) = (m : Int))
    have hd2 : ((n : Int) != (m : Int)) = true := by simpa using (by omega : ¬ (n : Int) = (m : Int))
    have HN := Lib.hid hnm
    clear hnm
    go_enter Try.func21, Try.ntmps21
    go_wp2_with fail
    go_ret
    exact ⟨ret_int (by rw [HP.out, if_neg (fun h => HN.out h.2.2)]), Below.refl _ _⟩

theorem slex_same (n : Nat) (f g : Nat → M.V) : slex n n f g = lexFrom f g n 0 := by
  unfold slex
  rw [Nat.min_self]
  split
  · rename_i h; rw [h]; omega
  · rfl

theorem sCompareRows_any (w : World) (A A' : Option Addr) (n m c c' : Nat) (f g : Nat → M.V) (hA : RowAt w w.heap.size A n f) (hA' : RowAt w w.heap.size A' m g) (hn : n ≤ 2000000) (hm : m ≤ 2000000) :
    Calls Try.prog 22 #[.slice A n c, .slice A' m c'] w fun e w' => e = .returned (.int .i64 (cmpRows n m f g)) ∧ Below w.heap.size w w' := by
  have H1 := Lib.hid hA
  have H2 := Lib.hid hA'
  have HP := Lib.hid (show cmpRows n m f g = if okRow n f = true ∧ okRow m g = true ∧ n = m then lexFrom f g n 0 else 2 from rfl)
  clear hA hA'
  have hB := Below.refl w.heap.size w
  by_cases h1 : okRow n f = true
  · by_cases h2 : okRow m g = true
    · have K1 := Lib.hid h1
      have K2 := Lib.hid h2
      clear h1 h2
      by_cases hnm : n = m
      · subst hnm
        have HS := Lib.hid (slex_same n f g)
        go_enter Try.func22, Try.ntmps22
        go_wp2_with fail
        refine (svalidRow_lit H1.out hn K1.out).mono ?_; rintro e w1 ⟨rfl, hb⟩
        replace hB := B_more hB hb
        clear hb
        go_wp2_with fail
        refine (svalidRow_lit (H2.out.on hB) hn K2.out).mono ?_; rintro e w2 ⟨rfl, hb⟩
        replace hB := B_more hB hb
        clear hb
        go_wp2_with fail
        refine (scompareRows_any _ A A' n n c c' f g (H1.out.on hB) (H2.out.on hB) hn hn).mono ?_; rintro e w3 ⟨rfl, hb⟩
        replace hB := B_more hB hb
        clear hb
        go_wp2_with fail
        go_ret
        exact ⟨ret_int (by rw [HS.out, HP.out, if_pos ⟨K1.out, K2.out, (by trivial)⟩]), hB⟩
      · have hd1 : ((n : Int) == (m : Int)) = false := by simpa using (by omega : ¬ (n : Int) = (m : Int))
        have hd2 : ((n : Int) != (m : Int)) = true := by simpa using (by omega : ¬ (n : Int) = (m : Int))
        have HN := Lib.hid hnm
        clear hnm
        go_enter Try.func22, Try.ntmps22
        go_wp2_with fail
        refine (svalidRow_lit H1.out hn K1.out).mono ?_; rintro e w1 ⟨rfl, hb⟩
        replace hB := B_more hB hb
        clear hb
        go_wp2_with fail
        refine (svalidRow_lit (H2.out.on hB) hm K2.out).mono ?_; rintro e w2 ⟨rfl, hb⟩
        replace hB := B_more hB hb
        clear hb
        go_wp2_with fail
        go_ret
        exact ⟨ret_int (by rw [HP.out, if_neg (fun h => HN.out h.2.2)]), hB⟩
    · have K1 := Lib.hid h1
      have K2 := Lib.hid (Bool.eq_false_iff.2 h2)
      clear h1 h2
      go_enter Try.func22, Try.ntmps22
      go_wp2_with fail
      refine (svalidRow_lit H1.out hn K1.out).mono ?_; rintro e w1 ⟨rfl, hb⟩
      replace hB := B_more hB hb
      clear hb
      go_wp2_with fail
      refine (svalidRow_lit (H2.out.on hB) hm K2.out).mono ?_; rintro e w2 ⟨rfl, hb⟩
      replace hB := B_more hB hb
      clear hb
      go_wp2_with fail
      go_ret
      exact ⟨ret_int (by rw [HP.out, if_neg (by rw [K2.out]; simp)]), hB⟩
  · have K1 := Lib.hid (Bool.eq_false_iff.2 h1)
    clear h1
    go_enter Try.func22, Try.ntmps22
    go_wp2_with fail
    refine (svalidRow_lit H1.out hn K1.out).mono ?_; rintro e w1 ⟨rfl, hb⟩
    replace hB := B_more hB hb
    clear hb
    go_wp2_with fail
    go_ret
    exact ⟨ret_int (by rw [HP.out, if_neg (by rw [K1.out]; simp)]), hB⟩

end Go.Proofs.Ytimmglcjjbmpdaa

/-
  The reader of codes: what is known of it in memory, and its walks.
-/
import Derived.Test.YtfbkbppaignofaaVal
import Derived.Deep.QuietTactic
import Derived.BigQuiet
import Derived.IntWalk
import Derived.Laws.BitsAllLaws
namespace Go.Proofs.Ytfbkbppaignofaa
open Go.RowKit

/-- The reader in block rb: a code of at most 2000 bytes, and a position of at most K. -/
def Rd (w : World) (B rb K : Nat) : Prop :=
  ∃ (A : Option Addr) (len cap p : Nat) (zs : Nat → Int), len ≤ 2000 ∧ p ≤ K ∧ rb < w.heap.size ∧ B ≤ rb ∧
    w.cell? ⟨rb, 0, none⟩ = some (.slice A len cap) ∧ w.cell? ⟨rb, 1, none⟩ = some (.int .i64 (p : Int)) ∧ w.frozen? ⟨rb, 1, none⟩ = false ∧
    (∀ i, 0 ≤ zs i ∧ zs i ≤ 255) ∧ (0 < len → ∃ cb co, A = some ⟨cb, co, none⟩ ∧ cb < B ∧ cb < w.heap.size ∧ ∀ i, i < len → w.cell? ⟨cb, co + i, none⟩ = some (.int .u8 (zs i)))

/-- The reader stands where the blocks up to its own stand. -/
theorem Rd.keep {w w' : World} {B rb K K' : Nat} (h : Rd w B rb K) (hk : ∀ k, k < B ∨ k = rb → w'.heap[k]? = w.heap[k]?) (hs : w.heap.size ≤ w'.heap.size) (hK : K ≤ K') : Rd w' B rb K' := by
  obtain ⟨A, len, cap, p, zs, hlen, hp, hrb, hB, h0, h1, hf, hz, hc⟩ := h
  have c : ∀ b o, b < B ∨ b = rb → w'.cell? ⟨b, o, none⟩ = w.cell? ⟨b, o, none⟩ := fun b o hb => World.cell?_of_block (a := ⟨b, o, none⟩) (hk b hb)
  refine ⟨A, len, cap, p, zs, hlen, by omega, by omega, hB, (c _ _ (.inr rfl)).trans h0, (c _ _ (.inr rfl)).trans h1, (World.frozen?_of_block (a := ⟨rb, 1, none⟩) (hk rb (.inr rfl))).trans hf, hz, fun hl => ?_⟩
  obtain ⟨cb, co, hA, hne, hlt, hcell⟩ := hc hl
  exact ⟨cb, co, hA, hne, by omega, fun i hi => (c _ _ (.inl hne)).trans (hcell i hi)⟩
theorem Rd.lt {w : World} {B rb K : Nat} (h : Rd w B rb K) : rb < w.heap.size := by
  obtain ⟨A, len, cap, p, zs, hlen, hp, hrb, _⟩ := h
  exact hrb
theorem Rd.base {w : World} {B rb K : Nat} (h : Rd w B rb K) : B ≤ rb := by
  obtain ⟨A, len, cap, p, zs, hlen, hp, hrb, hB, _⟩ := h
  exact hB
theorem Rd.alloc {w : World} {B rb K : Nat} (h : Rd w B rb K) (o : Obj) : Rd (w.alloc o) B rb K :=
  h.keep (fun k hk => Below.heap_alloc w o k (by have := h.lt; have := h.base; omega)) (by simp) (Nat.le_refl _)
theorem Rd.drewN {w : World} {B rb K : Nat} (h : Rd w B rb K) (n : Nat) : Rd (w.drewN n) B rb K := h
theorem Rd.drew {w : World} {B rb K : Nat} (h : Rd w B rb K) : Rd w.drew B rb K := h
theorem Rd.set {w : World} {B rb K : Nat} (h : Rd w B rb K) {a : Addr} (hb : B ≤ a.block) (ha : a.block ≠ rb) (v : Value) : Rd (w.setCell a v) B rb K :=
  h.keep (fun k hk => Below.heap_setCell w a v k (by omega)) (by simp [World.setCell]) (Nat.le_refl _)
theorem Rd.below {w w' : World} {B rb K : Nat} (h : Rd w B rb K) (hb : Below w.heap.size w w') : Rd w' B rb K :=
  h.keep (fun k hk => hb.block k (by have := h.lt; have := h.base; omega)) hb.size (Nat.le_refl _)
theorem Rd.mono {w : World} {B rb K K' : Nat} (h : Rd w B rb K) (hK : K ≤ K') : Rd w B rb K' := h.keep (fun _ _ => rfl) (Nat.le_refl _) hK

/-- Steps of what a draw leaves: only the reader's block, of those that were there, may have turned. -/
theorem G_alloc {w x : World} {rb : Nat} (h : w.grownBy x (some rb)) (o : Obj) : w.grownBy (x.alloc o) (some rb) :=
  ⟨h.os, h.tape, h.output, by have := h.size; simp; omega, fun k hk hne => (Below.heap_alloc x o k (by have := h.size; omega)).trans (h.block k hk hne)⟩
theorem G_drewN {w x : World} {rb : Nat} (h : w.grownBy x (some rb)) (n : Nat) : w.grownBy (x.drewN n) (some rb) := ⟨h.os, h.tape, h.output, h.size, h.block⟩
theorem G_drew {w x : World} {rb : Nat} (h : w.grownBy x (some rb)) : w.grownBy x.drew (some rb) := ⟨h.os, h.tape, h.output, h.size, h.block⟩
theorem G_set {w x : World} {rb : Nat} (h : w.grownBy x (some rb)) {a : Addr} (ha : w.heap.size ≤ a.block) (v : Value) : w.grownBy (x.setCell a v) (some rb) :=
  ⟨h.os, h.tape, h.output, by simpa [World.setCell] using h.size, fun k hk hne => (Below.heap_setCell x a v k (by omega)).trans (h.block k hk hne)⟩
theorem G_more {w x y : World} {rb : Nat} (h : w.grownBy x (some rb)) (k : x.grownBy y (some rb)) : w.grownBy y (some rb) :=
  ⟨k.os.trans h.os, k.tape.trans h.tape, k.output.trans h.output, Nat.le_trans h.size k.size, fun i hi hne => (k.block i (by have := h.size; omega) hne).trans (h.block i hi hne)⟩
theorem G_below {w x y : World} {rb : Nat} (h : w.grownBy x (some rb)) (k : Below x.heap.size x y) : w.grownBy y (some rb) :=
  ⟨k.os.trans h.os, k.tape.trans h.tape, k.output.trans h.output, Nat.le_trans h.size k.size, fun i hi hne => (k.block i (by have := h.size; omega)).trans (h.block i hi hne)⟩
/-- A block of one's own behind a draw. -/
theorem own_step {x y : World} {rb : Nat} (h : x.grownBy y (some rb)) {b : Nat} (hb : b ≠ rb) (hs : b < x.heap.size) :
    (∀ o, y.cell? ⟨b, o, none⟩ = x.cell? ⟨b, o, none⟩) ∧ (∀ o, y.frozen? ⟨b, o, none⟩ = x.frozen? ⟨b, o, none⟩) ∧ b < y.heap.size := by
  have e : y.heap[b]? = x.heap[b]? := h.block b hs (by intro e; injection e with e; exact hb e)
  exact ⟨fun o => World.cell?_of_block (a := ⟨b, o, none⟩) e, fun o => World.frozen?_of_block (a := ⟨b, o, none⟩) e, Nat.lt_of_lt_of_le hs h.size⟩

theorem Rd_next {w : World} {B rb K len cap p : Nat} {A : Option Addr} {zs : Nat → Int} (hlen : len ≤ 2000) (hp : p ≤ K) (hrb : rb < w.heap.size) (hB : B ≤ rb)
    (h0 : w.cell? ⟨rb, 0, none⟩ = some (.slice A len cap)) (h1 : w.cell? ⟨rb, 1, none⟩ = some (.int .i64 (p : Int))) (hf : w.frozen? ⟨rb, 1, none⟩ = false)
    (hz : ∀ i, 0 ≤ zs i ∧ zs i ≤ 255) (hc : 0 < len → ∃ cb co, A = some ⟨cb, co, none⟩ ∧ cb < B ∧ cb < w.heap.size ∧ ∀ i, i < len → w.cell? ⟨cb, co + i, none⟩ = some (.int .u8 (zs i))) (n : Nat) :
    Rd ((w.setCell ⟨rb, 1, none⟩ (.int .i64 ((p : Int) + 1))).drewN n) B rb (K + 1) := by
  refine ⟨A, len, cap, p + 1, zs, hlen, by omega, by simpa [World.setCell] using hrb, hB, ?_, ?_, ?_, hz, fun hl => ?_⟩
  · show (w.setCell ⟨rb, 1, none⟩ (.int .i64 ((p : Int) + 1))).cell? ⟨rb, 0, none⟩ = _
    rw [World.cell?_setCell_other _ _ _ _ (by simp)]
    exact h0
  · show (w.setCell ⟨rb, 1, none⟩ (.int .i64 ((p : Int) + 1))).cell? ⟨rb, 1, none⟩ = _
    rw [World.cell?_setCell_same w _ _ h1]
    simp
  · show (w.setCell ⟨rb, 1, none⟩ (.int .i64 ((p : Int) + 1))).frozen? ⟨rb, 1, none⟩ = _
    rw [World.frozen?_setCell]
    exact hf
  · obtain ⟨cb, co, hA, hne, hlt, hcell⟩ := hc hl
    refine ⟨cb, co, hA, hne, by simpa [World.setCell] using hlt, fun i hi => ?_⟩
    show (w.setCell ⟨rb, 1, none⟩ (.int .i64 ((p : Int) + 1))).cell? ⟨cb, co + i, none⟩ = _
    rw [World.cell?_setCell_other _ _ _ _ (by intro e; injection e with e1 _ _; omega)]
    exact hcell i hi

theorem grown_next (w : World) (rb : Nat) (v : Value) (n : Nat) : w.grownBy ((w.setCell ⟨rb, 1, none⟩ v).drewN n) (some rb) := by
  refine ⟨rfl, rfl, rfl, by simp [World.setCell, World.drewN], fun k _ hne => ?_⟩
  show (w.setCell ⟨rb, 1, none⟩ v).heap[k]? = _
  exact Below.heap_setCell _ _ _ _ (by intro e; exact hne (by rw [e]))

theorem xor_nonneg (a b : Int) (ha : 0 ≤ a) (ha' : a < 4611686018427387904) (hb : 0 ≤ b) (hb' : b < 4611686018427387904) : 0 ≤ bits .xor .i64 a b := by
  obtain ⟨A, rfl⟩ := Int.eq_ofNat_of_zero_le ha
  obtain ⟨B, rfl⟩ := Int.eq_ofNat_of_zero_le hb
  have hx : A ^^^ B < 2 ^ 62 := Nat.xor_lt_two_pow (by omega) (by omega)
  show 0 ≤ IntKind.i64.wrap ((BitVec.ofInt 64 (A : Int) ^^^ BitVec.ofInt 64 (B : Int)).toNat : Int)
  rw [BitVec.toNat_xor, ofInt_u64 A (by omega), ofInt_u64 B (by omega)]
  simp [IntKind.wrap, IntKind.bits, IntKind.signed]
  omega

theorem tmod_range (x n : Int) (hx : 0 ≤ x) (hn : 1 ≤ n) : 0 ≤ x.tmod n ∧ x.tmod n < n := by
  rw [Int.tmod_eq_emod_of_nonneg hx]
  exact ⟨Int.emod_nonneg _ (by omega), Int.emod_lt_of_pos _ (by omega)⟩

def PickPost (w : World) (B rb K : Nat) (n : Int) (e : Ending) (w' : World) : Prop :=
  ∃ x : Int, e = .returned (.int .i64 x) ∧ 0 ≤ x ∧ (1 ≤ n → x < n) ∧ (n < 1 → x = 0) ∧ Rd w' B rb (K + 1) ∧ w.grownBy w' (some rb)

theorem pick_any (w : World) (B rb K : Nat) (n : Int) (hn : n ≤ 1000000) (hn0 : -1000000 ≤ n) (hK : K ≤ 1000000000) (hr : Rd w B rb K) :
    Calls Try.prog 32 #[.pointer (some ⟨rb, 0, none⟩), .int .i64 n] w (PickPost w B rb K n) := by
  obtain ⟨A, len, cap, p, zs, hlen, hp, hrb, hB, h0, h1, hf, hz, hc⟩ := hr
  have hp0 : (p : Int) ≤ 1000000000 := by omega
  have hrd := Lib.hid (fun m => Rd_next hlen hp hrb hB h0 h1 hf hz hc m)
  by_cases hn1 : n < 1
  · clear hc
    go_enter Try.func32, Try.ntmps32
    go_wp2
    go_ret
    exact ⟨_, rfl, Int.le_refl _, by omega, fun _ => rfl, hrd.out 0, grown_next _ _ _ 0⟩
  · by_cases hl : len = 0
    · subst hl
      clear hc
      go_enter Try.func32, Try.ntmps32
      go_wp2
      go_ret
      exact ⟨_, rfl, Int.le_refl _, by omega, fun _ => rfl, hrd.out 0, grown_next _ _ _ 0⟩
    · obtain ⟨cb, co, rfl, hcr, hcs, hcell⟩ := hc (by omega)
      by_cases hpl : p < len
      · have g := hcell p hpl
        have hz1 := hz p
        obtain ⟨u, hu⟩ : ∃ u, u = zs p := ⟨_, rfl⟩
        rw [← hu] at hz1 g
        clear hcell hc hu hz
        obtain ⟨hz10, hz11⟩ := hz1
        have H : 0 ≤ u % n ∧ u % n < n := ⟨Int.emod_nonneg _ (by omega), Int.emod_lt_of_pos _ (by omega)⟩
        replace H := Lib.hid H
        go_enter Try.func32, Try.ntmps32
        go_wp2
        go_ret
        exact ⟨_, rfl, H.out.1, fun _ => H.out.2, by omega, hrd.out 0, grown_next _ _ _ 0⟩
      · have hl0 : 0 < len := Nat.pos_of_ne_zero hl
        obtain ⟨i, hi⟩ : ∃ i, i = p % len := ⟨_, rfl⟩
        obtain ⟨j, hj⟩ : ∃ j, j = (7 * p + 3) % len := ⟨_, rfl⟩
        have hil : i < len := by rw [hi]; exact Nat.mod_lt _ hl0
        have hjl : j < len := by rw [hj]; exact Nat.mod_lt _ hl0
        have g := hcell i hil
        have g2 := hcell j hjl
        have e1 : (p : Int).tmod (len : Int) = (i : Int) := by rw [hi]; exact (Int.ofNat_tmod p len).symm
        have e2 : ((p : Int) * 7 + 3).tmod (len : Int) = (j : Int) := by
          have : ((p : Int) * 7 + 3) = ((7 * p + 3 : Nat) : Int) := by omega
          rw [this, hj]
          exact (Int.ofNat_tmod _ _).symm
        have e3 : (p : Int).tdiv (len : Int) = ((p / len : Nat) : Int) := (Int.ofNat_tdiv p len).symm
        obtain ⟨q, hq⟩ : ∃ q, q = p / len := ⟨_, rfl⟩
        rw [← hq] at e3
        have hqp : q ≤ p := by rw [hq]; exact Nat.div_le_self _ _
        have hil' : (i : Int) < (len : Int) := by omega
        have hjl' : (j : Int) < (len : Int) := by omega
        have hz1 := hz i
        have hz2 := hz j
        obtain ⟨u, hu⟩ : ∃ u, u = zs i := ⟨_, rfl⟩
        obtain ⟨v, hv⟩ : ∃ v, v = zs j := ⟨_, rfl⟩
        rw [← hu] at hz1 g
        rw [← hv] at hz2 g2
        clear hcell hc hi hj hq hu hv hz
        obtain ⟨hz10, hz11⟩ := hz1
        obtain ⟨hz20, hz21⟩ := hz2
        go_enter Try.func32, Try.ntmps32
        go_wp2
        go_quiet (fail)
        go_wp2
        go_ret
        have H := tmod_range (bits BinOp.xor IntKind.i64 (u * 131 + v * 1117 + ↑p * 29 + ↑q * 53) ((u * 131 + v * 1117 + ↑p * 29 + ↑q * 53) / 64)) n (xor_nonneg _ _ (by omega) (by omega) (by omega) (by omega)) (by omega)
        exact ⟨_, rfl, H.1, fun _ => H.2, by omega, hrd.out _, grown_next _ _ _ _⟩

def OnePost (w : World) (B rb K : Nat) (l : Nat → Int) (n : Nat) (e : Ending) (w' : World) : Prop :=
  ∃ i, i < n ∧ e = .returned (.int .i64 (l i)) ∧ Rd w' B rb (K + 1) ∧ w.grownBy w' (some rb)

theorem one_any (w : World) (B rb K : Nat) (lb n cap : Nat) (l : Nat → Int) (hn0 : 0 < n) (hn : n ≤ 1000) (hK : K ≤ 1000000000) (hr : Rd w B rb K) (hlb : lb ≠ rb) (hls : lb < w.heap.size)
    (hl : ∀ i, i < n → w.cell? ⟨lb, i, none⟩ = some (.int .i64 (l i))) :
    Calls Try.prog 51 #[.pointer (some ⟨rb, 0, none⟩), .slice (some ⟨lb, 0, none⟩) n cap] w (OnePost w B rb K l n) := by
  have hl := Lib.hid hl
  have hrr := Lib.hid hr
  clear hr
  go_enter Try.func51, Try.ntmps51
  go_wp2_with fail
  refine (pick_any w B rb K n (by omega) (by omega) hK hrr.out).mono ?_
  rintro e w1 ⟨x, rfl, hx0, hx1, _, hr1, hg⟩
  have hx1 := hx1 (by omega)
  obtain ⟨i, rfl⟩ := Int.eq_ofNat_of_zero_le hx0
  have hin : i < n := by omega
  have g := ((own_step hg hlb hls).1 i).trans (hl.out i hin)
  have hrr1 := Lib.hid hr1
  have hgg := Lib.hid hg
  clear hr1 hg
  go_wp2_with fail
  go_ret
  exact ⟨i, hin, rfl, hrr1.out, hgg.out⟩

def ValPost (w : World) (B rb K : Nat) (e : Ending) (w' : World) : Prop :=
  ∃ b n, e = .returned (.agg #[.bool b, .int .i64 n]) ∧ Rd w' B rb K ∧ w.grownBy w' (some rb)

theorem randomValue_any (w : World) (B rb K : Nat) (hK : K ≤ 100000000) (hr : Rd w B rb K) :
    Calls Try.prog 64 #[.pointer (some ⟨rb, 0, none⟩)] w (ValPost w B rb (K + 2)) := by
  have hlt := hr.lt
  have hbase := hr.base
  have hne : w.heap.size ≠ rb := by omega
  have hr0 := Lib.hid (hr.alloc (.cells #[.bool false, .int .i64 0] 24))
  clear hr
  go_enter Try.func64, Try.ntmps64
  go_wp2_with fail
  refine (pick_any _ B rb K 5 (by omega) (by omega) (by omega) hr0.out).mono ?_
  rintro e w1 ⟨x, rfl, hx0, hx1, _, hr1, hg⟩
  obtain ⟨hc, hf, hz⟩ := own_step (b := w.heap.size) hg hne (by simp)
  have hg0 := Lib.hid (G_more (G_alloc (World.grownBy.refl w (some rb)) _) hg)
  have hrr := Lib.hid hr1
  clear hg hr1 hr0
  by_cases hx : x = 0
  · subst hx
    go_wp2_with fail
    exact bodyPost_ret (v := .agg #[.bool true, .int .i64 0]) (by simp [results, Try.results64, go_sem, hc]) rfl
      ⟨true, 0, rfl, ((hrr.out.set (by simp; omega) (by simp; omega) _).set (by simp; omega) (by simp; omega) _).mono (by omega), G_set (G_set hg0.out (by simp) _) (by simp) _⟩
  · go_wp2_with fail
    have hr2 := hrr.out.alloc (.cells #[.int .i64 0, .int .i64 1, .int .i64 2, .int .i64 3, .int .i64 (-1)] 3)
    refine (one_any _ B rb (K + 1) w1.heap.size 5 5 (fun i => [0, 1, 2, 3, -1].getD i 0) (by omega) (by omega) (by omega) hr2 (by have := hrr.out.lt; omega) (by simp) ?_).mono ?_
    · intro i hi
      match i, hi with
      | 0, _ => simp
      | 1, _ => simp
      | 2, _ => simp
      | 3, _ => simp
      | 4, _ => simp
    rintro e w2 ⟨i, hi, rfl, hr3, hg3⟩
    have hg4 := Lib.hid (G_more (G_alloc hg0.out _) hg3)
    obtain ⟨hc2, hf2, hz2⟩ := own_step (b := w.heap.size) hg3 hne (by simp; omega)
    have hrr3 := Lib.hid hr3
    obtain ⟨y, hy⟩ : ∃ y, y = (fun i => [0, 1, 2, 3, -1].getD i 0 : Nat → Int) i := ⟨_, rfl⟩
    rw [← hy]
    clear hy hr3 hg3 hr2
    go_wp2_with fail
    exact bodyPost_ret (v := .agg #[.bool false, .int .i64 y]) (by simp [results, Try.results64, go_sem, hc, hz, hc2]) rfl
      ⟨false, y, rfl, ((hrr3.out.set (by simp; omega) (by simp; omega) _).set (by simp; omega) (by simp; omega) _), G_set (G_set hg4.out (by simp) _) (by simp) _⟩

end Go.Proofs.Ytfbkbppaignofaa

/-
  The reader of a code: what its functions do. No condition.
-/
import Derived.Test.YtibaamlhjpmjeaaDca
import Derived.Test.YtibaamlhjpmjeaaDcb
import Derived.Test.YtibaamlhjpmjeaaVLib
set_option maxHeartbeats 4000000
set_option maxRecDepth 100000
namespace Go.Proofs.Ytibaamlhjpmjeaa
open Go.RowKit

theorem newReader_ok (bs : List Nat) : Does Try.prog 40 [] [bytesD bs] (.ref 1000000 0) [rdD (bs.take 2000) 0] := by
  refine does c_spec_newReader mixed (Nat.le_of_ble_eq_true rfl) 0 rfl ?_
  conv => arg 3; whnf
  repeat' (first | with_reducible refine acc_none ?_ | (conv in hold _ => simp (disch := omega) only [go_sem, bytesD]) | refine Stp.go ?_ | (with_reducible first | refine it_pos rfl ?_ | refine it_neg (by decide) ?_ | refine st_nil rfl ?_ | refine s_op ?_ ?_ | exact True.intro) | ((with_reducible first | refine dw_reg0 ?_ | refine dw_regB ?_); (conv => arg 3; whnf)) | (refine Spl.go (fun hq he => ?_) (fun hq he => ?_) <;> first | (exfalso; clear hq; omega) | ((try (first | (conv => arg 8; simp only [hq]) | (conv => arg 4; simp only [hq]))); clear hq)) | ((with_reducible first | refine c_split (fun hq => ?_) (fun hq => ?_) | refine q_split (fun hq => ?_) (fun hq => ?_)) <;> (try (first | (conv => arg 8; simp only [hq]) | (conv => arg 4; simp only [hq])))) | (with_reducible refine fin_0 ?_ (by first | rfl | (conv => lhs; simp only [go_sem, bytesD])) ?_) | exact Sub.refl _ | omega)
  · refine fin_L [2000010] ?_ ?_ rfl ?_
    repeat' (first | (conv in hold _ => simp (disch := omega) only [go_sem, bytesD]) | exact True.intro | exact Sub.refl _ | omega)
    rw [List.map_take]; rfl
  · have e : bs.take 2000 = bs := List.take_of_length_le (by omega)
    rw [e]
    refine fin_L [2000010] ?_ ?_ rfl ?_
    repeat' (first | (conv in hold _ => simp (disch := omega) only [go_sem, bytesD]) | exact True.intro | exact Sub.refl _ | omega)
    rfl
theorem pick_ok {bs : List Nat} (hs : Src bs) (p : Nat) (hp : p < 1000000000) (n : Int) (hn : n < 1000000000) :
    ∃ v : Int, Does Try.prog 43 [rdD bs p] [.ref 1000000 0, I n] (I v) [rdD bs (p + 1)] ∧ 0 ≤ v ∧ (1 ≤ n → v < n) ∧ (n < 1 → v = 0) := by
  have hbs := hs.byte
  have hl := hs.len
  have hat : ∀ k : Nat, k < bs.length → ∃ b : Nat, bs[k]? = some b ∧ b < 256 := fun k hk => ⟨bs[k], List.getElem?_eq_getElem hk, hbs _ (List.getElem_mem hk)⟩
  by_cases hn1 : n < 1
  · refine ⟨0, ?_, by omega, by omega, fun _ => rfl⟩
    refine does c_spec_preader_pick mixed (Nat.le_of_ble_eq_true rfl) 1 rfl ?_
    conv => arg 3; whnf
    repeat' (first | with_reducible refine acc_none ?_ | (conv in hold _ => simp (disch := omega) only [go_sem, bytesD, rdD]) | refine Stp.go ?_ | (with_reducible first | refine it_pos rfl ?_ | refine it_neg (by decide) ?_ | refine st_nil rfl ?_ | refine s_op ?_ ?_ | exact True.intro) | ((with_reducible first | refine dw_reg0 ?_ | refine dw_regB ?_); (conv => arg 3; whnf)) | (refine Spl.go (fun hq he => ?_) (fun hq he => ?_) <;> first | (exfalso; clear hq; omega) | ((try (first | (conv => arg 8; simp only [hq]) | (conv => arg 4; simp only [hq]))); clear hq)) | ((with_reducible first | refine c_split (fun hq => ?_) (fun hq => ?_) | refine q_split (fun hq => ?_) (fun hq => ?_)) <;> (try (first | (conv => arg 8; simp only [hq]) | (conv => arg 4; simp only [hq])))) | (with_reducible refine fin_0 ?_ (by first | rfl | (conv => lhs; simp only [go_sem, bytesD, rdD])) ?_) | exact Sub.refl _ | omega)
    refine fin_L [1000000] ?_ ?_ rfl ?_
    repeat' (first | (conv in hold _ => simp (disch := omega) only [go_sem, bytesD]) | exact True.intro | exact Sub.refl _ | omega)
  · by_cases hb : bs.length = 0
    · refine ⟨0, ?_, by omega, by omega, fun _ => rfl⟩
      refine does c_spec_preader_pick mixed (Nat.le_of_ble_eq_true rfl) 1 rfl ?_
      conv => arg 3; whnf
      repeat' (first | with_reducible refine acc_none ?_ | (conv in hold _ => simp (disch := omega) only [go_sem, bytesD, rdD]) | refine Stp.go ?_ | (with_reducible first | refine it_pos rfl ?_ | refine it_neg (by decide) ?_ | refine st_nil rfl ?_ | refine s_op ?_ ?_ | exact True.intro) | ((with_reducible first | refine dw_reg0 ?_ | refine dw_regB ?_); (conv => arg 3; whnf)) | (refine Spl.go (fun hq he => ?_) (fun hq he => ?_) <;> first | (exfalso; clear hq; omega) | ((try (first | (conv => arg 8; simp only [hq]) | (conv => arg 4; simp only [hq]))); clear hq)) | ((with_reducible first | refine c_split (fun hq => ?_) (fun hq => ?_) | refine q_split (fun hq => ?_) (fun hq => ?_)) <;> (try (first | (conv => arg 8; simp only [hq]) | (conv => arg 4; simp only [hq])))) | (with_reducible refine fin_0 ?_ (by first | rfl | (conv => lhs; simp only [go_sem, bytesD, rdD])) ?_) | exact Sub.refl _ | omega)
      refine fin_L [1000000] ?_ ?_ rfl ?_
      repeat' (first | (conv in hold _ => simp (disch := omega) only [go_sem, bytesD]) | exact True.intro | exact Sub.refl _ | omega)
    · have e : (p : Int) + 1 - 1 = p := by omega
      by_cases hpl : p < bs.length
      · obtain ⟨b, hb, hb2⟩ := hat p hpl
        have h1 := Int.tmod_lt_of_pos (b : Int) (show 0 < n by omega)
        have h2 := Int.tmod_nonneg n (show (0 : Int) ≤ (b : Int) by omega)
        refine ⟨(b : Int).tmod n, ?_, by omega, by omega, by omega⟩
        refine does c_spec_preader_pick mixed (Nat.le_of_ble_eq_true rfl) 1 rfl ?_
        conv => arg 3; whnf
        repeat' (first | with_reducible refine acc_none ?_ | (conv in hold _ => simp (disch := omega) only [go_sem, bytesD, rdD, e, List.getElem?_map, hb, Option.map_some, byteD]) | refine Stp.go ?_ | (with_reducible first | refine it_pos rfl ?_ | refine it_neg (by decide) ?_ | refine st_nil rfl ?_ | refine s_op ?_ ?_ | exact True.intro) | ((with_reducible first | refine dw_reg0 ?_ | refine dw_regB ?_); (conv => arg 3; whnf)) | (refine Spl.go (fun hq he => ?_) (fun hq he => ?_) <;> first | (exfalso; clear hq; omega) | ((try (first | (conv => arg 8; simp only [hq]) | (conv => arg 4; simp only [hq]))); clear hq)) | ((with_reducible first | refine c_split (fun hq => ?_) (fun hq => ?_) | refine q_split (fun hq => ?_) (fun hq => ?_)) <;> (try (first | (conv => arg 8; simp only [hq]) | (conv => arg 4; simp only [hq])))) | (with_reducible refine fin_0 ?_ (by first | rfl | (conv => lhs; simp only [go_sem, bytesD, rdD, e, List.getElem?_map, hb, Option.map_some, byteD])) ?_) | exact Sub.refl _ | omega)
        refine fin_L [1000000] ?_ ?_ rfl ?_
        repeat' (first | (conv in hold _ => simp (disch := omega) only [go_sem, bytesD]) | exact True.intro | exact Sub.refl _ | omega)
      · have hl1 := Int.tmod_lt_of_pos (p : Int) (show (0 : Int) < bs.length by omega)
        have hl2 := Int.tmod_nonneg bs.length (show (0 : Int) ≤ p by omega)
        have hm1 := Int.tmod_lt_of_pos ((p : Int) * 7 + 3) (show (0 : Int) < bs.length by omega)
        have hm2 := Int.tmod_nonneg bs.length (show (0 : Int) ≤ (p : Int) * 7 + 3 by omega)
        obtain ⟨b1, hb1, hb1'⟩ := hat ((p : Int).tmod bs.length).toNat (by omega)
        obtain ⟨b2, hb2, hb2'⟩ := hat (((p : Int) * 7 + 3).tmod bs.length).toNat (by omega)
        have hd1 : (0 : Int) ≤ (p : Int).tdiv bs.length := Int.tdiv_nonneg (by omega) (by omega)
        have hd2 : (p : Int).tdiv bs.length ≤ p := Int.tdiv_le_self _ (by omega)
        have hx0 : (0 : Int) ≤ (b1 : Int) * 131 + (b2 : Int) * 1117 + (p : Int) * 29 + (p : Int).tdiv bs.length * 53 := by omega
        have hx1 : (b1 : Int) * 131 + (b2 : Int) * 1117 + (p : Int) * 29 + (p : Int).tdiv bs.length * 53 < 1099511627776 := by omega
        have hy0 : (0 : Int) ≤ ((b1 : Int) * 131 + (b2 : Int) * 1117 + (p : Int) * 29 + (p : Int).tdiv bs.length * 53).tdiv 64 := Int.tdiv_nonneg hx0 (by omega)
        have hy1 : ((b1 : Int) * 131 + (b2 : Int) * 1117 + (p : Int) * 29 + (p : Int).tdiv bs.length * 53).tdiv 64 ≤ (b1 : Int) * 131 + (b2 : Int) * 1117 + (p : Int) * 29 + (p : Int).tdiv bs.length * 53 := Int.tdiv_le_self _ hx0
        have hw : IntKind.i64.wrap (((b1 : Int) * 131 + (b2 : Int) * 1117 + (p : Int) * 29 + (p : Int).tdiv bs.length * 53).tdiv 64) = ((b1 : Int) * 131 + (b2 : Int) * 1117 + (p : Int) * 29 + (p : Int).tdiv bs.length * 53).tdiv 64 := wrap64 (by omega) (by omega)
        have hxr := xor_range hx0 hx1 hy0 (by omega)
        refine ⟨(intBit .xor .i64 ((b1 : Int) * 131 + (b2 : Int) * 1117 + (p : Int) * 29 + (p : Int).tdiv bs.length * 53) (((b1 : Int) * 131 + (b2 : Int) * 1117 + (p : Int) * 29 + (p : Int).tdiv bs.length * 53).tdiv 64)).tmod n, ?_, Int.tmod_nonneg n hxr, fun h => Int.tmod_lt_of_pos _ (by omega), fun h => by omega⟩
        refine does c_spec_preader_pick mixed (Nat.le_of_ble_eq_true rfl) 1 rfl ?_
        conv => arg 3; whnf
        repeat' (first | with_reducible refine acc_none ?_ | (conv in hold _ => simp (disch := omega) only [go_sem, bytesD, rdD, e, List.getElem?_map, hb1, hb2, Option.map_some, byteD, hw]) | refine Stp.go ?_ | (with_reducible first | refine it_pos rfl ?_ | refine it_neg (by decide) ?_ | refine st_nil rfl ?_ | refine s_op ?_ ?_ | exact True.intro) | ((with_reducible first | refine dw_reg0 ?_ | refine dw_regB ?_); (conv => arg 3; whnf)) | (refine Spl.go (fun hq he => ?_) (fun hq he => ?_) <;> first | (exfalso; clear hq; omega) | ((try (first | (conv => arg 8; simp only [hq]) | (conv => arg 4; simp only [hq]))); clear hq)) | ((with_reducible first | refine c_split (fun hq => ?_) (fun hq => ?_) | refine q_split (fun hq => ?_) (fun hq => ?_)) <;> (try (first | (conv => arg 8; simp only [hq]) | (conv => arg 4; simp only [hq])))) | (with_reducible refine fin_0 ?_ (by first | rfl | (conv => lhs; simp only [go_sem, bytesD, rdD, e, List.getElem?_map, hb1, hb2, Option.map_some, byteD, hw])) ?_) | exact Sub.refl _ | omega)
        refine fin_L [1000000] ?_ ?_ rfl ?_
        repeat' (first | (conv in hold _ => simp (disch := omega) only [go_sem, bytesD]) | exact True.intro | exact Sub.refl _ | omega)
theorem one_ok {bs : List Nat} (hs : Src bs) (p : Nat) (hp : p < 1000000000) (xs : List Int) (hx : 0 < xs.length) (hxl : xs.length < 1000) :
    ∃ v : Int, Does Try.prog 61 [rdD bs p] [.ref 1000000 0, .sl 1 (xs.map I)] (I v) [rdD bs (p + 1)] ∧ v ∈ xs := by
  obtain ⟨k, hk, h0, h1, _⟩ := pick_ok hs p hp xs.length (by omega)
  have h1 := h1 (by omega)
  have hkx : k.toNat < xs.length := by omega
  have e := List.getElem?_eq_getElem hkx
  refine ⟨xs[k.toNat], ?_, List.getElem_mem hkx⟩
  refine does c_spec_preader_one mixed (Nat.le_of_ble_eq_true rfl) 1 rfl ?_
  conv => arg 3; whnf
  repeat' (first
    | with_reducible refine acc_none ?_ | (conv in hold _ => simp (disch := omega) only [go_sem, rdD, List.getElem?_map, e, Option.map_some]) | refine Stp.go ?_ | (with_reducible first | refine it_pos rfl ?_ | refine it_neg (by decide) ?_ | refine st_nil rfl ?_ | refine s_op ?_ ?_ | exact True.intro) | ((with_reducible first | refine dw_reg0 ?_ | refine dw_regB ?_); (conv => arg 3; whnf)) | (refine Spl.go (fun hq he => ?_) (fun hq he => ?_) <;> first | (exfalso; clear hq; omega) | ((try (first | (conv => arg 8; simp only [hq]) | (conv => arg 4; simp only [hq]))); clear hq)) | ((with_reducible first | refine c_split (fun hq => ?_) (fun hq => ?_) | refine q_split (fun hq => ?_) (fun hq => ?_)) <;> (try (first | (conv => arg 8; simp only [hq]) | (conv => arg 4; simp only [hq])))) | (with_reducible refine fin_0 ?_ (by first | rfl | (conv => lhs; simp only [go_sem, rdD, List.getElem?_map, e, Option.map_some])) ?_)
    | (with_reducible show evC _ _ _ _ _ _ _ _ _ _ _ _
       first
       | (refine c_doesR [1000000] (hk) (callOK_of rfl (Nat.le_of_ble_eq_true rfl) rfl ?_ ?_) ?_ ?_
          iterate 2 · repeat' (first | (conv in hold _ => simp (disch := omega) only [go_sem, rdD, List.getElem?_map, e, Option.map_some]) | exact True.intro | exact Sub.refl _ | omega)
          · ((conv => rhs; simp (disch := omega) only [go_sem, rdD, List.getElem?_map, e, Option.map_some]); try rfl)))
    | exact Sub.refl _ | omega)
  refine fin_L [1000000] ?_ ?_ rfl ?_
  repeat' (first | (conv in hold _ => simp (disch := omega) only [go_sem]) | exact True.intro | exact Sub.refl _ | omega)
end Go.Proofs.Ytibaamlhjpmjeaa

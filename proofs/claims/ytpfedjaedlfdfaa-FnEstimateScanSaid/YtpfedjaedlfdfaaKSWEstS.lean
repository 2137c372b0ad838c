/-
  The law that scans are estimated exactly. No condition.
-/
import Derived.Test.YtpfedjaedlfdfaaJSDcWEstS
import Derived.Test.YtpfedjaedlfdfaaKSDca
import Derived.Test.YtpfedjaedlfdfaaKSVDrawU
import Derived.Test.YtpfedjaedlfdfaaJSV0
import Derived.Test.YtpfedjaedlfdfaaJSVCall
set_option maxHeartbeats 4000000
set_option maxRecDepth 100000
set_option linter.unusedVariables false
set_option linter.unusedSimpArgs false
namespace Go.Proofs.Ytpfedjaedlfdfaa
open Go.RowKit
def scan0 : Pl := .mk 1 0 [] [] []
def uni0 : Pl := .mk 6 0 [] [] [scan0, scan0]
theorem scan0_f : fields scan0 := by unfold fields scan0; simp [Pl.k, Pl.t, Pl.es, Pl.cs, Pl.ks]
theorem uni0_f : fields uni0 := by unfold fields uni0; simp [Pl.k, Pl.t, Pl.es, Pl.cs, Pl.ks]
theorem scan0_w {ws : List Int} (hw : wsOk ws) : ∃ n : Int, (1 ≤ n ∧ n ≤ 6) ∧ (∀ d : Nat, d < 1000 → Does Try.prog 54 [] [pD scan0, intsD ws, I d] (I n) [] ∧ Does Try.prog 36 [] [pD scan0, intsD ws, I d] (I n) []) := by
  refine ⟨scanV ws 0, ?_, fun d hd => ⟨planWidth_scan scan0 ws hw d scan0_f rfl, widthWithin_scan scan0 ws hw d scan0_f rfl⟩⟩
  obtain ⟨⟨h1, h2⟩, h3⟩ := hw
  obtain ⟨w, hw⟩ : ∃ w, ws[0]? = some w := ⟨_, List.getElem?_eq_getElem (by omega)⟩
  have hr := h3 0 w hw
  have hv : scanV ws 0 = w := by
    unfold scanV
    rw [if_pos (by omega), List.getD_eq_getElem?_getD]
    show (ws[0]?).getD 0 = w
    rw [hw]
    rfl
  omega
theorem wid_by {ws : List Int} (hw : wsOk ws) (p : Pl) {n : Int} (hA : Does Try.prog 54 [] [pD p, intsD ws, I 8] (I n) []) (hB : Does Try.prog 36 [] [pD p, intsD ws, I 8] (I n) []) : Does Try.prog 33 [] [pD p, intsD ws] (I n) [] ∧ Does Try.prog 13 [] [pD p, intsD ws] (I n) [] := by
  have h1 := validWidths_spec ws (by have := hw.1; omega)
  have h2 := validWidths_impl ws (by have := hw.1; omega)
  rw [decide_eq_true hw] at h1 h2
  refine ⟨?_, ?_⟩
  · refine does0 c_spec_widthOf mixed (Nat.le_of_ble_eq_true rfl) ?_
    conv => arg 3; whnf
    repeat' (first
      | with_reducible refine acc_none ?_ | (conv in hold _=>simp (disch:=omega) only [go_sem])|refine Stp.go ?_|(with_reducible first|refine it_pos rfl ?_|refine it_neg (by decide) ?_|refine st_nil rfl ?_|refine s_op ?_ ?_|exact trivial)|((with_reducible first|refine dw_reg0 ?_|refine dw_regB ?_);(conv=>arg 3;whnf))|(refine Spl.go (fun hq he=>?_) (fun hq he=>?_)<;>first|(exfalso;clear hq;omega)|((try first|(conv=>arg 8;simp only [hq])|(conv=>arg 4;simp only [hq]));clear hq))|((with_reducible first|refine c_split (fun hq=>?_) (fun hq=>?_)|refine q_split (fun hq=>?_) (fun hq=>?_))<;>(try first|(conv=>arg 8;simp only [hq])|(conv=>arg 4;simp only [hq])))|(with_reducible refine fin_0 ?_ (by first|rfl|(conv=>lhs;simp only [go_sem])) ?_)
      | (with_reducible show evC _ _ _ _ _ _ _ _ _ _ _ _
         first
         | (refine c_doesE (h1) ?_ ?_ ?_
            · ((try (conv=>rhs;simp (disch:=omega) only [go_sem])); try rfl)
            · first|rfl|(conv=>lhs;simp only [go_sem]))
         | (refine c_doesE (hA) ?_ ?_ ?_
            · ((try (conv=>rhs;simp (disch:=omega) only [go_sem])); try rfl)
            · first|rfl|(conv=>lhs;simp only [go_sem])))|exact Sub.refl _|omega)
  · refine does0 c_impl_PlanWidth mixed (Nat.le_of_ble_eq_true rfl) ?_
    conv => arg 3; whnf
    repeat' (first
      | with_reducible refine acc_none ?_ | (conv in hold _=>simp (disch:=omega) only [go_sem])|refine Stp.go ?_|(with_reducible first|refine it_pos rfl ?_|refine it_neg (by decide) ?_|refine st_nil rfl ?_|refine s_op ?_ ?_|exact trivial)|((with_reducible first|refine dw_reg0 ?_|refine dw_regB ?_);(conv=>arg 3;whnf))|(refine Spl.go (fun hq he=>?_) (fun hq he=>?_)<;>first|(exfalso;clear hq;omega)|((try first|(conv=>arg 8;simp only [hq])|(conv=>arg 4;simp only [hq]));clear hq))|((with_reducible first|refine c_split (fun hq=>?_) (fun hq=>?_)|refine q_split (fun hq=>?_) (fun hq=>?_))<;>(try first|(conv=>arg 8;simp only [hq])|(conv=>arg 4;simp only [hq])))|(with_reducible refine fin_0 ?_ (by first|rfl|(conv=>lhs;simp only [go_sem])) ?_)
      | (with_reducible show evC _ _ _ _ _ _ _ _ _ _ _ _
         first
         | (refine c_doesE (h2) ?_ ?_ ?_
            · ((try (conv=>rhs;simp (disch:=omega) only [go_sem])); try rfl)
            · first|rfl|(conv=>lhs;simp only [go_sem]))
         | (refine c_doesE (hB) ?_ ?_ ?_
            · ((try (conv=>rhs;simp (disch:=omega) only [go_sem])); try rfl)
            · first|rfl|(conv=>lhs;simp only [go_sem])))|exact Sub.refl _|omega)
theorem uni0_w {ws : List Int} (hw : wsOk ws) : ∃ n : Int, (1 ≤ n ∧ n ≤ 6) ∧ Does Try.prog 54 [] [pD uni0, intsD ws, I 8] (I n) [] ∧ Does Try.prog 36 [] [pD uni0, intsD ws, I 8] (I n) [] := by
  obtain ⟨n, hn, hk⟩ := scan0_w hw
  have hr : ∀ (j : Nat) (x : Int), ([n, n] : List Int)[j]? = some x → 0 ≤ x ∧ x ≤ 6 := fun j x hj => by
    have := List.mem_of_getElem? hj
    simp only [List.mem_cons, List.not_mem_nil, or_false] at this
    omega
  have hkid : ∀ (i : Nat) (x : Pl) (m : Int), uni0.ks[i]? = some x → ([n, n] : List Int)[i]? = some m → x = scan0 ∧ m = n := fun i x m hx hm => by
    have h1 := List.mem_of_getElem? hx
    have h2 := List.mem_of_getElem? hm
    have h1' : x ∈ [scan0, scan0] := h1
    simp only [List.mem_cons, List.not_mem_nil, or_false] at h1' h2
    exact ⟨h1'.elim id id, h2.elim id id⟩
  have hres : resV uni0 [n, n] = n := by
    have hz : ¬ zeroIn [n, n] := fun ⟨j, hj⟩ => by
      have := List.mem_of_getElem? hj
      simp only [List.mem_cons, List.not_mem_nil, or_false] at this
      omega
    exact resV_t hz ⟨uni0_f, fun h => absurd h (by decide)⟩ rfl
  have hA := planWidth_main uni0 ws 8 (by decide) (by decide) uni0_f (by decide) (by decide) (by decide) [n, n] rfl hr (fun i x m hx hm => by
    obtain ⟨rfl, rfl⟩ := hkid i x m hx hm
    exact (hk 7 (by decide)).1)
  have hB := widthWithin_main uni0 ws 8 (by decide) ⟨uni0_f, fun h => absurd h (by decide)⟩ (by decide) (by decide) (by decide) [n, n] rfl hr (fun i x m hx hm => by
    obtain ⟨rfl, rfl⟩ := hkid i x m hx hm
    exact (hk 7 (by decide)).2)
  rw [hres] at hA hB
  exact ⟨n, hn, hA, hB⟩
theorem scan0_fine {ws : List Int} (hw : wsOk ws) : FineE ws scan0 := .mk scan0_f (fun _ => ⟨by decide, by have := hw.1; show (0 : Int) ≤ _; omega⟩) (fun e he => by cases he) (fun h => absurd h (by decide)) (fun x hx => by cases hx)
theorem uni0_fine {ws : List Int} (hw : wsOk ws) : FineE ws uni0 := .mk uni0_f (fun h => absurd h (by decide)) (fun e he => by cases he) (fun h => absurd h (by decide)) (fun x hx => by
  have h1 : x ∈ [scan0, scan0] := hx
  simp only [List.mem_cons, List.not_mem_nil, or_false] at h1
  obtain rfl : x = scan0 := h1.elim id id
  exact scan0_fine hw)
theorem scan0_c : SubL [I 1, I 0, .nul, .nul, .nul] [I 1, I 0, .sl 5 [], .sl 1 [], .sl 5 []] := ⟨Sub.refl _, Sub.refl _, Sub.nul 5, Sub.nul 1, Sub.nul 5, trivial⟩
theorem scan0_s : Sub (.agg [I 1, I 0, .nul, .nul, .nul]) (pD scan0) := plS (Sub.nul 5) (Sub.nul 1) (Sub.nul 5)
theorem uni0_s : Sub (.agg [I 6, I 0, .nul, .nul, .sl 5 [.agg [I 1, I 0, .nul, .nul, .nul], .agg [I 1, I 0, .nul, .nul, .nul]]]) (pD uni0) := by
  refine plS (Sub.nul 5) (Sub.nul 1) ?_
  show Sub _ (.sl 5 [pD scan0, pD scan0])
  unfold scan0
  rw [pD_eq]
  refine Sub.sl rfl (fun e he => ?_) ?_
  · rcases List.mem_cons.1 he with rfl | he
    · rfl
    · rw [List.mem_singleton.1 he]; rfl
  have e1 : ∀ l k : List D, D.flat [.agg l, .agg k] = l ++ k := fun l k => by unfold D.flat; rw [List.flatMap_cons, List.flatMap_cons, List.flatMap_nil, List.append_nil]; rfl
  rw [e1, e1]
  exact SubL.append scan0_c scan0_c
theorem does_FnEstimateScan (bs : List Nat) (hb : ∀ b, b ∈ bs → b < 256) : Does Try.prog 6 [] [bytesD bs] (Bo true) [] := by
  obtain ⟨x, ss, hd, hz, hl0, hl⟩ := DrawEstimateRows_ok bs hb
  by_cases hb1 : bs.length ≤ 1048576
  · rcases Rows_all x (by omega) ss (by omega) with ⟨h1, h2⟩ | ⟨w, n, ⟨hss, hwo, hfine⟩, hw, hw1, hw2, hn⟩
    · refine does0 c_laws_FnEstimateScan mixed (Nat.le_of_ble_eq_true rfl) ?_
      conv => arg 3; whnf
      repeat' (first
        | with_reducible refine acc_none ?_ | (conv in hold _=>simp (disch:=omega) only [go_sem, bytesD, List.length_map, beq_self_eq_true, bne_self_eq_false])|refine Stp.go ?_|(with_reducible first|refine it_pos rfl ?_|refine it_neg (by decide) ?_|refine st_nil rfl ?_|refine s_op ?_ ?_|exact trivial)|((with_reducible first|refine dw_reg0 ?_|refine dw_regB ?_);(conv=>arg 3;whnf))|(refine Spl.go (fun hq he=>?_) (fun hq he=>?_)<;>first|(exfalso;clear hq;omega)|((try first|(conv=>arg 8;simp only [hq])|(conv=>arg 4;simp only [hq]));clear hq))|((with_reducible first|refine c_split (fun hq=>?_) (fun hq=>?_)|refine q_split (fun hq=>?_) (fun hq=>?_))<;>(try first|(conv=>arg 8;simp only [hq])|(conv=>arg 4;simp only [hq])))|(with_reducible refine fin_0 ?_ (by first|rfl|(conv=>lhs;simp only [go_sem, bytesD, List.length_map, beq_self_eq_true, bne_self_eq_false])) ?_)
        | (with_reducible show evC _ _ _ _ _ _ _ _ _ _ _ _
           first
           | (refine c_doesE (hd) ?_ ?_ ?_
              · ((try (conv=>rhs;simp (disch:=omega) only [go_sem, bytesD, List.length_map, beq_self_eq_true, bne_self_eq_false])); try rfl)
              · first|rfl|(conv=>lhs;simp only [go_sem, bytesD, List.length_map, beq_self_eq_true, bne_self_eq_false]))
           | (refine c_doesE (h2) ?_ ?_ ?_
              · ((try (conv=>rhs;simp (disch:=omega) only [go_sem, bytesD, List.length_map, beq_self_eq_true, bne_self_eq_false])); try rfl)
              · first|rfl|(conv=>lhs;simp only [go_sem, bytesD, List.length_map, beq_self_eq_true, bne_self_eq_false]))
           | (refine c_doesE (h1) ?_ ?_ ?_
              · ((try (conv=>rhs;simp (disch:=omega) only [go_sem, bytesD, List.length_map, beq_self_eq_true, bne_self_eq_false])); try rfl)
              · first|rfl|(conv=>lhs;simp only [go_sem, bytesD, List.length_map, beq_self_eq_true, bne_self_eq_false]))
           | (refine c_doesE (h1) ?_ ?_ ?_
              · ((try (conv=>rhs;simp (disch:=omega) only [go_sem, bytesD, List.length_map, beq_self_eq_true, bne_self_eq_false])); try rfl)
              · first|rfl|(conv=>lhs;simp only [go_sem, bytesD, List.length_map, beq_self_eq_true, bne_self_eq_false])))|exact Sub.refl _|omega)
    · have hn0 := hn.1.1
      obtain ⟨h1, h2⟩ := Rows_of hss (by omega) hw hw1 hw2 hn
      obtain ⟨s, hs⟩ : ∃ s, ss[0]? = some s := ⟨_, List.getElem?_eq_getElem (by omega)⟩
      have hsn := (hss 0 s hs).2.1
      obtain ⟨a, hfa, ha⟩ := est_step (q := []) hss (scan0_fine hwo) (by decide) rfl (fun j y k hj hq => by simp at hq)
      have ea : a = s.n := by
        rcases hfa.1 with h | h
        · exact absurd h (by decide)
        · rw [h, show rbK (cntS ss) scan0.k scan0.t scan0.cs.length [] = (cntS ss).getD 0 0 from rbK_1 _ _ _ rfl, List.getD_eq_getElem?_getD, cntS, List.getElem?_map]
          show (Option.map St.n ss[0]?).getD 0 = s.n
          rw [hs]
          rfl
      obtain ⟨b, hfb, hb2⟩ := est_step (q := [a, a]) hss (uni0_fine hwo) (by decide) rfl (fun j y k hj hq => by
        have h1 := List.mem_of_getElem? hj
        have h1' : y ∈ [scan0, scan0] := h1
        have h2 := List.mem_of_getElem? hq
        simp only [List.mem_cons, List.not_mem_nil, or_false] at h1' h2
        obtain rfl : y = scan0 := h1'.elim id id
        obtain rfl : k = a := h2.elim id id
        exact ha)
      have eb : b = 2 * s.n := by
        rcases hfb.1 with h | h
        · exact absurd h (by decide)
        · rw [h, show rbK (cntS ss) uni0.k uni0.t uni0.cs.length [a, a] = min (a + a) M from rbK_6 _ _ _ rfl, ea]
          unfold M
          omega
      obtain ⟨v, hv, hk⟩ := scan0_w hwo
      obtain ⟨hk1, hk2⟩ := wid_by hwo scan0 (hk 8 (by decide)).1 (hk 8 (by decide)).2
      obtain ⟨u, hu, hu1, hu2⟩ := uni0_w hwo
      obtain ⟨hu3, hu4⟩ := wid_by hwo uni0 hu1 hu2
      have h3 : Does Try.prog 19 [] [.agg [I 1, I 0, .nul, .nul, .nul], stsD ss] (I a) [] := (Rows_of hss (by omega) (by omega) hk1 hk2 ha).2.weak ⟨scan0_s, Sub.refl _, trivial⟩ (Sub.refl _)
      have h4 : Does Try.prog 19 [] [.agg [I 6, I 0, .nul, .nul, .sl 5 [.agg [I 1, I 0, .nul, .nul, .nul], .agg [I 1, I 0, .nul, .nul, .nul]]], stsD ss] (I b) [] := (Rows_of hss (by omega) (by omega) hu3 hu4 hb2).2.weak ⟨uni0_s, Sub.refl _, trivial⟩ (Sub.refl _)
      rw [ea] at h3
      rw [eb] at h4
      refine does0 c_laws_FnEstimateScan mixed (Nat.le_of_ble_eq_true rfl) ?_
      conv => arg 3; whnf
      repeat' (first
        | with_reducible refine acc_none ?_ | (conv in hold _=>simp (disch:=omega) only [go_sem, bytesD, List.length_map, beq_self_eq_true, bne_self_eq_false, List.getElem?_map, hs, Option.map_some])|refine Stp.go ?_|(with_reducible first|refine it_pos rfl ?_|refine it_neg (by decide) ?_|refine st_nil rfl ?_|refine s_op ?_ ?_|exact trivial)|((with_reducible first|refine dw_reg0 ?_|refine dw_regB ?_);(conv=>arg 3;whnf))|(refine Spl.go (fun hq he=>?_) (fun hq he=>?_)<;>first|(exfalso;clear hq;omega)|((try first|(conv=>arg 8;simp only [hq])|(conv=>arg 4;simp only [hq]));clear hq))|((with_reducible first|refine c_split (fun hq=>?_) (fun hq=>?_)|refine q_split (fun hq=>?_) (fun hq=>?_))<;>(try first|(conv=>arg 8;simp only [hq])|(conv=>arg 4;simp only [hq])))|(with_reducible refine fin_0 ?_ (by first|rfl|(conv=>lhs;simp only [go_sem, bytesD, List.length_map, beq_self_eq_true, bne_self_eq_false, List.getElem?_map, hs, Option.map_some])) ?_)
        | (with_reducible show evC _ _ _ _ _ _ _ _ _ _ _ _
           first
           | (refine c_doesE (hd) ?_ ?_ ?_
              · ((try (conv=>rhs;simp (disch:=omega) only [go_sem, bytesD, List.length_map, beq_self_eq_true, bne_self_eq_false, List.getElem?_map, hs, Option.map_some])); try rfl)
              · first|rfl|(conv=>lhs;simp only [go_sem, bytesD, List.length_map, beq_self_eq_true, bne_self_eq_false, List.getElem?_map, hs, Option.map_some]))
           | (refine c_doesE (h2) ?_ ?_ ?_
              · ((try (conv=>rhs;simp (disch:=omega) only [go_sem, bytesD, List.length_map, beq_self_eq_true, bne_self_eq_false, List.getElem?_map, hs, Option.map_some])); try rfl)
              · first|rfl|(conv=>lhs;simp only [go_sem, bytesD, List.length_map, beq_self_eq_true, bne_self_eq_false, List.getElem?_map, hs, Option.map_some]))
           | (refine c_doesE (h1) ?_ ?_ ?_
              · ((try (conv=>rhs;simp (disch:=omega) only [go_sem, bytesD, List.length_map, beq_self_eq_true, bne_self_eq_false, List.getElem?_map, hs, Option.map_some])); try rfl)
              · first|rfl|(conv=>lhs;simp only [go_sem, bytesD, List.length_map, beq_self_eq_true, bne_self_eq_false, List.getElem?_map, hs, Option.map_some]))
           | (refine c_doesE (h3) ?_ ?_ ?_
              · ((try (conv=>rhs;simp (disch:=omega) only [go_sem, bytesD, List.length_map, beq_self_eq_true, bne_self_eq_false, List.getElem?_map, hs, Option.map_some])); try rfl)
              · first|rfl|(conv=>lhs;simp only [go_sem, bytesD, List.length_map, beq_self_eq_true, bne_self_eq_false, List.getElem?_map, hs, Option.map_some]))
           | (refine c_doesE (h4) ?_ ?_ ?_
              · ((try (conv=>rhs;simp (disch:=omega) only [go_sem, bytesD, List.length_map, beq_self_eq_true, bne_self_eq_false, List.getElem?_map, hs, Option.map_some])); try rfl)
              · first|rfl|(conv=>lhs;simp only [go_sem, bytesD, List.length_map, beq_self_eq_true, bne_self_eq_false, List.getElem?_map, hs, Option.map_some])))|exact Sub.refl _|omega)
  · refine does0 c_laws_FnEstimateScan mixed (Nat.le_of_ble_eq_true rfl) ?_
    conv => arg 3; whnf
    repeat' (first|with_reducible refine acc_none ?_ | (conv in hold _=>simp (disch:=omega) only [go_sem, bytesD, List.length_map, beq_self_eq_true, bne_self_eq_false])|refine Stp.go ?_|(with_reducible first|refine it_pos rfl ?_|refine it_neg (by decide) ?_|refine st_nil rfl ?_|refine s_op ?_ ?_|exact trivial)|((with_reducible first|refine dw_reg0 ?_|refine dw_regB ?_);(conv=>arg 3;whnf))|(refine Spl.go (fun hq he=>?_) (fun hq he=>?_)<;>first|(exfalso;clear hq;omega)|((try first|(conv=>arg 8;simp only [hq])|(conv=>arg 4;simp only [hq]));clear hq))|((with_reducible first|refine c_split (fun hq=>?_) (fun hq=>?_)|refine q_split (fun hq=>?_) (fun hq=>?_))<;>(try first|(conv=>arg 8;simp only [hq])|(conv=>arg 4;simp only [hq])))|(with_reducible refine fin_0 ?_ (by first|rfl|(conv=>lhs;simp only [go_sem, bytesD, List.length_map, beq_self_eq_true, bne_self_eq_false])) ?_)|exact Sub.refl _|omega)
theorem walk_FnEstimateScan (a : Option Addr) (len cap : Nat) (zs : List Int) (w : World) (h : IsRow .u8 w a len cap zs) :
    Calls Try.prog 6 #[.slice a len cap] w fun e W' => e = .returned (.bool true) ∧ Below w.heap.size w W' := walk_of does_FnEstimateScan a len cap zs w h
end Go.Proofs.Ytpfedjaedlfdfaa

/-
  What is known of a law's bytes as plain data; a law that answers true on plain data answers true. No condition.
-/
import Derived.Test.YtlcmchjeakhajaaGreatJSVGo
import Derived.Test.YtlcmchjeakhajaaGreatJSDcWEpS
import Derived.Test.YtlcmchjeakhajaaGreatKSDca
import Derived.Test.YtlcmchjeakhajaaGreatJSVTbD
namespace Go.Proofs.YtlcmchjeakhajaaGreat
open Go.RowKit
theorem code_fz {a : Option Addr} {len cap : Nat} {zs : List Int} {w : World} (h : IsRow .u8 w a len cap zs) : ∃ cs : List Nat, (∀ b, b ∈ cs → b < 256) ∧ Fz w (allOf w) noNames (bytesD cs) (.slice a len cap) := by
  rcases h with ⟨rfl, rfl, rfl, rfl⟩ | ⟨x, rfl, hl, hm, hz, hc, hwz⟩
  · exact ⟨[], (fun b h => by cases h), .sl0 _ 1 none 0⟩
  · by_cases h0 : len = 0
    · subst h0
      exact ⟨[], (fun b h => by cases h), .sl0 _ 1 (some x) cap⟩
    · obtain ⟨b, off, sp⟩ := x
      have hsp : sp = none := by
        have := hc 0 (by omega)
        unfold World.cell? at this
        split at this
        · cases sp with
          | none => rfl
          | some s => simp [Addr.add] at this
        · cases this
      subst hsp
      have hc' : ∀ i, i < cap → w.cell? ⟨b, off + i, none⟩ = some (.int .u8 (zs.getD i 0)) := fun i hi => by have := hc i (by omega); rwa [Addr.add_lit] at this
      have hb : b < w.heap.size := by
        have := hc' 0 (by omega)
        unfold World.cell? at this
        split at this
        · rename_i h; exact (Array.getElem?_eq_some_iff.1 h).1
        · cases this
      have hrange : ∀ i, i < cap → 0 ≤ zs.getD i 0 ∧ zs.getD i 0 < 256 := fun i hi => by
        have hm : zs.getD i 0 ∈ zs := by rw [List.getD_eq_getElem?_getD, List.getElem?_eq_getElem (by omega)]; exact List.getElem_mem _
        have := hwz _ hm
        generalize zs.getD i 0 = z at this ⊢
        simp [Lit.wf, IntKind.min, IntKind.max, IntKind.bits, IntKind.signed] at this
        omega
      refine ⟨(List.range len).map fun i => (zs.getD i 0).toNat, fun n hn => ?_, ?_⟩
      · obtain ⟨i, hi, rfl⟩ := List.mem_map.1 hn
        have := hrange i (by have := List.mem_range.1 hi; omega)
        omega
      · have hlen : (((List.range len).map fun i => (zs.getD i 0).toNat).map byteD).length = len := by simp
        have := Fz.sl (w := w) (F := allOf w) noNames 1 (((List.range len).map fun i => (zs.getD i 0).toNat).map byteD) b off cap (fun k => .int .u8 (zs.getD k 0)) (by decide) (by rw [hlen]; exact hl) (fun e he => ?_) (fun k hk => ?_) (fun k d hd => ?_)
        · rw [hlen] at this
          exact this
        · obtain ⟨n, _, rfl⟩ := List.mem_map.1 he
          rfl
        · rw [hlen] at hk
          exact ⟨hc' k (by omega), hb, rfl⟩
        · have hf : ∀ l : List Nat, D.flat (l.map byteD) = l.map byteD := by
            intro l
            induction l with
            | nil => rfl
            | cons n l ih => rw [List.map_cons, D.flat, List.flatMap_cons, ← D.flat, ih]; rfl
          rw [hf, List.getElem?_map, List.getElem?_map] at hd
          have hk : k < len := by
            cases hr : (List.range len)[k]? with
            | none => rw [hr] at hd; cases hd
            | some j => have := (List.getElem?_eq_some_iff.1 hr).1; simpa using this
          rw [List.getElem?_range hk] at hd
          obtain rfl : byteD (zs.getD k 0).toNat = d := by simpa using hd
          have := hrange k (by omega)
          unfold byteD
          rw [Int.toNat_of_nonneg this.1]
          exact .v _ _
theorem walk_of {f : FuncId} (hdo : ∀ cs : List Nat, (∀ b, b ∈ cs → b < 256) → Does Tryz.prog f [] [bytesD cs] (Bo true) []) (a : Option Addr) (len cap : Nat) (zs : List Int) (w : World) (h : IsRow .u8 w a len cap zs) :
    Calls Tryz.prog f #[.slice a len cap] w fun e W' => e = .returned (.bool true) ∧ Below w.heap.size w W' := by
  obtain ⟨cs, hcs, hfz⟩ := code_fz h
  refine calls_of (hdo cs hcs) w [.slice a len cap] rfl (fun i d x hd hx => ?_)
  rcases i with _ | i
  · obtain rfl : bytesD cs = d := by simpa using hd
    obtain rfl : Value.slice a len cap = x := by simpa using hx
    exact hfz
  · simp at hd
end Go.Proofs.YtlcmchjeakhajaaGreat
set_option maxHeartbeats 4000000
set_option maxRecDepth 100000
set_option linter.unusedVariables false
set_option linter.unusedSimpArgs false
namespace Go.Proofs.YtlcmchjeakhajaaGreat
open Go.RowKit
theorem inRange_ok (n lo hi : Int) : Does Tryz.prog 76 [] [I n, I lo, I hi] (Bo (decide (lo ≤ n ∧ n ≤ hi))) [] := by
  refine does0 c_Z154 mixed (Nat.le_of_ble_eq_true rfl) ?_
  conv => arg 3; whnf
  repeat' (first|with_reducible refine acc_none ?_ | (conv in hold _=>simp (disch:=omega) only [go_sem])|refine Stp.go ?_|(with_reducible first|refine it_pos rfl ?_|refine it_neg (by decide) ?_|refine st_nil rfl ?_|refine s_op ?_ ?_|exact trivial)|((with_reducible first|refine dw_reg0 ?_|refine dw_regB ?_);(conv=>arg 3;whnf))|(refine Spl.go (fun hq he=>?_) (fun hq he=>?_)<;>first|(exfalso;clear hq;omega)|((try first|(conv=>arg 8;simp only [hq])|(conv=>arg 4;simp only [hq]));clear hq))|((with_reducible first|refine c_split (fun hq=>?_) (fun hq=>?_)|refine q_split (fun hq=>?_) (fun hq=>?_))<;>(try first|(conv=>arg 8;simp only [hq])|(conv=>arg 4;simp only [hq])))|(with_reducible refine fin_0 ?_ (by first|rfl|(conv=>lhs;simp only [go_sem])) ?_)|exact Sub.refl _|omega)
  · exact sub_iff (by simp [he])
  · exact sub_f (fun h => he h.1)
theorem validValue_ok (v : V) : Does Tryz.prog 128 [] [vD v] (Bo (decide v.ok)) [] := by
  refine Bg c_Z104 mixed (go1 trivial ?_)
  refine c_doesE (inRange_ok v.n (-9999) 9999) ?_ ?_ ?_
  · ((try (conv=>rhs;simp (disch:=omega) only [go_sem])); try rfl)
  · first|rfl|(conv=>lhs;simp only [go_sem])
  repeat' (first|with_reducible refine acc_none ?_ | (conv in hold _=>simp (disch:=omega) only [go_sem])|refine Stp.go ?_|(with_reducible first|refine it_pos rfl ?_|refine it_neg (by decide) ?_|refine st_nil rfl ?_|refine s_op ?_ ?_|exact trivial)|((with_reducible first|refine dw_reg0 ?_|refine dw_regB ?_);(conv=>arg 3;whnf))|(refine Spl.go (fun hq he=>?_) (fun hq he=>?_)<;>first|(exfalso;clear hq;omega)|((try first|(conv=>arg 8;simp only [hq])|(conv=>arg 4;simp only [hq]));clear hq))|((with_reducible first|refine c_split (fun hq=>?_) (fun hq=>?_)|refine q_split (fun hq=>?_) (fun hq=>?_))<;>(try first|(conv=>arg 8;simp only [hq])|(conv=>arg 4;simp only [hq])))|(with_reducible refine fin_0 ?_ (by first|rfl|(conv=>lhs;simp only [go_sem])) ?_)|exact Sub.refl _|omega)
  · have hb : v.b = true := by simpa using hq
    refine sub_iff ?_
    rw [V.ok_iff, beq_iff_eq]
    exact ⟨fun h => ⟨he.1, he.2, fun _ => h⟩, fun h => h.2.2 hb⟩
  · have hb : v.b = false := by simpa using hq
    exact sub_t ⟨he.1, he.2, fun h => by rw [hb] at h; cases h⟩
  · exact sub_f (fun h => he ⟨h.lo, h.hi⟩)
theorem validRow_ok (vs : List V) (hl : vs.length < 2000000) : Does Tryz.prog 81 [] [rowD vs] (Bo (decide (rowOk vs))) [] := by
  refine Bg c_Z145 mixed (go1 trivial ?_)
  refine dw_for (c := 0) (l := fun i => [(0, rowD vs), (3, I i)]) vs.length (fun i => ∀ j v, j < i → vs[j]? = some v → v.ok) 0 (by omega) (Wk.list [] rfl rfl ?_) (fun i hi hJ => ?_) (Nat.zero_le _)
  · repeat' (first|(conv in hold _=>simp (disch:=omega) only [go_sem])|exact trivial|exact Sub.refl _|omega)
    exact rfl
  · skip
    rcases at_or_end hi with ⟨v, hv, hlt⟩ | rfl
    · refine go1 @hv ?_
      refine c_doesE (validValue_ok v) ?_ ?_ ?_
      · ((try (conv=>rhs;simp (disch:=omega) only [go_sem])); try rfl)
      · first|rfl|(conv=>lhs;simp only [go_sem])
      repeat' (first|with_reducible refine acc_none ?_ | (conv in hold _=>simp (disch:=omega) only [go_sem])|refine Stp.go ?_|(with_reducible first|refine it_pos rfl ?_|refine it_neg (by decide) ?_|refine st_nil rfl ?_|refine s_op ?_ ?_|exact trivial)|((with_reducible first|refine dw_reg0 ?_|refine dw_regB ?_);(conv=>arg 3;whnf))|(refine Spl.go (fun hq he=>?_) (fun hq he=>?_)<;>first|(exfalso;clear hq;omega)|((try first|(conv=>arg 8;simp only [hq])|(conv=>arg 4;simp only [hq]));clear hq))|((with_reducible first|refine c_split (fun hq=>?_) (fun hq=>?_)|refine q_split (fun hq=>?_) (fun hq=>?_))<;>(try first|(conv=>arg 8;simp only [hq])|(conv=>arg 4;simp only [hq])))|(with_reducible refine fin_0 ?_ (by first|rfl|(conv=>lhs;simp only [go_sem])) ?_)|exact Sub.refl _|omega)
      · exact sub_f (fun h => he (h.2 v (List.mem_of_getElem? hv)))
      · refine ⟨hlt, upto_next hv hJ he, Wk.list [] rfl rfl ?_⟩
        repeat' (first|(conv in hold _=>simp (disch:=omega) only [go_sem])|exact trivial|exact Sub.refl _|omega)
    · refine go1 trivial ?_
      refine Uc trivial (inRange_ok vs.length 1 6) (go1 trivial ?_)
      exact sub_iff (by rw [decide_eq_true_iff]; exact ⟨fun h => ⟨by omega, upto_all hJ⟩, fun h => by have := h.1; omega⟩)
theorem number_ok (n : Int) : Does Tryz.prog 154 [] [I n] (vD (num n)) [] := by
  refine Bg c_Z163 mixed (go1 trivial ?_)
  refine c_doesE (inRange_ok n (-9999) 9999) ?_ ?_ ?_
  · ((try (conv=>rhs;simp (disch:=omega) only [go_sem])); try rfl)
  · first|rfl|(conv=>lhs;simp only [go_sem])
  repeat' (first|with_reducible refine acc_none ?_ | (conv in hold _=>simp (disch:=omega) only [go_sem])|refine Stp.go ?_|(with_reducible first|refine it_pos rfl ?_|refine it_neg (by decide) ?_|refine st_nil rfl ?_|refine s_op ?_ ?_|exact trivial)|((with_reducible first|refine dw_reg0 ?_|refine dw_regB ?_);(conv=>arg 3;whnf))|(refine Spl.go (fun hq he=>?_) (fun hq he=>?_)<;>first|(exfalso;clear hq;omega)|((try first|(conv=>arg 8;simp only [hq])|(conv=>arg 4;simp only [hq]));clear hq))|((with_reducible first|refine c_split (fun hq=>?_) (fun hq=>?_)|refine q_split (fun hq=>?_) (fun hq=>?_))<;>(try first|(conv=>arg 8;simp only [hq])|(conv=>arg 4;simp only [hq])))|(with_reducible refine fin_0 ?_ (by first|rfl|(conv=>lhs;simp only [go_sem])) ?_)|exact Sub.refl _|omega)
  · rw [show num n = ⟨true, 0⟩ from if_neg he]; exact Sub.refl _
  · rw [show num n = ⟨false, n⟩ from if_pos he]; exact Sub.refl _
theorem Value_valid_ok (v : V) : Does Tryz.prog 158 [] [vD v] (Bo (decide v.ok)) [] := by
  refine does0 c_Z71 mixed (Nat.le_of_ble_eq_true rfl) ?_
  conv => arg 3; whnf
  repeat' (first|with_reducible refine acc_none ?_ | (conv in hold _=>simp (disch:=omega) only [go_sem])|refine Stp.go ?_|(with_reducible first|refine it_pos rfl ?_|refine it_neg (by decide) ?_|refine st_nil rfl ?_|refine s_op ?_ ?_|exact trivial)|((with_reducible first|refine dw_reg0 ?_|refine dw_regB ?_);(conv=>arg 3;whnf))|(refine Spl.go (fun hq he=>?_) (fun hq he=>?_)<;>first|(exfalso;clear hq;omega)|((try first|(conv=>arg 8;simp only [hq])|(conv=>arg 4;simp only [hq]));clear hq))|((with_reducible first|refine c_split (fun hq=>?_) (fun hq=>?_)|refine q_split (fun hq=>?_) (fun hq=>?_))<;>(try first|(conv=>arg 8;simp only [hq])|(conv=>arg 4;simp only [hq])))|(with_reducible refine fin_0 ?_ (by first|rfl|(conv=>lhs;simp only [go_sem])) ?_)|exact Sub.refl _|omega)
  · refine sub_iff ?_
    rw [V.ok_iff, beq_iff_eq]
    exact ⟨fun h => ⟨by omega, by omega, fun _ => h⟩, fun h => h.2.2 hq⟩
  · refine sub_iff ?_
    rw [V.ok_iff, decide_eq_true_iff]
    exact ⟨fun h => ⟨he, h, fun e => by rw [hq] at e; cases e⟩, fun h => h.2.1⟩
  · exact sub_f (fun h => he h.lo)
theorem validWidth_ok (w : Int) : Does Tryz.prog 54 [] [I w] (Bo (decide (1 ≤ w ∧ w ≤ 6))) [] := by
  refine does0 c_Z96 mixed (Nat.le_of_ble_eq_true rfl) ?_
  conv => arg 3; whnf
  repeat' (first|with_reducible refine acc_none ?_ | (conv in hold _=>simp (disch:=omega) only [go_sem])|refine Stp.go ?_|(with_reducible first|refine it_pos rfl ?_|refine it_neg (by decide) ?_|refine st_nil rfl ?_|refine s_op ?_ ?_|exact trivial)|((with_reducible first|refine dw_reg0 ?_|refine dw_regB ?_);(conv=>arg 3;whnf))|(refine Spl.go (fun hq he=>?_) (fun hq he=>?_)<;>first|(exfalso;clear hq;omega)|((try first|(conv=>arg 8;simp only [hq])|(conv=>arg 4;simp only [hq]));clear hq))|((with_reducible first|refine c_split (fun hq=>?_) (fun hq=>?_)|refine q_split (fun hq=>?_) (fun hq=>?_))<;>(try first|(conv=>arg 8;simp only [hq])|(conv=>arg 4;simp only [hq])))|(with_reducible refine fin_0 ?_ (by first|rfl|(conv=>lhs;simp only [go_sem])) ?_)|exact Sub.refl _|omega)
  · exact sub_iff (by simp [he])
  · exact sub_f (fun h => he h.1)
def valsOk (vs : List V) : Prop := ∀ v, v ∈ vs → v.ok
noncomputable instance valsOkDec (vs : List V) : Decidable (valsOk vs) := Classical.propDecidable _
theorem validValues_ok (vs : List V) (hl : vs.length < 2000000) : Does Tryz.prog 141 [] [rowD vs] (Bo (decide (valsOk vs))) [] := by
  refine Bg c_Z79 mixed (go1 trivial ?_)
  refine dw_for (c := 0) (l := fun i => [(5, rowD vs), (6, I vs.length), (7, I i)]) vs.length (fun i => ∀ j v, j < i → vs[j]? = some v → v.ok) 0 (by omega) (Wk.list [] rfl rfl ?_) (fun i hi hJ => ?_) (Nat.zero_le _)
  · repeat' (first|(conv in hold _=>simp (disch:=omega) only [go_sem])|exact trivial|exact Sub.refl _|omega)
    exact rfl
  · rcases at_or_end hi with ⟨v, hv, hlt⟩ | rfl
    · refine go1 @hv ?_
      refine c_doesE (Value_valid_ok v) ?_ ?_ ?_
      · ((try (conv=>rhs;simp (disch:=omega) only [go_sem])); try rfl)
      · first|rfl|(conv=>lhs;simp only [go_sem])
      repeat' (first|with_reducible refine acc_none ?_ | (conv in hold _=>simp (disch:=omega) only [go_sem])|refine Stp.go ?_|(with_reducible first|refine it_pos rfl ?_|refine it_neg (by decide) ?_|refine st_nil rfl ?_|refine s_op ?_ ?_|exact trivial)|((with_reducible first|refine dw_reg0 ?_|refine dw_regB ?_);(conv=>arg 3;whnf))|(refine Spl.go (fun hq he=>?_) (fun hq he=>?_)<;>first|(exfalso;clear hq;omega)|((try first|(conv=>arg 8;simp only [hq])|(conv=>arg 4;simp only [hq]));clear hq))|((with_reducible first|refine c_split (fun hq=>?_) (fun hq=>?_)|refine q_split (fun hq=>?_) (fun hq=>?_))<;>(try first|(conv=>arg 8;simp only [hq])|(conv=>arg 4;simp only [hq])))|(with_reducible refine fin_0 ?_ (by first|rfl|(conv=>lhs;simp only [go_sem])) ?_)|exact Sub.refl _|omega)
      · exact sub_f (fun h => he (h v (List.mem_of_getElem? hv)))
      · refine ⟨hlt, upto_next hv hJ he, Wk.list [] rfl rfl ?_⟩
        repeat' (first|(conv in hold _=>simp (disch:=omega) only [go_sem])|exact trivial|exact Sub.refl _|omega)
    · refine go1 trivial ?_
      exact sub_t (upto_all hJ)
theorem implValidRow_ok (vs : List V) (hl : vs.length < 2000000) : Does Tryz.prog 98 [] [rowD vs] (Bo (decide (rowOk vs))) [] := by
  have h2 := validValues_ok vs hl
  refine Bg c_Z130 mixed (go1 trivial ?_)
  refine c_doesE (validWidth_ok vs.length) ?_ ?_ ?_
  · ((try (conv=>rhs;simp (disch:=omega) only [go_sem])); try rfl)
  · first|rfl|(conv=>lhs;simp only [go_sem])
  repeat' (first|with_reducible refine acc_none ?_ | (conv in hold _=>simp (disch:=omega) only [go_sem])|refine Stp.go ?_|(with_reducible first|refine it_pos rfl ?_|refine it_neg (by decide) ?_|refine st_nil rfl ?_|refine s_op ?_ ?_|exact trivial)|((with_reducible first|refine dw_reg0 ?_|refine dw_regB ?_);(conv=>arg 3;whnf))|(refine Spl.go (fun hq he=>?_) (fun hq he=>?_)<;>first|(exfalso;clear hq;omega)|((try first|(conv=>arg 8;simp only [hq])|(conv=>arg 4;simp only [hq]));clear hq))|((with_reducible first|refine c_split (fun hq=>?_) (fun hq=>?_)|refine q_split (fun hq=>?_) (fun hq=>?_))<;>(try first|(conv=>arg 8;simp only [hq])|(conv=>arg 4;simp only [hq])))|(with_reducible refine fin_0 ?_ (by first|rfl|(conv=>lhs;simp only [go_sem])) ?_)|exact Sub.refl _|omega)
  · refine Uc trivial (h2) (go1 trivial ?_)
    exact sub_iff (by rw [decide_eq_true_iff]; exact ⟨fun h => ⟨by omega, h⟩, fun h => h.2⟩)
  · exact sub_f (fun h => by have := h.1; omega)
theorem isColumn_ok (n w : Int) : Does Tryz.prog 157 [] [I n, I w] (Bo (decide (0 ≤ n ∧ n < w))) [] := by
  refine does0 c_Z126 mixed (Nat.le_of_ble_eq_true rfl) ?_
  conv => arg 3; whnf
  repeat' (first|with_reducible refine acc_none ?_ | (conv in hold _=>simp (disch:=omega) only [go_sem])|refine Stp.go ?_|(with_reducible first|refine it_pos rfl ?_|refine it_neg (by decide) ?_|refine st_nil rfl ?_|refine s_op ?_ ?_|exact trivial)|((with_reducible first|refine dw_reg0 ?_|refine dw_regB ?_);(conv=>arg 3;whnf))|(refine Spl.go (fun hq he=>?_) (fun hq he=>?_)<;>first|(exfalso;clear hq;omega)|((try first|(conv=>arg 8;simp only [hq])|(conv=>arg 4;simp only [hq]));clear hq))|((with_reducible first|refine c_split (fun hq=>?_) (fun hq=>?_)|refine q_split (fun hq=>?_) (fun hq=>?_))<;>(try first|(conv=>arg 8;simp only [hq])|(conv=>arg 4;simp only [hq])))|(with_reducible refine fin_0 ?_ (by first|rfl|(conv=>lhs;simp only [go_sem])) ?_)|exact Sub.refl _|omega)
  · exact sub_iff (by simp [he])
  · exact sub_f (fun h => he h.1)
theorem numberOrNull_ok (n : Int) : Does Tryz.prog 194 [] [I n] (vD (num n)) [] := by
  refine Bg c_Z58 mixed (go1 trivial ?_)
  refine c_doesE (Value_valid_ok ⟨false, n⟩) ?_ ?_ ?_
  · ((try (conv=>rhs;simp (disch:=omega) only [go_sem])); try rfl)
  · first|rfl|(conv=>lhs;simp only [go_sem])
  repeat' (first|with_reducible refine acc_none ?_ | (conv in hold _=>simp (disch:=omega) only [go_sem])|refine Stp.go ?_|(with_reducible first|refine it_pos rfl ?_|refine it_neg (by decide) ?_|refine st_nil rfl ?_|refine s_op ?_ ?_|exact trivial)|((with_reducible first|refine dw_reg0 ?_|refine dw_regB ?_);(conv=>arg 3;whnf))|(refine Spl.go (fun hq he=>?_) (fun hq he=>?_)<;>first|(exfalso;clear hq;omega)|((try first|(conv=>arg 8;simp only [hq])|(conv=>arg 4;simp only [hq]));clear hq))|((with_reducible first|refine c_split (fun hq=>?_) (fun hq=>?_)|refine q_split (fun hq=>?_) (fun hq=>?_))<;>(try first|(conv=>arg 8;simp only [hq])|(conv=>arg 4;simp only [hq])))|(with_reducible refine fin_0 ?_ (by first|rfl|(conv=>lhs;simp only [go_sem])) ?_)|exact Sub.refl _|omega)
  · rw [show num n = ⟨false, n⟩ from if_pos ⟨he.lo, he.hi⟩]; exact Sub.refl _
  · rw [show num n = ⟨true, 0⟩ from if_neg (fun h => he ⟨h.1, h.2, fun e => by cases e⟩)]; exact Sub.refl _
theorem isNaN_ok (x : Int) : Does Tryz.prog 152 [] [I x] (Bo false) [] := by
  exact Bg c_Z105 mixed (go0 trivial)
theorem Compare_ok (x y : Int) : Does Tryz.prog 126 [] [I x, I y] (I (if x < y then -1 else if y < x then 1 else 0)) [] := by
  by_cases h : x < y
  · rw [if_pos h]
    refine Bg c_Z69 mixed (go1 trivial ?_)
    refine Uc trivial (isNaN_ok x) (go1 trivial ?_)
    exact Uc trivial (isNaN_ok y) (go0 trivial)
  · rw [if_neg h]
    by_cases h' : y < x
    · rw [if_pos h']
      refine Bg c_Z69 mixed (go1 trivial ?_)
      refine Uc trivial (isNaN_ok x) (go1 trivial ?_)
      exact Uc trivial (isNaN_ok y) (go0 trivial)
    · rw [if_neg h']
      refine Bg c_Z69 mixed (go1 trivial ?_)
      refine Uc trivial (isNaN_ok x) (go1 trivial ?_)
      exact Uc trivial (isNaN_ok y) (go0 trivial)
end Go.Proofs.YtlcmchjeakhajaaGreat

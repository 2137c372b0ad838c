/-
  What is known of a law's bytes as plain data; a law that answers true on plain data answers true. No condition.
-/
import Derived.Test.YtpfedjaedlfdfaaJSVCall
import Derived.Test.YtpfedjaedlfdfaaJSVEsz
import Derived.Test.YtpfedjaedlfdfaaKSDca
import Derived.Test.YtpfedjaedlfdfaaJSVTbD
namespace Go.Proofs.Ytpfedjaedlfdfaa
open Go.RowKit
/-- The bytes that came in. -/
theorem code_fz {a : Option Addr} {len cap : Nat} {zs : List Int} {w : World} (h : IsRow .u8 w a len cap zs) : ∃ cs : List Nat, (∀ b, b ∈ cs → b < 256) ∧ Fz w (allOf w) noNames (bytesD cs) (.slice a len cap) := by
  rcases h with ⟨rfl, rfl, rfl, rfl⟩ | ⟨x, rfl, hl, hm, hz, hc, hwz⟩
  · exact ⟨[], (fun b h => by cases h), .sl0 _ 1 none 0⟩
  · by_cases h0 : len = 0
    · subst h0
      exact ⟨[], (fun b h => by cases h), .sl0 _ 1 (some x) cap⟩
    · obtain ⟨b, off, sp⟩ := x
      have hsp : sp = none := by
        have := hc 0 (by omega)
        unfold World.cell? at this
        split at this
        · cases sp with
          | none => rfl
          | some s => simp [Addr.add] at this
        · cases this
      subst hsp
      have hc' : ∀ i, i < cap → w.cell? ⟨b, off + i, none⟩ = some (.int .u8 (zs.getD i 0)) := fun i hi => by have := hc i (by omega); rwa [Addr.add_lit] at this
      have hb : b < w.heap.size := by
        have := hc' 0 (by omega)
        unfold World.cell? at this
        split at this
        · rename_i h; exact (Array.getElem?_eq_some_iff.1 h).1
        · cases this
      have hrange : ∀ i, i < cap → 0 ≤ zs.getD i 0 ∧ zs.getD i 0 < 256 := fun i hi => by
        have hm : zs.getD i 0 ∈ zs := by rw [List.getD_eq_getElem?_getD, List.getElem?_eq_getElem (by omega)]; exact List.getElem_mem _
        have := hwz _ hm
        generalize zs.getD i 0 = z at this ⊢
        simp [Lit.wf, IntKind.min, IntKind.max, IntKind.bits, IntKind.signed] at this
        omega
      refine ⟨(List.range len).map fun i => (zs.getD i 0).toNat, fun n hn => ?_, ?_⟩
      · obtain ⟨i, hi, rfl⟩ := List.mem_map.1 hn
        have := hrange i (by have := List.mem_range.1 hi; omega)
        omega
      · have hlen : (((List.range len).map fun i => (zs.getD i 0).toNat).map byteD).length = len := by simp
        have := Fz.sl (w := w) (F := allOf w) noNames 1 (((List.range len).map fun i => (zs.getD i 0).toNat).map byteD) b off cap (fun k => .int .u8 (zs.getD k 0)) (by decide) (by rw [hlen]; exact hl) (fun e he => ?_) (fun k hk => ?_) (fun k d hd => ?_)
        · rw [hlen] at this
          exact this
        · obtain ⟨n, _, rfl⟩ := List.mem_map.1 he
          rfl
        · rw [hlen] at hk
          exact ⟨hc' k (by omega), hb, rfl⟩
        · have hf : ∀ l : List Nat, D.flat (l.map byteD) = l.map byteD := by
            intro l
            induction l with
            | nil => rfl
            | cons n l ih => rw [List.map_cons, D.flat, List.flatMap_cons, ← D.flat, ih]; rfl
          rw [hf, List.getElem?_map, List.getElem?_map] at hd
          have hk : k < len := by
            cases hr : (List.range len)[k]? with
            | none => rw [hr] at hd; cases hd
            | some j => have := (List.getElem?_eq_some_iff.1 hr).1; simpa using this
          rw [List.getElem?_range hk] at hd
          obtain rfl : byteD (zs.getD k 0).toNat = d := by simpa using hd
          have := hrange k (by omega)
          unfold byteD
          rw [Int.toNat_of_nonneg this.1]
          exact .v _ _
theorem walk_of {f : FuncId} (hdo : ∀ cs : List Nat, (∀ b, b ∈ cs → b < 256) → Does Try.prog f [] [bytesD cs] (Bo true) []) (a : Option Addr) (len cap : Nat) (zs : List Int) (w : World) (h : IsRow .u8 w a len cap zs) :
    Calls Try.prog f #[.slice a len cap] w fun e W' => e = .returned (.bool true) ∧ Below w.heap.size w W' := by
  obtain ⟨cs, hcs, hfz⟩ := code_fz h
  refine calls_of (hdo cs hcs) w [.slice a len cap] rfl (fun i d x hd hx => ?_)
  rcases i with _ | i
  · obtain rfl : bytesD cs = d := by simpa using hd
    obtain rfl : Value.slice a len cap = x := by simpa using hx
    exact hfz
  · simp at hd
end Go.Proofs.Ytpfedjaedlfdfaa
set_option maxHeartbeats 4000000
set_option maxRecDepth 100000
namespace Go.Proofs.Ytpfedjaedlfdfaa
open Go.ChangeShapes Go.WideShapes Go.ChangeAt Go.RowKit Go.Joins Go.Deep
/-- All lists in an expression are such as there may be. -/
inductive Most : E → Prop
  | mk {k c : Int} {v : V} {ks : List E} (h : ks.length ≤ big) (hk : ∀ x, x ∈ ks → Most x) : Most (.mk k c v ks)
theorem Most.len {e : E} (h : Most e) : e.ks.length ≤ big := by cases h; assumption
theorem Most.kid {e x : E} (h : Most e) (hx : x ∈ e.ks) : Most x := by cases h with | mk _ hk => exact hk x hx
section
variable {H : Type} {enc : TypeId × Value → H} {W : World} {base b0 : Nat} {held : Bool} {r : Reach} {v : Value} {d : DataW H} {p : List MemPlace}
end
end Go.Proofs.Ytpfedjaedlfdfaa
set_option maxHeartbeats 4000000
set_option maxRecDepth 100000
set_option linter.unusedVariables false
set_option linter.unusedSimpArgs false
namespace Go.Proofs.Ytpfedjaedlfdfaa
open Go.RowKit
theorem inRange_ok (n lo hi : Int) : Does Try.prog 79 [] [I n, I lo, I hi] (Bo (decide (lo ≤ n ∧ n ≤ hi))) [] := by
  refine does0 c_spec_inRange mixed (Nat.le_of_ble_eq_true rfl) ?_
  conv => arg 3; whnf
  repeat' (first|with_reducible refine acc_none ?_ | (conv in hold _=>simp (disch:=omega) only [go_sem])|refine Stp.go ?_|(with_reducible first|refine it_pos rfl ?_|refine it_neg (by decide) ?_|refine st_nil rfl ?_|refine s_op ?_ ?_|exact trivial)|((with_reducible first|refine dw_reg0 ?_|refine dw_regB ?_);(conv=>arg 3;whnf))|(refine Spl.go (fun hq he=>?_) (fun hq he=>?_)<;>first|(exfalso;clear hq;omega)|((try first|(conv=>arg 8;simp only [hq])|(conv=>arg 4;simp only [hq]));clear hq))|((with_reducible first|refine c_split (fun hq=>?_) (fun hq=>?_)|refine q_split (fun hq=>?_) (fun hq=>?_))<;>(try first|(conv=>arg 8;simp only [hq])|(conv=>arg 4;simp only [hq])))|(with_reducible refine fin_0 ?_ (by first|rfl|(conv=>lhs;simp only [go_sem])) ?_)|exact Sub.refl _|omega)
  · exact sub_iff (by simp [he])
  · exact sub_f (fun h => he h.1)
theorem validValue_ok (v : V) : Does Try.prog 110 [] [vD v] (Bo (decide v.ok)) [] := by
  refine does0 c_spec_validValue mixed (Nat.le_of_ble_eq_true rfl) ?_
  conv => arg 3; whnf
  repeat' (first|with_reducible refine acc_none ?_ | (conv in hold _=>simp (disch:=omega) only [go_sem])|refine Stp.go ?_|(with_reducible first|refine it_pos rfl ?_|refine it_neg (by decide) ?_|refine st_nil rfl ?_|refine s_op ?_ ?_|exact trivial)|((with_reducible first|refine dw_reg0 ?_|refine dw_regB ?_);(conv=>arg 3;whnf))|(refine Spl.go (fun hq he=>?_) (fun hq he=>?_)<;>first|(exfalso;clear hq;omega)|((try first|(conv=>arg 8;simp only [hq])|(conv=>arg 4;simp only [hq]));clear hq))|((with_reducible first|refine c_split (fun hq=>?_) (fun hq=>?_)|refine q_split (fun hq=>?_) (fun hq=>?_))<;>(try first|(conv=>arg 8;simp only [hq])|(conv=>arg 4;simp only [hq])))|(with_reducible refine fin_0 ?_ (by first|rfl|(conv=>lhs;simp only [go_sem])) ?_)|exact Sub.refl _|omega)
  refine c_doesE (inRange_ok v.n (-9999) 9999) ?_ ?_ ?_
  · ((try (conv=>rhs;simp (disch:=omega) only [go_sem])); try rfl)
  · first|rfl|(conv=>lhs;simp only [go_sem])
  repeat' (first|with_reducible refine acc_none ?_ | (conv in hold _=>simp (disch:=omega) only [go_sem])|refine Stp.go ?_|(with_reducible first|refine it_pos rfl ?_|refine it_neg (by decide) ?_|refine st_nil rfl ?_|refine s_op ?_ ?_|exact trivial)|((with_reducible first|refine dw_reg0 ?_|refine dw_regB ?_);(conv=>arg 3;whnf))|(refine Spl.go (fun hq he=>?_) (fun hq he=>?_)<;>first|(exfalso;clear hq;omega)|((try first|(conv=>arg 8;simp only [hq])|(conv=>arg 4;simp only [hq]));clear hq))|((with_reducible first|refine c_split (fun hq=>?_) (fun hq=>?_)|refine q_split (fun hq=>?_) (fun hq=>?_))<;>(try first|(conv=>arg 8;simp only [hq])|(conv=>arg 4;simp only [hq])))|(with_reducible refine fin_0 ?_ (by first|rfl|(conv=>lhs;simp only [go_sem])) ?_)|exact Sub.refl _|omega)
  · have hb : v.b = true := by simpa using hq
    refine sub_iff ?_
    rw [V.ok_iff, beq_iff_eq]
    exact ⟨fun h => ⟨he.1, he.2, fun _ => h⟩, fun h => h.2.2 hb⟩
  · have hb : v.b = false := by simpa using hq
    exact sub_t ⟨he.1, he.2, fun h => by rw [hb] at h; cases h⟩
  · exact sub_f (fun h => he ⟨h.lo, h.hi⟩)
theorem Value_valid_ok (v : V) : Does Try.prog 113 [] [vD v] (Bo (decide v.ok)) [] := by
  refine does0 c_impl_Value_valid mixed (Nat.le_of_ble_eq_true rfl) ?_
  conv => arg 3; whnf
  repeat' (first|with_reducible refine acc_none ?_ | (conv in hold _=>simp (disch:=omega) only [go_sem])|refine Stp.go ?_|(with_reducible first|refine it_pos rfl ?_|refine it_neg (by decide) ?_|refine st_nil rfl ?_|refine s_op ?_ ?_|exact trivial)|((with_reducible first|refine dw_reg0 ?_|refine dw_regB ?_);(conv=>arg 3;whnf))|(refine Spl.go (fun hq he=>?_) (fun hq he=>?_)<;>first|(exfalso;clear hq;omega)|((try first|(conv=>arg 8;simp only [hq])|(conv=>arg 4;simp only [hq]));clear hq))|((with_reducible first|refine c_split (fun hq=>?_) (fun hq=>?_)|refine q_split (fun hq=>?_) (fun hq=>?_))<;>(try first|(conv=>arg 8;simp only [hq])|(conv=>arg 4;simp only [hq])))|(with_reducible refine fin_0 ?_ (by first|rfl|(conv=>lhs;simp only [go_sem])) ?_)|exact Sub.refl _|omega)
  · refine sub_iff ?_
    rw [V.ok_iff, beq_iff_eq]
    exact ⟨fun h => ⟨by omega, by omega, fun _ => h⟩, fun h => h.2.2 hq⟩
  · refine sub_iff ?_
    rw [V.ok_iff, decide_eq_true_iff]
    exact ⟨fun h => ⟨he, h, fun e => by rw [hq] at e; cases e⟩, fun h => h.2.1⟩
  · exact sub_f (fun h => he h.lo)
theorem validWidth_ok (w : Int) : Does Try.prog 55 [] [I w] (Bo (decide (1 ≤ w ∧ w ≤ 6))) [] := by
  refine does0 c_impl_validWidth mixed (Nat.le_of_ble_eq_true rfl) ?_
  conv => arg 3; whnf
  repeat' (first|with_reducible refine acc_none ?_ | (conv in hold _=>simp (disch:=omega) only [go_sem])|refine Stp.go ?_|(with_reducible first|refine it_pos rfl ?_|refine it_neg (by decide) ?_|refine st_nil rfl ?_|refine s_op ?_ ?_|exact trivial)|((with_reducible first|refine dw_reg0 ?_|refine dw_regB ?_);(conv=>arg 3;whnf))|(refine Spl.go (fun hq he=>?_) (fun hq he=>?_)<;>first|(exfalso;clear hq;omega)|((try first|(conv=>arg 8;simp only [hq])|(conv=>arg 4;simp only [hq]));clear hq))|((with_reducible first|refine c_split (fun hq=>?_) (fun hq=>?_)|refine q_split (fun hq=>?_) (fun hq=>?_))<;>(try first|(conv=>arg 8;simp only [hq])|(conv=>arg 4;simp only [hq])))|(with_reducible refine fin_0 ?_ (by first|rfl|(conv=>lhs;simp only [go_sem])) ?_)|exact Sub.refl _|omega)
  · exact sub_iff (by simp [he])
  · exact sub_f (fun h => he h.1)
def valsOk (vs : List V) : Prop := ∀ v, v ∈ vs → v.ok
noncomputable instance valsOkDec (vs : List V) : Decidable (valsOk vs) := Classical.propDecidable _
theorem isColumn_ok (n w : Int) : Does Try.prog 112 [] [I n, I w] (Bo (decide (0 ≤ n ∧ n < w))) [] := by
  refine does0 c_impl_isColumn mixed (Nat.le_of_ble_eq_true rfl) ?_
  conv => arg 3; whnf
  repeat' (first|with_reducible refine acc_none ?_ | (conv in hold _=>simp (disch:=omega) only [go_sem])|refine Stp.go ?_|(with_reducible first|refine it_pos rfl ?_|refine it_neg (by decide) ?_|refine st_nil rfl ?_|refine s_op ?_ ?_|exact trivial)|((with_reducible first|refine dw_reg0 ?_|refine dw_regB ?_);(conv=>arg 3;whnf))|(refine Spl.go (fun hq he=>?_) (fun hq he=>?_)<;>first|(exfalso;clear hq;omega)|((try first|(conv=>arg 8;simp only [hq])|(conv=>arg 4;simp only [hq]));clear hq))|((with_reducible first|refine c_split (fun hq=>?_) (fun hq=>?_)|refine q_split (fun hq=>?_) (fun hq=>?_))<;>(try first|(conv=>arg 8;simp only [hq])|(conv=>arg 4;simp only [hq])))|(with_reducible refine fin_0 ?_ (by first|rfl|(conv=>lhs;simp only [go_sem])) ?_)|exact Sub.refl _|omega)
  · exact sub_iff (by simp [he])
  · exact sub_f (fun h => he h.1)
end Go.Proofs.Ytpfedjaedlfdfaa
namespace Go.Proofs.Ytpfedjaedlfdfaa
open Go.RowKit
theorem does_toInt (b : Bool) : Does Try.prog 93 [] [.v (.bool b)] (.v (.int .i64 (if b then 1 else 0))) [] := by
  refine does0 c_spec_toInt mixed (Nat.le_of_ble_eq_true rfl) ?_
  conv => arg 3; whnf
  repeat' (first|with_reducible refine acc_none ?_ | (conv in hold _=>simp (disch:=omega) only [go_sem])|refine Stp.go ?_|(with_reducible first|refine it_pos rfl ?_|refine it_neg (by decide) ?_|refine st_nil rfl ?_|refine s_op ?_ ?_|exact trivial)|((with_reducible first|refine dw_reg0 ?_|refine dw_regB ?_);(conv=>arg 3;whnf))|(refine Spl.go (fun hq he=>?_) (fun hq he=>?_)<;>first|(exfalso;clear hq;omega)|((try first|(conv=>arg 8;simp only [hq])|(conv=>arg 4;simp only [hq]));clear hq))|((with_reducible first|refine c_split (fun hq=>?_) (fun hq=>?_)|refine q_split (fun hq=>?_) (fun hq=>?_))<;>(try first|(conv=>arg 8;simp only [hq])|(conv=>arg 4;simp only [hq])))|(with_reducible refine fin_0 ?_ (by first|rfl|(conv=>lhs;simp only [go_sem])) ?_)|exact Sub.refl _|omega)
  · subst hq; exact Sub.refl _
  · subst hq; exact Sub.refl _
theorem does_kidsOf (k : Int) : Does Try.prog 109 [] [I k] (I (kidsN k)) [] := by
  refine does0 c_spec_kidsOf mixed (Nat.le_of_ble_eq_true rfl) ?_
  conv => arg 3; whnf
  repeat' (first|with_reducible refine acc_none ?_ | (conv in hold _=>simp (disch:=omega) only [go_sem])|refine Stp.go ?_|(with_reducible first|refine it_pos rfl ?_|refine it_neg (by decide) ?_|refine st_nil rfl ?_|refine s_op ?_ ?_|exact trivial)|((with_reducible first|refine dw_reg0 ?_|refine dw_regB ?_);(conv=>arg 3;whnf))|(refine Spl.go (fun hq he=>?_) (fun hq he=>?_)<;>first|(exfalso;clear hq;omega)|((try first|(conv=>arg 8;simp only [hq])|(conv=>arg 4;simp only [hq]));clear hq))|((with_reducible first|refine c_split (fun hq=>?_) (fun hq=>?_)|refine q_split (fun hq=>?_) (fun hq=>?_))<;>(try first|(conv=>arg 8;simp only [hq])|(conv=>arg 4;simp only [hq])))|(with_reducible refine fin_0 ?_ (by first|rfl|(conv=>lhs;simp only [go_sem])) ?_)|exact Sub.refl _|omega)
  all_goals (refine Sub.of_eq ?_; unfold kidsN; congr 2; omega)
end Go.Proofs.Ytpfedjaedlfdfaa

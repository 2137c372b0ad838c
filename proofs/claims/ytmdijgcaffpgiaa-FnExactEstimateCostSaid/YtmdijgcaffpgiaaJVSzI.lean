/-
  Statistics that come in, as plain data. No condition.
-/
import Derived.Test.YtmdijgcaffpgiaaVGateE
import Derived.Test.YtmdijgcaffpgiaaVSem
import Derived.Test.YtmdijgcaffpgiaaDca
import Derived.Test.YtmdijgcaffpgiaaVGateI
import Derived.Test.YtmdijgcaffpgiaaVLib
set_option maxHeartbeats 4000000
set_option maxRecDepth 100000
namespace Go.Proofs.Ytmdijgcaffpgiaa
open Go.ChangeShapes Go.WideShapes Go.ChangeAt Go.RowKit Go.Joins Go.Deep

/-- Statistics. -/
structure St where
  n : Int
  ds : List Int
  ns : List Int
def stD (s : St) : D := .agg [I s.n, intsD s.ds, intsD s.ns]
def St.most (s : St) : Prop := s.ds.length ≤ big ∧ s.ns.length ≤ big
theorem cells_LS : Try.prog.cellsOf 43 = 3 := by kernel_rfl
section
variable {H : Type} {enc : TypeId × Value → H} {W : World} {base b0 : Nat} {held : Bool} {r : Reach} {v : Value} {d : DataW H} {p : List MemPlace}
set_option maxRecDepth 100000 in
theorem trod_St {fuel : Nat} {cs : List Value} {x : DataW H × List MemPlace} (h : DataW.trod enc Try.prog W base (fun _ => true) held fuel 43 cs = some x) :
    ∃ s : St, CellsOK W (allOf W) noNames [I s.n, intsD s.ds, intsD s.ns] cs ∧ s.most := by
  obtain ⟨y0, y1, y2, n, rfl, hl, h0, h1, h2⟩ := trod_3 Try.underlying43 h
  rw [cells_LS] at hl
  match cs, hl with
  | [c0, c1, c2], _ =>
    have e1 : (Try.prog.cellsOf 23) = 1 := by kernel_rfl
    simp only [cells_int, e1, List.drop_zero, List.drop_succ_cons, List.take_succ_cons, List.take_zero] at h0 h1 h2
    obtain ⟨k, q0⟩ := int_fz Try.underlying3 h0
    obtain ⟨l1, m1, q1⟩ := trod_ints h1
    obtain ⟨l2, m2, q2⟩ := trod_ints h2
    exact ⟨⟨k, l1, l2⟩, q0.append (q1.append q2), m1, m2⟩
/-- Statistics that came in. -/
def IsSt (w : World) (v : Value) (s : St) : Prop := s.most ∧ Fz w (allOf w) noNames (stD s) v
set_option maxRecDepth 100000 in
theorem open_pSt (hv : Value.okWide Try.prog W r b0 43 v) (h : DataW.Trod enc Try.prog W base (fun _ => true) held 43 v d p) (_lt : ∀ x ∈ p, x.block < W.heap.size) :
    ∃ s : St, IsSt W v s := by
  obtain ⟨cs, rfl, _⟩ := okWide_struct Try.underlying43 hv
  obtain ⟨fuel, hf⟩ := h
  obtain ⟨s, ho, hm⟩ := trod_St hf
  exact ⟨s, hm, agg_fz ho⟩
end
end Go.Proofs.Ytmdijgcaffpgiaa
set_option maxHeartbeats 4000000
set_option maxRecDepth 100000
namespace Go.Proofs.Ytmdijgcaffpgiaa
open Go.RowKit

/-- What is left behind m parts, -1 if there are too many. -/
def szV (m : Nat) (left : Int) : Int := if (m : Int) ≤ left then left - m else -1
theorem szV_t {m : Nat} {left : Int} (h : (m : Int) ≤ left) : szV m left = left - m := if_pos h
theorem szV_f {m : Nat} {left : Int} (h : ¬ (m : Int) ≤ left) : szV m left = -1 := if_neg h
/-- A row that is filled from the first place on. -/
def fil {α : Type} (f : α → D) (z : D) (l : List α) (i : Nat) : List D := (l.take i).map f ++ List.replicate (l.length - i) z
theorem fil_len {α : Type} (f : α → D) (z : D) (l : List α) {i : Nat} (h : i ≤ l.length) : (fil f z l i).length = l.length := by
  unfold fil
  rw [List.length_append, List.length_map, List.length_take, List.length_replicate]
  omega
theorem fil_zero {α : Type} (f : α → D) (z : D) (l : List α) : fil f z l 0 = List.replicate l.length z := by
  unfold fil
  rw [List.take_zero, List.map_nil, List.nil_append, Nat.sub_zero]
theorem fil_end {α : Type} (f : α → D) (z : D) (l : List α) : fil f z l l.length = l.map f := by
  unfold fil
  rw [List.take_length, Nat.sub_self, List.replicate_zero, List.append_nil]
theorem fil_set {α : Type} (f : α → D) (z : D) {l : List α} {i : Nat} {x : α} (h : l[i]? = some x) : (fil f z l i).set i (f x) = fil f z l (i + 1) := by
  have hlt := (List.getElem?_eq_some_iff.1 h).1
  unfold fil
  have hl : ((l.take i).map f).length = i := by rw [List.length_map, List.length_take]; omega
  rw [List.set_append_right _ _ (by omega), hl, Nat.sub_self, show l.length - i = (l.length - (i + 1)) + 1 by omega, List.replicate_succ, List.set_cons_zero, take_next h, List.map_append, List.map_cons, List.map_nil, List.append_assoc]
  rfl
theorem fil_take {α : Type} (f : α → D) (z : D) (l : List α) {i : Nat} (h : i ≤ l.length) : (fil f z l i).take l.length = fil f z l i := List.take_of_length_le (by rw [fil_len f z l h]; exact Nat.le_refl _)
theorem fil_get {α : Type} (f : α → D) (z : D) {l : List α} {i : Nat} (h : i < l.length) : (fil f z l i)[i]? = some z := by
  unfold fil
  have hl : ((l.take i).map f).length = i := by rw [List.length_map, List.length_take]; omega
  rw [List.getElem?_append_right (by omega), hl, Nat.sub_self, List.getElem?_replicate, if_pos (by omega)]
theorem fil_ren {α : Type} (f : α → D) (z : D) (hf : ∀ x, (f x).pur = true) (hz : z.pur = true) (l : List α) (i : Nat) (L : List Nat) : D.renL L (fil f z l i) = fil f z l i := by
  refine ren_pure.renL_pure L _ (D.purL_iff.2 fun d hd => ?_)
  rcases List.mem_append.1 hd with hd | hd
  · obtain ⟨x, _, rfl⟩ := List.mem_map.1 hd
    exact hf x
  · rw [(List.mem_replicate.1 hd).2]
    exact hz
end Go.Proofs.Ytmdijgcaffpgiaa
set_option maxHeartbeats 4000000
set_option maxRecDepth 100000
namespace Go.Proofs.Ytmdijgcaffpgiaa
open Go.RowKit

theorem szIntS_ok (l : List Int) (hl : l.length ≤ big) (left : Int) (h0 : 0 ≤ left) (h1 : left ≤ 1048576) : Does Try.prog 36 [] [intsD l, I left] (I (szV l.length left)) [] := by
  unfold big at hl
  by_cases hf : (l.length : Int) ≤ left
  · rw [szV_t hf]
    refine does0 c_laws_szIntS mixed (Nat.le_of_ble_eq_true rfl) ?_
    conv => arg 3; whnf
    repeat' (first | with_reducible refine acc_none ?_ | (conv in hold _ => simp (disch := omega) only [go_sem, intsD]) | refine Stp.go ?_ | (with_reducible first | refine it_pos rfl ?_ | refine it_neg (by decide) ?_ | refine st_nil rfl ?_ | refine s_op ?_ ?_ | exact True.intro) | ((with_reducible first | refine dw_reg0 ?_ | refine dw_regB ?_); (conv => arg 3; whnf)) | (refine Spl.go (fun hq he => ?_) (fun hq he => ?_) <;> first | (exfalso; clear hq; omega) | ((try (first | (conv => arg 8; simp only [hq]) | (conv => arg 4; simp only [hq]))); clear hq)) | ((with_reducible first | refine c_split (fun hq => ?_) (fun hq => ?_) | refine q_split (fun hq => ?_) (fun hq => ?_)) <;> (try (first | (conv => arg 8; simp only [hq]) | (conv => arg 4; simp only [hq])))) | (with_reducible refine fin_0 ?_ (by first | rfl | (conv => lhs; simp only [go_sem, intsD])) ?_) | exact Sub.refl _ | omega)
  · rw [szV_f hf]
    refine does0 c_laws_szIntS mixed (Nat.le_of_ble_eq_true rfl) ?_
    conv => arg 3; whnf
    repeat' (first | with_reducible refine acc_none ?_ | (conv in hold _ => simp (disch := omega) only [go_sem, intsD]) | refine Stp.go ?_ | (with_reducible first | refine it_pos rfl ?_ | refine it_neg (by decide) ?_ | refine st_nil rfl ?_ | refine s_op ?_ ?_ | exact True.intro) | ((with_reducible first | refine dw_reg0 ?_ | refine dw_regB ?_); (conv => arg 3; whnf)) | (refine Spl.go (fun hq he => ?_) (fun hq he => ?_) <;> first | (exfalso; clear hq; omega) | ((try (first | (conv => arg 8; simp only [hq]) | (conv => arg 4; simp only [hq]))); clear hq)) | ((with_reducible first | refine c_split (fun hq => ?_) (fun hq => ?_) | refine q_split (fun hq => ?_) (fun hq => ?_)) <;> (try (first | (conv => arg 8; simp only [hq]) | (conv => arg 4; simp only [hq])))) | (with_reducible refine fin_0 ?_ (by first | rfl | (conv => lhs; simp only [go_sem, intsD])) ?_) | exact Sub.refl _ | omega)
theorem toIntS_ok (l : List Int) (hlen : l.length ≤ 1048576) : Does Try.prog 11 [] [intsD l] (intsD l) [] := by
  have hz := fil_zero I (I 0) l
  have hren := fil_ren I (I 0) (fun _ => rfl) rfl l
  refine does0 c_laws_toIntS mixed (Nat.le_of_ble_eq_true rfl) ?_
  conv => arg 3; whnf
  repeat' (first | with_reducible refine acc_none ?_ | (conv in hold _ => simp (disch := omega) only [go_sem, intsD]) | refine Stp.go ?_ | (with_reducible first | refine it_pos rfl ?_ | refine it_neg (by decide) ?_ | refine st_nil rfl ?_ | refine s_op ?_ ?_ | exact True.intro) | ((with_reducible first | refine dw_reg0 ?_ | refine dw_regB ?_); (conv => arg 3; whnf)) | (refine Spl.go (fun hq he => ?_) (fun hq he => ?_) <;> first | (exfalso; clear hq; omega) | ((try (first | (conv => arg 8; simp only [hq]) | (conv => arg 4; simp only [hq]))); clear hq)) | ((with_reducible first | refine c_split (fun hq => ?_) (fun hq => ?_) | refine q_split (fun hq => ?_) (fun hq => ?_)) <;> (try (first | (conv => arg 8; simp only [hq]) | (conv => arg 4; simp only [hq])))) | (with_reducible refine fin_0 ?_ (by first | rfl | (conv => lhs; simp only [go_sem, intsD])) ?_) | exact Sub.refl _ | omega)
  refine dw_for (c := 1) (l := fun i => [(0, intsD l), (3, .own 1000000 1 l.length), (4, I i), (1000000, .row 1 (fil I (I 0) l i))]) l.length (fun _ => True) 0 trivial (Wk.list [2000007] rfl rfl ?_) (fun i hi _ => ?_) (Nat.zero_le _)
  · repeat' (first | (conv in hold _ => simp (disch := omega) only [go_sem, intsD, hren]) | exact True.intro | exact Sub.refl _ | omega)
    rw [hz]
    exact ⟨rfl, rfl⟩
  · have hfl := fil_len I (I 0) l hi
    have hft := fil_take I (I 0) l hi
    rcases at_or_end hi with ⟨x, hx, hlt⟩ | rfl
    · have hst := fil_set I (I 0) hx
      have hgi : (fil I (I 0) l i)[i]? = some (I 0) := fil_get I (I 0) hlt
      repeat' (first | with_reducible refine acc_none ?_ | (conv in hold _ => simp (disch := omega) only [go_sem, intsD, List.getElem?_map, hx, Option.map_some, hfl, hft, hgi]) | refine Stp.go ?_ | (with_reducible first | refine it_pos rfl ?_ | refine it_neg (by decide) ?_ | refine st_nil rfl ?_ | refine s_op ?_ ?_ | exact True.intro) | ((with_reducible first | refine dw_reg0 ?_ | refine dw_regB ?_); (conv => arg 3; whnf)) | (refine Spl.go (fun hq he => ?_) (fun hq he => ?_) <;> first | (exfalso; clear hq; omega) | ((try (first | (conv => arg 8; simp only [hq]) | (conv => arg 4; simp only [hq]))); clear hq)) | ((with_reducible first | refine c_split (fun hq => ?_) (fun hq => ?_) | refine q_split (fun hq => ?_) (fun hq => ?_)) <;> (try (first | (conv => arg 8; simp only [hq]) | (conv => arg 4; simp only [hq])))) | (with_reducible refine fin_0 ?_ (by first | rfl | (conv => lhs; simp only [go_sem, intsD, List.getElem?_map, hx, Option.map_some, hfl, hft, hgi])) ?_) | exact Sub.refl _ | omega)
      refine ⟨hlt, trivial, Wk.list [1000000] rfl rfl ?_⟩
      repeat' (first | (conv in hold _ => simp (disch := omega) only [go_sem, intsD, hst, hren]) | exact True.intro | exact Sub.refl _ | omega)
    · have he := fil_end I (I 0) l
      repeat' (first | with_reducible refine acc_none ?_ | (conv in hold _ => simp (disch := omega) only [go_sem, intsD, he]) | refine Stp.go ?_ | (with_reducible first | refine it_pos rfl ?_ | refine it_neg (by decide) ?_ | refine st_nil rfl ?_ | refine s_op ?_ ?_ | exact True.intro) | ((with_reducible first | refine dw_reg0 ?_ | refine dw_regB ?_); (conv => arg 3; whnf)) | (refine Spl.go (fun hq he => ?_) (fun hq he => ?_) <;> first | (exfalso; clear hq; omega) | ((try (first | (conv => arg 8; simp only [hq]) | (conv => arg 4; simp only [hq]))); clear hq)) | ((with_reducible first | refine c_split (fun hq => ?_) (fun hq => ?_) | refine q_split (fun hq => ?_) (fun hq => ?_)) <;> (try (first | (conv => arg 8; simp only [hq]) | (conv => arg 4; simp only [hq])))) | exact Sub.refl _ | omega)
      refine fin_wk (wk_frz 2 1000000 (by decide) (by decide) rfl ?_) ?_
      rotate_left
      (conv in hold _ => simp (disch := omega) only [go_sem, intsD, hft, he, hfl])
      · refine fin_L [] ?_ ?_ rfl ?_
        repeat' (first | (conv in hold _ => simp (disch := omega) only [go_sem, intsD]) | exact True.intro | exact Sub.refl _ | omega)
      · exact D.purL_iff.2 (fun d hd => by obtain ⟨x, _, rfl⟩ := List.mem_map.1 hd; rfl)
theorem eqIntS_ok (l : List Int) (hlen : l.length ≤ 1048576) : Does Try.prog 14 [] [intsD l, intsD l] (Bo true) [] := by
  refine does0 c_laws_eqIntS mixed (Nat.le_of_ble_eq_true rfl) ?_
  conv => arg 3; whnf
  repeat' (first | with_reducible refine acc_none ?_ | (conv in hold _ => simp (disch := omega) only [go_sem, intsD, beq_self_eq_true, bne_self_eq_false]) | refine Stp.go ?_ | (with_reducible first | refine it_pos rfl ?_ | refine it_neg (by decide) ?_ | refine st_nil rfl ?_ | refine s_op ?_ ?_ | exact True.intro) | ((with_reducible first | refine dw_reg0 ?_ | refine dw_regB ?_); (conv => arg 3; whnf)) | (refine Spl.go (fun hq he => ?_) (fun hq he => ?_) <;> first | (exfalso; clear hq; omega) | ((try (first | (conv => arg 8; simp only [hq]) | (conv => arg 4; simp only [hq]))); clear hq)) | ((with_reducible first | refine c_split (fun hq => ?_) (fun hq => ?_) | refine q_split (fun hq => ?_) (fun hq => ?_)) <;> (try (first | (conv => arg 8; simp only [hq]) | (conv => arg 4; simp only [hq])))) | (with_reducible refine fin_0 ?_ (by first | rfl | (conv => lhs; simp only [go_sem, intsD, beq_self_eq_true, bne_self_eq_false])) ?_) | exact Sub.refl _ | omega)
  refine dw_for (c := 0) (l := fun i => [(0, intsD l), (1, intsD l), (5, I i)]) l.length (fun _ => True) 0 trivial (Wk.list [] rfl rfl ?_) (fun i hi _ => ?_) (Nat.zero_le _)
  · repeat' (first | (conv in hold _ => simp (disch := omega) only [go_sem, intsD, beq_self_eq_true, bne_self_eq_false]) | exact True.intro | exact Sub.refl _ | omega)
    exact rfl
  · rcases at_or_end hi with ⟨x, hx, hlt⟩ | rfl
    · repeat' (first | with_reducible refine acc_none ?_ | (conv in hold _ => simp (disch := omega) only [go_sem, intsD, beq_self_eq_true, bne_self_eq_false, List.getElem?_map, hx, Option.map_some]) | refine Stp.go ?_ | (with_reducible first | refine it_pos rfl ?_ | refine it_neg (by decide) ?_ | refine st_nil rfl ?_ | refine s_op ?_ ?_ | exact True.intro) | ((with_reducible first | refine dw_reg0 ?_ | refine dw_regB ?_); (conv => arg 3; whnf)) | (refine Spl.go (fun hq he => ?_) (fun hq he => ?_) <;> first | (exfalso; clear hq; omega) | ((try (first | (conv => arg 8; simp only [hq]) | (conv => arg 4; simp only [hq]))); clear hq)) | ((with_reducible first | refine c_split (fun hq => ?_) (fun hq => ?_) | refine q_split (fun hq => ?_) (fun hq => ?_)) <;> (try (first | (conv => arg 8; simp only [hq]) | (conv => arg 4; simp only [hq])))) | (with_reducible refine fin_0 ?_ (by first | rfl | (conv => lhs; simp only [go_sem, intsD, beq_self_eq_true, bne_self_eq_false, List.getElem?_map, hx, Option.map_some])) ?_) | exact Sub.refl _ | omega)
      refine ⟨hlt, trivial, Wk.list [] rfl rfl ?_⟩
      repeat' (first | (conv in hold _ => simp (disch := omega) only [go_sem, intsD, beq_self_eq_true, bne_self_eq_false]) | exact True.intro | exact Sub.refl _ | omega)
    · repeat' (first | with_reducible refine acc_none ?_ | (conv in hold _ => simp (disch := omega) only [go_sem, intsD, beq_self_eq_true, bne_self_eq_false]) | refine Stp.go ?_ | (with_reducible first | refine it_pos rfl ?_ | refine it_neg (by decide) ?_ | refine st_nil rfl ?_ | refine s_op ?_ ?_ | exact True.intro) | ((with_reducible first | refine dw_reg0 ?_ | refine dw_regB ?_); (conv => arg 3; whnf)) | (refine Spl.go (fun hq he => ?_) (fun hq he => ?_) <;> first | (exfalso; clear hq; omega) | ((try (first | (conv => arg 8; simp only [hq]) | (conv => arg 4; simp only [hq]))); clear hq)) | ((with_reducible first | refine c_split (fun hq => ?_) (fun hq => ?_) | refine q_split (fun hq => ?_) (fun hq => ?_)) <;> (try (first | (conv => arg 8; simp only [hq]) | (conv => arg 4; simp only [hq])))) | (with_reducible refine fin_0 ?_ (by first | rfl | (conv => lhs; simp only [go_sem, intsD, beq_self_eq_true, bne_self_eq_false])) ?_) | exact Sub.refl _ | omega)
end Go.Proofs.Ytmdijgcaffpgiaa

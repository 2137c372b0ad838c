/-
  The terms of the program: the numbers of two kids.
-/
import Derived.Test.YtfbkbppaignofaaTermB
namespace Go.Proofs.Ytfbkbppaignofaa
open Go.RowKit

/-- The temporaries of 'numbers' on the way. -/
def nbT (T T' : TypeId) (u u' : Value) (R : Option Addr) (rn rc h : Nat) (s7 s8 s12 s16 : Value) : Act :=
  { tmps := #[.agg #[.iface T u, .iface T' u'], .slice R rn rc, .pointer (some ⟨h, 0, none⟩), undef, .int .i64 0, .int .i64 0, .bool false, s7, s8, .pointer (some ⟨h, 0, none⟩), .iface T u, .slice R rn rc, s12, .pointer (some ⟨h, 1, none⟩), .iface T' u', .slice R rn rc, s16, undef, undef, undef, undef, undef, undef, undef, undef, undef, undef, undef, undef], defers := [] }
section
variable {T T' : TypeId} {u u' : Value} {R : Option Addr} {rn rc h : Nat} {s7 s8 s12 s16 : Value} {W : World} {K : Act → World → Prop} {Q : Exit → Act → World → Prop} {x y : M.V} {f : Nat → M.V}

theorem nb_call1 {o : Oper} (ho : o.op = .call { callee := .invoke (.tmp 10) "loop.example/queryoptimizer/impl.value", args := #[.tmp 11], argTypes := #[28] }) (hd : o.dst = some 12) {g : Nat}
    (hm : ∀ w, (method 232 T u "loop.example/queryoptimizer/impl.value").run Try.prog w = .ok (g, u) w)
    (hg : ∀ args w, (callFunc g args).run Try.prog w = .ok (.enter g args) w) (hc : Calls Try.prog g #[u, .slice R rn rc] W fun e w' => e = .returned (.agg #[.bool x.nul, .int .i64 x.n]) ∧ Below W.heap.size W w')
    (hK : ∀ w1, Below W.heap.size W w1 → K (nbT T T' u u' R rn rc h s7 s8 (.agg #[.bool x.nul, .int .i64 x.n]) s16) w1) : Oper.wp Try.prog o (nbT T T' u u' R rn rc h s7 s8 undef s16) W K Q := by
  obtain ⟨dst, op, ty, pos, after, guard⟩ := o
  simp only at ho hd
  subst ho hd
  have HK := Lib.hid hK
  clear hK
  unfold nbT at HK ⊢
  go_wp2_with fail
  refine hc.mono ?_
  rintro e w1 ⟨rfl, hb⟩
  exact HK.out w1 hb

theorem nb_call2 {o : Oper} (ho : o.op = .call { callee := .invoke (.tmp 14) "loop.example/queryoptimizer/impl.value", args := #[.tmp 15], argTypes := #[28] }) (hd : o.dst = some 16) {g : Nat}
    (hm : ∀ w, (method 232 T' u' "loop.example/queryoptimizer/impl.value").run Try.prog w = .ok (g, u') w)
    (hg : ∀ args w, (callFunc g args).run Try.prog w = .ok (.enter g args) w) (hc : Calls Try.prog g #[u', .slice R rn rc] W fun e w' => e = .returned (.agg #[.bool y.nul, .int .i64 y.n]) ∧ Below W.heap.size W w')
    (hK : ∀ w1, Below W.heap.size W w1 → K (nbT T T' u u' R rn rc h s7 s8 s12 (.agg #[.bool y.nul, .int .i64 y.n])) w1) : Oper.wp Try.prog o (nbT T T' u u' R rn rc h s7 s8 s12 undef) W K Q := by
  obtain ⟨dst, op, ty, pos, after, guard⟩ := o
  simp only at ho hd
  subst ho hd
  have HK := Lib.hid hK
  clear hK
  unfold nbT at HK ⊢
  go_wp2_with fail
  refine hc.mono ?_
  rintro e w1 ⟨rfl, hb⟩
  exact HK.out w1 hb

theorem nb_al7 {o : Oper} (ho : o.op = .alloc 24) (hd : o.dst = some 7)
    (hK : K (nbT T T' u u' R rn rc h (.pointer (some ⟨W.heap.size, 0, none⟩)) s8 s12 s16) (W.alloc (.cells #[.bool false, .int .i64 0] 24))) : Oper.wp Try.prog o (nbT T T' u u' R rn rc h undef s8 s12 s16) W K Q := by
  obtain ⟨dst, op, ty, pos, after, guard⟩ := o
  simp only at ho hd
  subst ho hd
  have HK := Lib.hid hK
  clear hK
  unfold nbT at HK ⊢
  go_wp2_with fail
  exact HK.out

theorem nb_al8 {o : Oper} (ho : o.op = .alloc 24) (hd : o.dst = some 8)
    (hK : K (nbT T T' u u' R rn rc h s7 (.pointer (some ⟨W.heap.size, 0, none⟩)) s12 s16) (W.alloc (.cells #[.bool false, .int .i64 0] 24))) : Oper.wp Try.prog o (nbT T T' u u' R rn rc h s7 undef s12 s16) W K Q := by
  obtain ⟨dst, op, ty, pos, after, guard⟩ := o
  simp only at ho hd
  subst ho hd
  have HK := Lib.hid hK
  clear hK
  unfold nbT at HK ⊢
  go_wp2_with fail
  exact HK.out

theorem nb_st7 {o : Oper} (ho : o.op = .store 24 (.tmp 7) (.tmp 12)) (hd : o.dst = none) {g7 g8 : Nat} (hX : Blk W g7 #[.bool false, .int .i64 0] 24)
    (hK : K (nbT T T' u u' R rn rc h (.pointer (some ⟨g7, 0, none⟩)) (.pointer (some ⟨g8, 0, none⟩)) (.agg #[.bool x.nul, .int .i64 x.n]) (.agg #[.bool y.nul, .int .i64 y.n])) ((W.setCell ⟨g7, 0, none⟩ (.bool x.nul)).setCell ⟨g7, 1, none⟩ (.int .i64 x.n))) : Oper.wp Try.prog o (nbT T T' u u' R rn rc h (.pointer (some ⟨g7, 0, none⟩)) (.pointer (some ⟨g8, 0, none⟩)) (.agg #[.bool x.nul, .int .i64 x.n]) (.agg #[.bool y.nul, .int .i64 y.n])) W K Q := by
  obtain ⟨dst, op, ty, pos, after, guard⟩ := o
  simp only at ho hd
  subst ho hd
  have HK := Lib.hid hK
  have r0 := hX.cell 0 _ rfl
  have r1 := hX.cell 1 _ rfl
  have q0 := hX.free 0
  have q1 := hX.free 1
  dsimp only [List.getElem_toArray, List.getElem_cons_zero, List.getElem_cons_succ] at r0 r1
  clear hK
  unfold nbT at HK ⊢
  go_wp2_with fail
  exact HK.out

theorem nb_st8 {o : Oper} (ho : o.op = .store 24 (.tmp 8) (.tmp 16)) (hd : o.dst = none) {g7 g8 : Nat} (hX : Blk W g8 #[.bool false, .int .i64 0] 24)
    (hK : K (nbT T T' u u' R rn rc h (.pointer (some ⟨g7, 0, none⟩)) (.pointer (some ⟨g8, 0, none⟩)) (.agg #[.bool x.nul, .int .i64 x.n]) (.agg #[.bool y.nul, .int .i64 y.n])) ((W.setCell ⟨g8, 0, none⟩ (.bool y.nul)).setCell ⟨g8, 1, none⟩ (.int .i64 y.n))) : Oper.wp Try.prog o (nbT T T' u u' R rn rc h (.pointer (some ⟨g7, 0, none⟩)) (.pointer (some ⟨g8, 0, none⟩)) (.agg #[.bool x.nul, .int .i64 x.n]) (.agg #[.bool y.nul, .int .i64 y.n])) W K Q := by
  obtain ⟨dst, op, ty, pos, after, guard⟩ := o
  simp only at ho hd
  subst ho hd
  have HK := Lib.hid hK
  have r0 := hX.cell 0 _ rfl
  have r1 := hX.cell 1 _ rfl
  have q0 := hX.free 0
  have q1 := hX.free 1
  dsimp only [List.getElem_toArray, List.getElem_cons_zero, List.getElem_cons_succ] at r0 r1
  clear hK
  unfold nbT at HK ⊢
  go_wp2_with fail
  exact HK.out
end
end Go.Proofs.Ytfbkbppaignofaa

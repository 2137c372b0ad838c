/-
  Appending an expression to kids of one's own.
-/
import Derived.Test.YtfbkbppaignofaaTree
import Derived.Test.YtfbkbppaignofaaLineC
import Derived.Maps.AppendAt
namespace Go.Proofs.Ytfbkbppaignofaa
open Go.RowKit

theorem oper_append {P : Program} {w : World} {o : Oper} {a : Act} {K : Act → World → Prop} {Q : Exit → Act → World → Prop} (s x : Operand) (t : TypeId)
    (ho : o.op = .call { callee := .builtin .append, args := #[s, x], argTypes := #[t, t] })
    (base : Nat) (e : TypeId) (i : TypeInfo) (z : Value) (size bytes : Nat) (ht : P.underlying t = some (.slice e)) (hi : P.info? e = some i) (hz : i.zero = some z)
    (hsize : i.size = size) (hby : i.bytes = bytes) (hzs : z.cells.size = size) (hsz : 0 < size)
    (v : Value) (n : Nat) (xs : List Value) (hs : a.eval s = v) (hown : w.ownsRow base e size v n xs)
    (ad : Addr) (m c : Nat) (news : List Value) (hx : a.eval x = .slice (some ad) m c) (hl : news.length = m * size) (hnews : ∀ j u, news[j]? = some u → w.cell? (ad.add j) = some u) (h1 : ∀ u ∈ news, u.oneCell' = true)
    (h63 : n + m ≤ maxLen) (hbytes : (n + m) * bytes ≤ 140737488355328) (hbase : base ≤ w.heap.size)
    (h : ∀ v' w', w'.ownsRow base e size v' (n + m) (xs ++ news) → w.grownBy w' v.ownBlock → (v'.ownBlock = v.ownBlock ∨ v'.ownBlock = some w.heap.size) → K (a.put o.dst v') w') :
    Oper.wp P o a w K Q := by
  obtain ⟨v', w', hr, h2, h3, _, h5⟩ := run_append_own_at (P := P) w base t o.type e i z size bytes ht hi hz hsize hby hzs hsz v n xs hown ad m c news hl hnews h1 h63 hbytes hbase
  unfold Oper.wp execOp
  simp only [ho, resolve, invoke, builtin, Sem.run_bind, Sem.run_pure, Result.andThen_ok, List.map_toArray, List.map_cons, List.map_nil, hs, hx, hr]
  exact h v' w' h2 h3 h5

/-- A tree and where its kids lie. -/
structure TreeY where
  t : ET
  A : Option Addr
  cp : Nat
def TreeY.none : TreeY := ⟨.no, Option.none, 0⟩

namespace ET
def cellsT (l : List TreeY) : List Value := l.flatMap fun x => [.int .i64 x.t.k, .int .i64 x.t.c, .bool x.t.b, .int .i64 x.t.n, .slice x.A x.t.m x.cp]
theorem cellsT_snoc (l : List TreeY) (x : TreeY) : cellsT (l ++ [x]) = cellsT l ++ [.int .i64 x.t.k, .int .i64 x.t.c, .bool x.t.b, .int .i64 x.t.n, .slice x.A x.t.m x.cp] := by simp [cellsT]
theorem cellsT_len (l : List TreeY) : (cellsT l).length = l.length * 5 := by
  induction l with
  | nil => rfl
  | cons x l ih =>
    have : cellsT (x :: l) = [.int .i64 x.t.k, .int .i64 x.t.c, .bool x.t.b, .int .i64 x.t.n, .slice x.A x.t.m x.cp] ++ cellsT l := rfl
    rw [this, List.length_append, ih]
    simp
    omega
theorem cellsT_at (l : List TreeY) (i d : Nat) (h : i < l.length) (hd : d < 5) : (cellsT l)[i * 5 + d]? = [Value.int .i64 (l.getD i TreeY.none).t.k, .int .i64 (l.getD i TreeY.none).t.c, .bool (l.getD i TreeY.none).t.b, .int .i64 (l.getD i TreeY.none).t.n, .slice (l.getD i TreeY.none).A (l.getD i TreeY.none).t.m (l.getD i TreeY.none).cp][d]? := by
  induction l generalizing i with
  | nil => simp at h
  | cons x l ih =>
    have e : cellsT (x :: l) = [.int .i64 x.t.k, .int .i64 x.t.c, .bool x.t.b, .int .i64 x.t.n, .slice x.A x.t.m x.cp] ++ cellsT l := rfl
    rw [e]
    cases i with
    | zero =>
      rw [List.getElem?_append_left (by simp; omega)]
      simp
    | succ i =>
      rw [List.getElem?_append_right (by simp; omega)]
      have := ih i (by simpa using h)
      rw [show (i + 1) * 5 + d - [Value.int .i64 x.t.k, .int .i64 x.t.c, .bool x.t.b, .int .i64 x.t.n, .slice x.A x.t.m x.cp].length = i * 5 + d by simp; omega, this]
      simp

/-- The kids that a row of one's own holds. -/
theorem own_kids {w : World} {base lo : Nat} {v : Value} {n : Nat} {l : List TreeY} (h : w.ownsRow base 27 5 v n (cellsT l)) (hl : l.length = n) (hlo : lo ≤ base)
    (hT : ∀ x ∈ l, x.t.At w (fun b => lo ≤ b ∧ v.ownBlock ≠ some b) x.A) : ∃ A c, v = .slice A n c ∧ KidsAt w (lo ≤ ·) n (fun i => (l.getD i TreeY.none).t) A := by
  obtain ⟨_, ⟨rfl, rfl⟩ | ⟨g, cap, cur, rfl, hg, hh, hnc, hcm, hsz, hx⟩⟩ := h
  · exact ⟨none, 0, rfl, fun h => absurd h (Nat.lt_irrefl 0)⟩
  · refine ⟨some ⟨g, 0, none⟩, cap, rfl, fun _ => ⟨g, 0, rfl, by omega, fun i hi => ?_⟩⟩
    have e : ∀ d, d < 5 → w.cell? ⟨g, 0 + i * 5 + d, none⟩ = (cellsT l)[i * 5 + d]? := fun d hd => by
      rw [Nat.zero_add, cell_of_row w g _ cur _ _ hh, ← hx, List.getElem?_take_of_lt (by omega), Array.getElem?_toList]
    have f := fun d hd => (e d hd).trans (cellsT_at l i d (by omega) hd)
    have hm : l.getD i TreeY.none ∈ l := by
      rw [List.getD_eq_getElem?_getD, List.getElem?_eq_getElem (by omega)]
      exact List.getElem_mem _
    exact ⟨_, _, f 0 (by omega), f 1 (by omega), f 2 (by omega), f 3 (by omega), f 4 (by omega), (hT _ hm).wide (fun b hb => hb.1)⟩
end ET
end Go.Proofs.Ytfbkbppaignofaa

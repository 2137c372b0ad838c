/-
  What stands while kids are drawn and appended.
-/
import Derived.Test.YtfbkbppaignofaaKids
import Derived.Test.YtfbkbppaignofaaBlk
import Derived.Test.YtfbkbppaignofaaDrawRow
import Derived.Test.YtfbkbppaignofaaTreeT
namespace Go.Proofs.Ytfbkbppaignofaa
open Go.RowKit

theorem Blk.grown {w w' : World} {g rb : Nat} {cs : Array Value} {T : TypeId} (h : Blk w g cs T) (hg : w.grownBy w' (some rb)) (hne : g ≠ rb) : Blk w' g cs T := (hg.block g h.lt (by intro e; injection e with e; exact hne e)).trans h

namespace ET
theorem At.grown {w w' : World} {s : Nat → Prop} {rb : Nat} {t : ET} {A : Option Addr} (h : t.At w s A) (hs : ∀ b, s b → b ≠ rb) (hg : w.grownBy w' (some rb)) : t.At w' s A :=
  At.keep (fun _ h => h) (fun b o _v hb hv => ((own_step hg (hs b hb) (World.block_lt_of_cell? w ⟨b, o, none⟩ hv)).1 o).trans hv) t A h

def five (x : TreeY) : List Value := [.int .i64 x.t.k, .int .i64 x.t.c, .bool x.t.b, .int .i64 x.t.n, .slice x.A x.t.m x.cp]

/-- On the way: the new expression (block go, its kids' cell holds u), the row of kids v, the kids l, the result's block, the reader. -/
structure KS (w W : World) (B rb K go : Nat) (kd : Int) (u v : Value) (l : List TreeY) : Prop where
  out : Blk W go #[.int .i64 kd, .int .i64 0, .bool false, .int .i64 0, u] 27
  row : W.ownsRow (go + 1) 27 5 v l.length (cellsT l)
  kids : ∀ x ∈ l, x.t.At W (fun b => go < b ∧ v.ownBlock ≠ some b) x.A ∧ x.t.Most 2
  res : Blk W w.heap.size #[.int .i64 0, .int .i64 0, .bool false, .int .i64 0, .slice none 0 0] 27
  rd : Rd W B rb K
  gr : w.grownBy W (some rb)
  hgo : w.heap.size < go
  hrb : rb < w.heap.size

theorem own_geT {w : World} {B n : Nat} {v : Value} {xs : List Value} (h : w.ownsRow B 27 5 v n xs) : ∀ g, v.ownBlock = some g → B ≤ g := by
  intro g hg
  rcases h.2 with ⟨rfl, _⟩ | ⟨g', cap, cur, rfl, hgB, _⟩
  · simp [Value.ownBlock] at hg
  · simp [Value.ownBlock] at hg; omega
theorem own_drawT {w w' : World} {B rb n : Nat} {v : Value} {xs : List Value} (h : w.ownsRow B 27 5 v n xs) (hB : rb < B) (hg : w.grownBy w' (some rb)) : w'.ownsRow B 27 5 v n xs := by
  obtain ⟨hl, h | ⟨g, cap, cur, hv, hgB, hh, r⟩⟩ := h
  · exact ⟨hl, .inl h⟩
  · have hlt : g < w.heap.size := (Array.getElem?_eq_some_iff.1 hh).1
    exact ⟨hl, .inr ⟨g, cap, cur, hv, hgB, (hg.block g hlt (by intro e; injection e with e; omega)).trans hh, r⟩⟩
theorem own_setT {w : World} {B n : Nat} {v : Value} {xs : List Value} (h : w.ownsRow B 27 5 v n xs) (p : Addr) (hp : p.block < B) (u : Value) : (w.setCell p u).ownsRow B 27 5 v n xs := by
  obtain ⟨hl, h | ⟨g, cap, cur, hv, hgB, hh, r⟩⟩ := h
  · exact ⟨hl, .inl h⟩
  · exact ⟨hl, .inr ⟨g, cap, cur, hv, hgB, Blk.other (T := 27) (cs := cur) hh p (by omega) u, r⟩⟩

section
variable {w W W' : World} {B rb K K' go : Nat} {kd : Int} {u v v' : Value} {l : List TreeY}

theorem KS.alloc (h : KS w W B rb K go kd u v l) (o : Obj) : KS w (W.alloc o) B rb K go kd u v l :=
  ⟨h.out.alloc o, h.row.alloc o, fun x hx => ⟨(h.kids x hx).1.more ((Below.refl _ _).alloc (Nat.le_refl _) _) (fun _ h => h), (h.kids x hx).2⟩, h.res.alloc o, h.rd.alloc o, G_alloc h.gr o, h.hgo, h.hrb⟩
theorem KS.drew (h : KS w W B rb K go kd u v l) : KS w W.drew B rb K go kd u v l :=
  ⟨h.out, h.row, fun x hx => ⟨(h.kids x hx).1.more (Below.refl _ _).drew (fun _ h => h), (h.kids x hx).2⟩, h.res, h.rd.drew, G_drew h.gr, h.hgo, h.hrb⟩
theorem KS.grown (h : KS w W B rb K go kd u v l) (hg : W.grownBy W' (some rb)) (hr : Rd W' B rb K') : KS w W' B rb K' go kd u v l :=
  ⟨h.out.grown hg (by have := h.hgo; have := h.hrb; omega), own_drawT h.row (by have := h.hgo; have := h.hrb; omega) hg,
    fun x hx => ⟨(h.kids x hx).1.grown (fun b hb => by have := h.hrb; have := h.hgo; omega) hg, (h.kids x hx).2⟩, h.res.grown hg (by have := h.hrb; omega), hr, G_more h.gr hg, h.hgo, h.hrb⟩

theorem KS.append (h : KS w W B rb K go kd u v l) (x : TreeY) (hx : x.t.At W (fun b => go < b ∧ v.ownBlock ≠ some b) x.A) (hm : x.t.Most 2) (hown : W'.ownsRow (go + 1) 27 5 v' (l.length + 1) (cellsT l ++ five x))
    (hg : W.grownBy W' v.ownBlock) (hb : v'.ownBlock = v.ownBlock ∨ v'.ownBlock = some W.heap.size) : KS w W' B rb K go kd u v' (l ++ [x]) := by
  have hge := own_geT h.row
  have hgo := h.hgo
  have hrb := h.hrb
  have hB := h.rd.base
  have blk : ∀ g cs T, Blk W g cs T → g ≤ go → Blk W' g cs T := fun g cs T hb hgg => (hg.block g hb.lt (by intro e; have := hge g e.symm; omega)).trans hb
  have tr : ∀ (t : ET) (A : Option Addr), t.At W (fun b => go < b ∧ v.ownBlock ≠ some b) A → t.At W' (fun b => go < b ∧ v'.ownBlock ≠ some b) A := fun t A ht =>
    At.keep (s := fun b => (go < b ∧ v.ownBlock ≠ some b) ∧ b < W.heap.size) (fun b hb2 => ⟨hb2.1.1, by
        rcases hb with e | e
        · rw [e]; exact hb2.1.2
        · rw [e]; intro e2; injection e2 with e2; omega⟩)
      (fun b o q hb2 hq => by
        have hbl := hg.block b hb2.2 (fun e => hb2.1.2 e.symm)
        have : W'.cell? ⟨b, o, none⟩ = W.cell? ⟨b, o, none⟩ := by simp [World.cell?, hbl]
        rw [this]; exact hq) t A (At.lt t A ht)
  refine ⟨blk go _ _ h.out (Nat.le_refl _), ?_, fun y hy => ?_, blk _ _ _ h.res (by omega), h.rd.app hg (fun e => by have := hge rb e; omega) (fun g e => by have := hge g e; omega), G_app h.gr hg (fun g e => by have := hge g e; omega), hgo, hrb⟩
  · rw [List.length_append, cellsT_snoc]
    exact hown
  · rcases List.mem_append.1 hy with hy | hy
    · exact ⟨tr _ _ (h.kids y hy).1, (h.kids y hy).2⟩
    · rw [List.mem_singleton.1 hy]
      exact ⟨tr _ _ hx, hm⟩
theorem KS.store (h : KS w W B rb K go kd u v l) : KS w (W.setCell ⟨go, 4, none⟩ v) B rb K go kd v v l := by
  have hgo := h.hgo
  have hrb := h.hrb
  have hB := h.rd.base
  have hge := own_geT h.row
  exact ⟨h.out.put' 4 v rfl, own_setT h.row _ (Nat.lt_succ_self go) v, fun x hx => ⟨(h.kids x hx).1.put (by show ¬ (go < go ∧ _); omega) v, (h.kids x hx).2⟩, h.res.other _ (by show go ≠ w.heap.size; omega) v, h.rd.set (by show B ≤ go; omega) (by show go ≠ rb; omega) v, G_set h.gr (by show w.heap.size ≤ go; omega) v, hgo, hrb⟩
end
end ET
end Go.Proofs.Ytfbkbppaignofaa

/-
  What is known of a law's bytes as plain data; a law that answers true on plain data answers true. No condition.
-/
import Derived.KernelRfl
import Derived.Test.YtibknjpbbeackaaGreatJSVGo
import Derived.Test.YtibknjpbbeackaaGreatJSDcWEpI
import Derived.Test.YtibknjpbbeackaaGreatRows
import Derived.Test.YtibknjpbbeackaaGreatJSVTbD
namespace Go.Proofs.YtibknjpbbeackaaGreat
open Go.RowKit
theorem code_fz {a : Option Addr} {len cap : Nat} {zs : List Int} {w : World} (h : IsRow .u8 w a len cap zs) : ∃ cs : List Nat, (∀ b, b ∈ cs → b < 256) ∧ Fz w (allOf w) noNames (bytesD cs) (.slice a len cap) := by
  rcases h with ⟨rfl, rfl, rfl, rfl⟩ | ⟨x, rfl, hl, hm, hz, hc, hwz⟩
  · exact ⟨[], (fun b h => by cases h), .sl0 _ 1 none 0⟩
  · by_cases h0 : len = 0
    · subst h0
      exact ⟨[], (fun b h => by cases h), .sl0 _ 1 (some x) cap⟩
    · obtain ⟨b, off, sp⟩ := x
      have hsp : sp = none := by
        have := hc 0 (by omega)
        unfold World.cell? at this
        split at this
        · cases sp with
          | none => rfl
          | some s => simp [Addr.add] at this
        · cases this
      subst hsp
      have hc' : ∀ i, i < cap → w.cell? ⟨b, off + i, none⟩ = some (.int .u8 (zs.getD i 0)) := fun i hi => by have := hc i (by omega); rwa [Addr.add_lit] at this
      have hb : b < w.heap.size := by
        have := hc' 0 (by omega)
        unfold World.cell? at this
        split at this
        · rename_i h; exact (Array.getElem?_eq_some_iff.1 h).1
        · cases this
      have hrange : ∀ i, i < cap → 0 ≤ zs.getD i 0 ∧ zs.getD i 0 < 256 := fun i hi => by
        have hm : zs.getD i 0 ∈ zs := by rw [List.getD_eq_getElem?_getD, List.getElem?_eq_getElem (by omega)]; exact List.getElem_mem _
        have := hwz _ hm
        generalize zs.getD i 0 = z at this ⊢
        simp [Lit.wf, IntKind.min, IntKind.max, IntKind.bits, IntKind.signed] at this
        omega
      refine ⟨(List.range len).map fun i => (zs.getD i 0).toNat, fun n hn => ?_, ?_⟩
      · obtain ⟨i, hi, rfl⟩ := List.mem_map.1 hn
        have := hrange i (by have := List.mem_range.1 hi; omega)
        omega
      · have hlen : (((List.range len).map fun i => (zs.getD i 0).toNat).map byteD).length = len := by simp
        have := Fz.sl (w := w) (F := allOf w) noNames 1 (((List.range len).map fun i => (zs.getD i 0).toNat).map byteD) b off cap (fun k => .int .u8 (zs.getD k 0)) (by decide) (by rw [hlen]; exact hl) (fun e he => ?_) (fun k hk => ?_) (fun k d hd => ?_)
        · rw [hlen] at this
          exact this
        · obtain ⟨n, _, rfl⟩ := List.mem_map.1 he
          rfl
        · rw [hlen] at hk
          exact ⟨hc' k (by omega), hb, rfl⟩
        · have hf : ∀ l : List Nat, D.flat (l.map byteD) = l.map byteD := by
            intro l
            induction l with
            | nil => rfl
            | cons n l ih => rw [List.map_cons, D.flat, List.flatMap_cons, ← D.flat, ih]; rfl
          rw [hf, List.getElem?_map, List.getElem?_map] at hd
          have hk : k < len := by
            cases hr : (List.range len)[k]? with
            | none => rw [hr] at hd; cases hd
            | some j => have := (List.getElem?_eq_some_iff.1 hr).1; simpa using this
          rw [List.getElem?_range hk] at hd
          obtain rfl : byteD (zs.getD k 0).toNat = d := by simpa using hd
          have := hrange k (by omega)
          unfold byteD
          rw [Int.toNat_of_nonneg this.1]
          exact .v _ _
theorem walk_of {f : FuncId} (hdo : ∀ cs : List Nat, (∀ b, b ∈ cs → b < 256) → Does Tryz.prog f [] [bytesD cs] (Bo true) []) (a : Option Addr) (len cap : Nat) (zs : List Int) (w : World) (h : IsRow .u8 w a len cap zs) :
    Calls Tryz.prog f #[.slice a len cap] w fun e W' => e = .returned (.bool true) ∧ Below w.heap.size w W' := by
  obtain ⟨cs, hcs, hfz⟩ := code_fz h
  refine calls_of (hdo cs hcs) w [.slice a len cap] rfl (fun i d x hd hx => ?_)
  rcases i with _ | i
  · obtain rfl : bytesD cs = d := by simpa using hd
    obtain rfl : Value.slice a len cap = x := by simpa using hx
    exact hfz
  · simp at hd
end Go.Proofs.YtibknjpbbeackaaGreat
namespace Go.Proofs.YtibknjpbbeackaaGreat
open Go.RowKit
noncomputable section
def r_Z15_0 : List GI := [gi 3 (.box 3 2000003 (.t 0) none), gi 4 (.box 4 2000004 (.t 1) none), gi 5 (.box 5 2000005 (.t 2) none), gi 6 (.mov 6 (.k (.v .nilFunc)))]
def r_Z15_1 : List GI := [gi 7 (.mkf 7 73 [.t 4, .t 5, .t 3]), gt 6 7]
def dc_Z15 : DC := .seq (.z r_Z15_0) (.seq (.z r_Z15_1) .ret)
theorem c_Z15 : cfun Tryz.prog [] 45 = some (8, dc_Z15, [(Res.tmp 6)]) := by kernel_rfl
def r_Z12_0 : List GI := [gi 4 (.box 4 2000004 (.t 0) none)]
def r_Z12_1 : List GI := [gl 7 1, gl 8 2, gi 9 (.build 9 [.nul, .v .nilFunc] [(0, (none, .t 7)), (1, (none, .t 8))]), gi 5 (.alloc 5 2000005 [.nul, .v .nilFunc]), g0 (.sto 5 (.t 9) (some 2))]
def r_Z12_2 : List GI := [gl 10 3, gl 11 2, gc 12 74 [.t 10, .t 11]]
def r_Z12_3 : List GI := [gt 6 13]
def r_Z12_4 : List GI := [gl 14 4, gt 15 6, gt 16 6, gi 17 (.iad 17 16 (.k (I 0)) 1), gl 18 17, gc 19 75 [.t 5, .t 18], ⟨.cal 20 (.t 14) [.t 15, .t 19], some 20, none, true⟩, gi 21 (.un 21 UnOp.not (.t 20))]
def dc_Z12 : DC := .seq (.z r_Z12_0) (.seq (.z r_Z12_1) (.seq (.z r_Z12_2) (.block 0 (.rng (.t 12) [13] (.z r_Z12_3) (.block 1 (.seq (.reg r_Z12_4 (some [0, 0, 0, 4, 12, 28, 63, 127])) (.cond (.t 21) .ret .skip)))))))
theorem c_Z12 : cfun Tryz.prog [] 73 = some (22, dc_Z12, []) := by kernel_rfl
def r_Z95_0 : List GI := [gi 2 (.box 2 2000002 (.t 0) (some 2)), gi 3 (.box 3 2000003 (.t 1) (some 2)), gi 4 (.alloc 4 2000004 [.v (.bool false)])]
def r_Z95_1 : List GI := [gs 7 2 2, gs 8 3 2, gc 9 43 [.t 7, .t 8], gi 10 (.un 10 UnOp.not (.t 9))]
def r_Z95_2 : List GI := [g0 (.sto 4 (.k (.v (.bool false))) none)]
def r_Z95_3 : List GI := [gf 11 2 1, gl 12 11, gf 13 3 1, gl 14 13, ⟨.call 15 45 [.t 12, .t 14, .k (.fn 46 [])], some 15, none, true⟩]
def r_Z95_4 : List GI := [gt 5 16]
def r_Z95_5 : List GI := [gt 6 17]
def r_Z95_6 : List GI := [gt 18 5, gn 19 18, gt 20 6, gn 21 20, gb 22 .gtr 19 21]
def r_Z95_7 : List GI := [g0 (.sto 4 (.k (.v (.bool false))) none)]
def r_Z95_8 : List GI := [g0 (.sto 4 (.k (.v (.bool true))) none)]
def dc_Z95 : DC := .seq (.z r_Z95_0) (.seq (.seq (.z r_Z95_1) (.cond (.t 10) (.seq (.z r_Z95_2) .ret) .skip)) (.seq (.seq (.z r_Z95_3) (.block 0 (.rng (.t 15) [16, 17] (.seq (.z r_Z95_4) (.z r_Z95_5)) (.block 1 (.seq (.z r_Z95_6) (.cond (.t 22) (.seq (.z r_Z95_7) .ret) .skip)))))) (.seq (.z r_Z95_8) .ret)))
theorem c_Z95 : cfun Tryz.prog [] 25 = some (23, dc_Z95, [(Res.cell 4 none)]) := by kernel_rfl
end
end Go.Proofs.YtibknjpbbeackaaGreat

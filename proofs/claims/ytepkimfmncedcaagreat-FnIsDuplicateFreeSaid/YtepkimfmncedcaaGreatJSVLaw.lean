/-
  Functions of the program read as code on plain data. Closed facts of the program alone.
-/
import Derived.KernelRfl
import Derived.Test.YtepkimfmncedcaaGreatRows
import Derived.Test.YtepkimfmncedcaaGreatJSVGo
import Derived.Test.YtepkimfmncedcaaGreatJSVTbD
import Derived.Test.YtepkimfmncedcaaGreatJSDcWDfP
namespace Go.Proofs.YtepkimfmncedcaaGreat
open Go.RowKit
noncomputable section
def name_impl_distinct : String := match Tryz.prog.info? 68 with
  | some i => ((i.methods.toList[0]?).map (fun m => m.name)).getD default
  | none => default
def name_impl_filter : String := match Tryz.prog.info? 68 with
  | some i => ((i.methods.toList[1]?).map (fun m => m.name)).getD default
  | none => default
def name_impl_group : String := match Tryz.prog.info? 68 with
  | some i => ((i.methods.toList[2]?).map (fun m => m.name)).getD default
  | none => default
def name_impl_join : String := match Tryz.prog.info? 68 with
  | some i => ((i.methods.toList[3]?).map (fun m => m.name)).getD default
  | none => default
def name_impl_leftJoin : String := match Tryz.prog.info? 68 with
  | some i => ((i.methods.toList[4]?).map (fun m => m.name)).getD default
  | none => default
def name_impl_project : String := match Tryz.prog.info? 68 with
  | some i => ((i.methods.toList[5]?).map (fun m => m.name)).getD default
  | none => default
def name_impl_scan : String := match Tryz.prog.info? 68 with
  | some i => ((i.methods.toList[6]?).map (fun m => m.name)).getD default
  | none => default
def name_impl_union : String := match Tryz.prog.info? 68 with
  | some i => ((i.methods.toList[7]?).map (fun m => m.name)).getD default
  | none => default
def r_Z63_0 : List GI := [gi 4 (.mov 4 (.k .nul))]
def r_Z63_1 : List GI := [gi 7 (.mov 7 (.k .nul)), gt 5 7]
def r_Z63_2 : List GI := [gk 6 0]
def r_Z63_3 : List GI := [gt 8 6, gt 9 1, gn 10 9, gb 11 .lss 8 10]
def r_Z63_4 : List GI := [gt 14 5, gt 15 0, gt 16 1, gt 17 6, ga 18 16 17 1, gl 19 18, gi 20 (.mm 20 true (.t 19) (.k (I 1))), gi 21 (.mm 21 false (.t 20) (.k (I 6))), gc 22 101 [.t 15, .t 21, .k (I 4)], gi 23 (.bsl 23 2 (some 2) [.agg [I 0, .nul]] [(0, .t 22)]), gi 24 (.app 24 2000024 (.t 14) (.t 23) 2 32), gt 5 24]
def r_Z63_5 : List GI := [gt 12 6, gd 13 .add 12 1, gt 6 13]
def r_Z63_6 : List GI := [gt 25 5, gt 4 25]
def dc_Z63 : DC := .seq (.z r_Z63_0) (.seq (.z r_Z63_1) (.seq (.seq (.z r_Z63_2) (.block 0 (.loop (.seq (.seq (.z r_Z63_3) (.cond (.t 11) .skip (.exit 0))) (.seq (.block 1 (.z r_Z63_4)) (.z r_Z63_5)))))) (.seq (.z r_Z63_6) .ret)))
theorem c_Z63 : cfun Tryz.prog [] 57 = some (26, dc_Z63, [(Res.tmp 4)]) := by kernel_rfl
def r_Z154_0 : List GI := [gi 2 (.mov 2 (.k .nul))]
def r_Z154_1 : List GI := [gi 5 (.mov 5 (.k .nul)), gt 3 5]
def r_Z154_2 : List GI := [gk 4 0]
def r_Z154_3 : List GI := [gt 6 4, gt 7 0, gn 8 7, gb 9 .lss 6 8]
def r_Z154_4 : List GI := [gt 12 3, gt 13 0, gt 14 4, ga 15 13 14 2, gf 16 15 0, gl 17 16, gi 18 (.bsl 18 1 none [I 0] [(0, .t 17)]), gi 19 (.app 19 2000019 (.t 12) (.t 18) 1 8), gt 3 19]
def r_Z154_5 : List GI := [gt 10 4, gd 11 .add 10 1, gt 4 11]
def r_Z154_6 : List GI := [gt 20 3, gt 2 20]
def dc_Z154 : DC := .seq (.z r_Z154_0) (.seq (.z r_Z154_1) (.seq (.seq (.z r_Z154_2) (.block 0 (.loop (.seq (.seq (.z r_Z154_3) (.cond (.t 9) .skip (.exit 0))) (.seq (.block 1 (.z r_Z154_4)) (.z r_Z154_5)))))) (.seq (.z r_Z154_6) .ret)))
theorem c_Z154 : cfun Tryz.prog [] 13 = some (21, dc_Z154, [(Res.tmp 2)]) := by kernel_rfl
def r_Z80_0 : List GI := [gi 4 (.mov 4 (.k (.v (.bool false))))]
def r_Z80_1 : List GI := [gt 7 1, gk 8 0]
def r_Z80_2 : List GI := [gb 9 .lss 8 7]
def r_Z80_3 : List GI := [gt 10 8, gi 5 (.alloc 5 2000005 [I 0]), g0 (.sto 5 (.t 10) none)]
def r_Z80_4 : List GI := [gi 11 (.mkf 11 272 [.t 5]), gt 6 11]
def r_Z80_5 : List GI := [gt 12 0, gt 13 6, gc 14 273 [.t 12, .t 13], gi 15 (.un 15 UnOp.not (.t 14))]
def r_Z80_6 : List GI := [gi 4 (.mov 4 (.k (.v (.bool false))))]
def r_Z80_7 : List GI := [gd 16 .add 8 1, gt 8 16]
def r_Z80_8 : List GI := [gi 4 (.mov 4 (.k (.v (.bool true))))]
def dc_Z80 : DC := .seq (.z r_Z80_0) (.seq (.seq (.z r_Z80_1) (.block 0 (.loop (.seq (.z r_Z80_2) (.seq (.cond (.t 9) .skip (.exit 0)) (.seq (.block 1 (.seq (.z r_Z80_3) (.seq (.z r_Z80_4) (.seq (.z r_Z80_5) (.cond (.t 15) (.seq (.z r_Z80_6) .ret) .skip))))) (.z r_Z80_7))))))) (.seq (.z r_Z80_8) .ret))
theorem c_Z80 : cfun Tryz.prog [] 271 = some (17, dc_Z80, [(Res.tmp 4)]) := by kernel_rfl
def r_Z59_0 : List GI := [gi 2 (.box 2 2000002 (.t 0) (some 5)), gi 3 (.mov 3 (.k (.v (.bool false))))]
def r_Z59_1 : List GI := [gf 4 2 0, gl 5 4, gd 6 .eql 5 1, gt 7 6, ⟨.fad 8 2 1, some 8, some (7, true), false⟩, ⟨.lod 9 8 none, some 9, some (7, true), false⟩, ⟨.lod 10 1 none, some 10, some (7, true), false⟩, ⟨.bin 11 .eql (.t 9) (.t 10), some 11, some (7, true), false⟩, gi 12 (.pick 12 (.t 7) (.t 11) (.k (.v (.bool false)))), gt 3 12]
def dc_Z59 : DC := .seq (.z r_Z59_0) (.seq (.z r_Z59_1) .ret)
theorem c_Z59 : cfun Tryz.prog [] 272 = some (13, dc_Z59, [(Res.tmp 3)]) := by kernel_rfl
def r_Z5_0 : List GI := [gi 4 (.mov 4 (.k (.v (.bool false))))]
def r_Z5_1 : List GI := [gt 5 0, gt 6 1, gc 7 274 [.t 5, .t 6], gd 8 .geq 7 0, gt 4 8]
def dc_Z5 : DC := .seq (.z r_Z5_0) (.seq (.z r_Z5_1) .ret)
theorem c_Z5 : cfun Tryz.prog [] 273 = some (9, dc_Z5, [(Res.tmp 4)]) := by kernel_rfl
def r_Z8_0 : List GI := [gk 4 0]
def r_Z8_1 : List GI := [gt 6 0, gn 7 6, gk 8 0]
def r_Z8_2 : List GI := [gb 9 .lss 8 7]
def r_Z8_3 : List GI := [gt 10 8, gt 5 10]
def r_Z8_4 : List GI := [gt 11 1, gt 12 0, gt 13 5, ga 14 12 13 5, gs 15 14 5, ⟨.cal 16 (.t 11) [.t 15], some 16, none, true⟩]
def r_Z8_5 : List GI := [gt 17 5, gt 4 17]
def r_Z8_6 : List GI := [gd 18 .add 8 1, gt 8 18]
def r_Z8_7 : List GI := [gi 4 (.mov 4 (.k (.v (.int .i64 (-1)))))]
def dc_Z8 : DC := .seq (.z r_Z8_0) (.seq (.seq (.z r_Z8_1) (.block 0 (.loop (.seq (.z r_Z8_2) (.seq (.cond (.t 9) .skip (.exit 0)) (.seq (.block 1 (.seq (.z r_Z8_3) (.seq (.z r_Z8_4) (.cond (.t 16) (.seq (.z r_Z8_5) .ret) .skip)))) (.z r_Z8_6))))))) (.seq (.z r_Z8_7) .ret))
theorem c_Z8 : cfun Tryz.prog [] 274 = some (19, dc_Z8, [(Res.tmp 4)]) := by kernel_rfl
def r_Z166_0 : List GI := [gi 4 (.mov 4 (.k (.v (.bool false))))]
def r_Z166_1 : List GI := [gk 5 0]
def r_Z166_2 : List GI := [gt 8 5, gt 9 1, gb 10 .lss 8 9]
def r_Z166_3 : List GI := [gi 6 (.mov 6 (.k (.v (.bool false))))]
def r_Z166_4 : List GI := [gk 7 0]
def r_Z166_5 : List GI := [gt 13 7, gt 14 0, gn 15 14, gb 16 .lss 13 15]
def r_Z166_6 : List GI := [gt 19 6, gt 20 19, ⟨.mov 21 (.t 0), some 21, some (20, false), false⟩, ⟨.mov 22 (.t 7), some 22, some (20, false), false⟩, ⟨.iad 23 21 (.t 22) 5, some 23, some (20, false), false⟩, ⟨.fad 24 23 0, some 24, some (20, false), false⟩, ⟨.lod 25 24 none, some 25, some (20, false), false⟩, ⟨.bin 26 .eql (.t 25) (.k (I 1)), some 26, some (20, false), false⟩, ⟨.mov 27 (.t 26), some 27, some (20, false), false⟩, ⟨.mov 28 (.t 0), some 28, some (27, true), false⟩, ⟨.mov 29 (.t 7), some 29, some (27, true), false⟩, ⟨.iad 30 28 (.t 29) 5, some 30, some (27, true), false⟩, ⟨.fad 31 30 1, some 31, some (27, true), false⟩, ⟨.lod 32 31 none, some 32, some (27, true), false⟩, ⟨.mov 33 (.t 5), some 33, some (27, true), false⟩, ⟨.bin 34 .eql (.t 32) (.t 33), some 34, some (27, true), false⟩, ⟨.pick 35 (.t 27) (.t 34) (.k (.v (.bool false))), some 35, some (20, false), false⟩, gi 36 (.pick 36 (.t 20) (.k (.v (.bool true))) (.t 35)), gt 6 36]
def r_Z166_7 : List GI := [gt 17 7, gd 18 .add 17 1, gt 7 18]
def r_Z166_8 : List GI := [gt 37 6, gi 38 (.un 38 UnOp.not (.t 37))]
def r_Z166_9 : List GI := [gi 4 (.mov 4 (.k (.v (.bool false))))]
def r_Z166_10 : List GI := [gt 11 5, gd 12 .add 11 1, gt 5 12]
def r_Z166_11 : List GI := [gi 4 (.mov 4 (.k (.v (.bool true))))]
def dc_Z166 : DC := .seq (.z r_Z166_0) (.seq (.seq (.z r_Z166_1) (.block 0 (.loop (.seq (.seq (.z r_Z166_2) (.cond (.t 10) .skip (.exit 0))) (.seq (.block 1 (.seq (.z r_Z166_3) (.seq (.seq (.z r_Z166_4) (.block 2 (.loop (.seq (.seq (.z r_Z166_5) (.cond (.t 16) .skip (.exit 2))) (.seq (.block 3 (.z r_Z166_6)) (.z r_Z166_7)))))) (.seq (.z r_Z166_8) (.cond (.t 38) (.seq (.z r_Z166_9) .ret) .skip))))) (.z r_Z166_10)))))) (.seq (.z r_Z166_11) .ret))
theorem c_Z166 : cfun Tryz.prog [] 95 = some (39, dc_Z166, [(Res.tmp 4)]) := by kernel_rfl
end
end Go.Proofs.YtepkimfmncedcaaGreat
namespace Go.Proofs.YtepkimfmncedcaaGreat
open Go.RowKit
theorem code_fz {a : Option Addr} {len cap : Nat} {zs : List Int} {w : World} (h : IsRow .u8 w a len cap zs) : ∃ cs : List Nat, (∀ b, b ∈ cs → b < 256) ∧ Fz w (allOf w) noNames (bytesD cs) (.slice a len cap) := by
  rcases h with ⟨rfl, rfl, rfl, rfl⟩ | ⟨x, rfl, hl, hm, hz, hc, hwz⟩
  · exact ⟨[], (fun b h => by cases h), .sl0 _ 1 none 0⟩
  · by_cases h0 : len = 0
    · subst h0
      exact ⟨[], (fun b h => by cases h), .sl0 _ 1 (some x) cap⟩
    · obtain ⟨b, off, sp⟩ := x
      have hsp : sp = none := by
        have := hc 0 (by omega)
        unfold World.cell? at this
        split at this
        · cases sp with
          | none => rfl
          | some s => simp [Addr.add] at this
        · cases this
      subst hsp
      have hc' : ∀ i, i < cap → w.cell? ⟨b, off + i, none⟩ = some (.int .u8 (zs.getD i 0)) := fun i hi => by have := hc i (by omega); rwa [Addr.add_lit] at this
      have hb : b < w.heap.size := by
        have := hc' 0 (by omega)
        unfold World.cell? at this
        split at this
        · rename_i h; exact (Array.getElem?_eq_some_iff.1 h).1
        · cases this
      have hrange : ∀ i, i < cap → 0 ≤ zs.getD i 0 ∧ zs.getD i 0 < 256 := fun i hi => by
        have hm : zs.getD i 0 ∈ zs := by rw [List.getD_eq_getElem?_getD, List.getElem?_eq_getElem (by omega)]; exact List.getElem_mem _
        have := hwz _ hm
        generalize zs.getD i 0 = z at this ⊢
        simp [Lit.wf, IntKind.min, IntKind.max, IntKind.bits, IntKind.signed] at this
        omega
      refine ⟨(List.range len).map fun i => (zs.getD i 0).toNat, fun n hn => ?_, ?_⟩
      · obtain ⟨i, hi, rfl⟩ := List.mem_map.1 hn
        have := hrange i (by have := List.mem_range.1 hi; omega)
        omega
      · have hlen : (((List.range len).map fun i => (zs.getD i 0).toNat).map byteD).length = len := by simp
        have := Fz.sl (w := w) (F := allOf w) noNames 1 (((List.range len).map fun i => (zs.getD i 0).toNat).map byteD) b off cap (fun k => .int .u8 (zs.getD k 0)) (by decide) (by rw [hlen]; exact hl) (fun e he => ?_) (fun k hk => ?_) (fun k d hd => ?_)
        · rw [hlen] at this
          exact this
        · obtain ⟨n, _, rfl⟩ := List.mem_map.1 he
          rfl
        · rw [hlen] at hk
          exact ⟨hc' k (by omega), hb, rfl⟩
        · have hf : ∀ l : List Nat, D.flat (l.map byteD) = l.map byteD := by
            intro l
            induction l with
            | nil => rfl
            | cons n l ih => rw [List.map_cons, D.flat, List.flatMap_cons, ← D.flat, ih]; rfl
          rw [hf, List.getElem?_map, List.getElem?_map] at hd
          have hk : k < len := by
            cases hr : (List.range len)[k]? with
            | none => rw [hr] at hd; cases hd
            | some j => have := (List.getElem?_eq_some_iff.1 hr).1; simpa using this
          rw [List.getElem?_range hk] at hd
          obtain rfl : byteD (zs.getD k 0).toNat = d := by simpa using hd
          have := hrange k (by omega)
          unfold byteD
          rw [Int.toNat_of_nonneg this.1]
          exact .v _ _
theorem walk_of {f : FuncId} (hdo : ∀ cs : List Nat, (∀ b, b ∈ cs → b < 256) → Does Tryz.prog f [] [bytesD cs] (Bo true) []) (a : Option Addr) (len cap : Nat) (zs : List Int) (w : World) (h : IsRow .u8 w a len cap zs) :
    Calls Tryz.prog f #[.slice a len cap] w fun e W' => e = .returned (.bool true) ∧ Below w.heap.size w W' := by
  obtain ⟨cs, hcs, hfz⟩ := code_fz h
  refine calls_of (hdo cs hcs) w [.slice a len cap] rfl (fun i d x hd hx => ?_)
  rcases i with _ | i
  · obtain rfl : bytesD cs = d := by simpa using hd
    obtain rfl : Value.slice a len cap = x := by simpa using hx
    exact hfz
  · simp at hd
end Go.Proofs.YtepkimfmncedcaaGreat

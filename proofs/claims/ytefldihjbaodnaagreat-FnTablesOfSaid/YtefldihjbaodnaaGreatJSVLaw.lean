/-
  Functions of the program read as code on plain data. Closed facts of the program alone.
-/
import Derived.KernelRfl
import Derived.Test.YtefldihjbaodnaaGreatRows
import Derived.Test.YtefldihjbaodnaaGreatJSVGo
import Derived.Test.YtefldihjbaodnaaGreatJSVGi
import Derived.Test.YtefldihjbaodnaaGreatJSDcWTbP
namespace Go.Proofs.YtefldihjbaodnaaGreat
open Go.RowKit
noncomputable section
def r_Z45_0 : List GI:=[gi 4 (.mov 4 (.k .nul))]
def r_Z45_1 : List GI:=[gi 7 (.mov 7 (.k .nul)),gt 5 7]
def r_Z45_2 : List GI:=[gk 6 0]
def r_Z45_3 : List GI:=[gt 8 6,gt 9 1,gn 10 9,gb 11 .lss 8 10]
def r_Z45_4 : List GI:=[gt 14 5,gt 15 0,gt 16 1,gt 17 6,ga 18 16 17 1,gl 19 18,gi 20 (.mm 20 true (.t 19) (.k (I 1))),gi 21 (.mm 21 false (.t 20) (.k (I 6))),gc 22 101 [.t 15,.t 21,.k (I 4)],gi 23 (.bsl 23 2 (some 2) [.agg [I 0,.nul]] [(0,.t 22)]),gi 24 (.app 24 2000024 (.t 14) (.t 23) 2 32),gt 5 24]
def r_Z45_5 : List GI:=[gt 12 6,gd 13 .add 12 1,gt 6 13]
def r_Z45_6 : List GI:=[gt 25 5,gt 4 25]
def dc_Z45 : DC:=.seq (.z r_Z45_0) (.seq (.z r_Z45_1) (.seq (.seq (.z r_Z45_2) (.block 0 (.loop (.seq (.seq (.z r_Z45_3) (.cond (.t 11) .skip (.exit 0))) (.seq (.block 1 (.z r_Z45_4)) (.z r_Z45_5)))))) (.seq (.z r_Z45_6) .ret)))
theorem c_Z45 : cfun Tryz.prog [] 59 = some (26,dc_Z45,[(Res.tmp 4)]):=by kernel_rfl
def r_Z138_0 : List GI:=[gi 2 (.mov 2 (.k .nul))]
def r_Z138_1 : List GI:=[gi 5 (.mov 5 (.k .nul)),gt 3 5]
def r_Z138_2 : List GI:=[gk 4 0]
def r_Z138_3 : List GI:=[gt 6 4,gt 7 0,gn 8 7,gb 9 .lss 6 8]
def r_Z138_4 : List GI:=[gt 12 3,gt 13 0,gt 14 4,ga 15 13 14 2,gf 16 15 0,gl 17 16,gi 18 (.bsl 18 1 none [I 0] [(0,.t 17)]),gi 19 (.app 19 2000019 (.t 12) (.t 18) 1 8),gt 3 19]
def r_Z138_5 : List GI:=[gt 10 4,gd 11 .add 10 1,gt 4 11]
def r_Z138_6 : List GI:=[gt 20 3,gt 2 20]
def dc_Z138 : DC:=.seq (.z r_Z138_0) (.seq (.z r_Z138_1) (.seq (.seq (.z r_Z138_2) (.block 0 (.loop (.seq (.seq (.z r_Z138_3) (.cond (.t 9) .skip (.exit 0))) (.seq (.block 1 (.z r_Z138_4)) (.z r_Z138_5)))))) (.seq (.z r_Z138_6) .ret)))
theorem c_Z138 : cfun Tryz.prog [] 11 = some (21,dc_Z138,[(Res.tmp 2)]):=by kernel_rfl
def r_Z117_0 : List GI:=[gi 4 (.mov 4 (.k (.v (.bool false))))]
def r_Z117_1 : List GI:=[gt 6 0,gn 7 6,gt 8 1,gn 9 8,gb 10 .neq 7 9]
def r_Z117_2 : List GI:=[gi 4 (.mov 4 (.k (.v (.bool false))))]
def r_Z117_3 : List GI:=[gk 5 0]
def r_Z117_4 : List GI:=[gt 11 5,gt 12 0,gn 13 12,gb 14 .lss 11 13]
def r_Z117_5 : List GI:=[gt 17 0,gt 18 5,ga 19 17 18 1,gl 20 19,gt 21 1,gt 22 5,ga 23 21 22 1,gl 24 23,gb 25 .neq 20 24]
def r_Z117_6 : List GI:=[gi 4 (.mov 4 (.k (.v (.bool false))))]
def r_Z117_7 : List GI:=[gt 15 5,gd 16 .add 15 1,gt 5 16]
def r_Z117_8 : List GI:=[gi 4 (.mov 4 (.k (.v (.bool true))))]
def dc_Z117 : DC:=.seq (.z r_Z117_0) (.seq (.seq (.z r_Z117_1) (.cond (.t 10) (.seq (.z r_Z117_2) .ret) .skip)) (.seq (.seq (.z r_Z117_3) (.block 0 (.loop (.seq (.seq (.z r_Z117_4) (.cond (.t 14) .skip (.exit 0))) (.seq (.block 1 (.seq (.reg r_Z117_5 (some [0,0,3,7,0,0,48,112,255])) (.cond (.t 25) (.seq (.z r_Z117_6) .ret) .skip))) (.z r_Z117_7)))))) (.seq (.z r_Z117_8) .ret)))
theorem c_Z117 : cfun Tryz.prog [] 13 = some (26,dc_Z117,[(Res.tmp 4)]):=by kernel_rfl
def r_Z179_0 : List GI:=[gi 4 (.mov 4 (.k (.v (.bool false))))]
def r_Z179_1 : List GI:=[gk 5 0]
def r_Z179_2 : List GI:=[gt 6 5,gt 7 0,gn 8 7,gb 9 .lss 6 8]
def r_Z179_3 : List GI:=[gt 12 0,gt 13 5,ga 14 12 13 1,gl 15 14,gt 16 1,gb 17 .eql 15 16]
def r_Z179_4 : List GI:=[gi 4 (.mov 4 (.k (.v (.bool true))))]
def r_Z179_5 : List GI:=[gt 10 5,gd 11 .add 10 1,gt 5 11]
def r_Z179_6 : List GI:=[gi 4 (.mov 4 (.k (.v (.bool false))))]
def dc_Z179 : DC:=.seq (.z r_Z179_0) (.seq (.seq (.z r_Z179_1) (.block 0 (.loop (.seq (.seq (.z r_Z179_2) (.cond (.t 9) .skip (.exit 0))) (.seq (.block 1 (.seq (.z r_Z179_3) (.cond (.t 17) (.seq (.z r_Z179_4) .ret) .skip))) (.z r_Z179_5)))))) (.seq (.z r_Z179_6) .ret))
theorem c_Z179 : cfun Tryz.prog [] 12 = some (18,dc_Z179,[(Res.tmp 4)]):=by kernel_rfl
def r_Z131_0 : List GI:=[gi 2 (.box 2 2000002 (.t 0) (some 5)),gi 4 (.mov 4 (.k .nul))]
def r_Z131_1 : List GI:=[gs 7 2 5,gt 8 1,gc 9 26 [.t 7,.t 8],gd 10 .eql 9 0]
def r_Z131_2 : List GI:=[gi 4 (.mov 4 (.k .nul))]
def r_Z131_3 : List GI:=[gi 5 (.mov 5 (.k .nul))]
def r_Z131_4 : List GI:=[gt 11 1,gn 12 11,gk 13 0]
def r_Z131_5 : List GI:=[gb 14 .lss 13 12]
def r_Z131_6 : List GI:=[gt 15 13,gt 6 15]
def r_Z131_7 : List GI:=[gs 16 2 5,gt 17 6,gc 18 37 [.t 16,.t 17]]
def r_Z131_8 : List GI:=[gt 19 5,gt 20 6,gi 21 (.bsl 21 1 none [I 0] [(0,.t 20)]),gi 22 (.app 22 2000022 (.t 19) (.t 21) 1 8),gt 5 22]
def r_Z131_9 : List GI:=[gd 23 .add 13 1,gt 13 23]
def r_Z131_10 : List GI:=[gt 24 5,gt 4 24]
def dc_Z131 : DC:=.seq (.z r_Z131_0) (.seq (.seq (.z r_Z131_1) (.cond (.t 10) (.seq (.z r_Z131_2) .ret) .skip)) (.seq (.z r_Z131_3) (.seq (.seq (.z r_Z131_4) (.block 0 (.loop (.seq (.z r_Z131_5) (.seq (.cond (.t 14) .skip (.exit 0)) (.seq (.block 1 (.seq (.z r_Z131_6) (.seq (.z r_Z131_7) (.cond (.t 18) (.z r_Z131_8) .skip)))) (.z r_Z131_9))))))) (.seq (.z r_Z131_10) .ret))))
theorem c_Z131 : cfun Tryz.prog [] 10 = some (25,dc_Z131,[(Res.tmp 4)]):=by kernel_rfl
def r_Z173_0 : List GI:=[gi 2 (.box 2 2000002 (.t 0) (some 5)),gi 3 (.box 3 2000003 (.t 1) none),gi 4 (.mov 4 (.k (.v (.bool false))))]
def r_Z173_1 : List GI:=[gf 5 2 0,gl 6 5,gd 7 .eql 6 1]
def r_Z173_2 : List GI:=[gf 8 2 1,gl 9 8,gl 10 3,gb 11 .eql 9 10,gt 4 11]
def r_Z173_3 : List GI:=[gf 12 2 4,gl 13 12,gi 14 (.mkf 14 83 [.t 3]),gc 15 82 [.t 13,.t 14],gt 4 15]
def dc_Z173 : DC:=.seq (.z r_Z173_0) (.seq (.seq (.z r_Z173_1) (.cond (.t 7) (.seq (.z r_Z173_2) .ret) .skip)) (.seq (.z r_Z173_3) .ret))
theorem c_Z173 : cfun Tryz.prog [] 37 = some (16,dc_Z173,[(Res.tmp 4)]):=by kernel_rfl
def r_Z157_0 : List GI:=[gi 2 (.box 2 2000002 (.t 0) (some 5)),gi 3 (.mov 3 (.k (.v (.bool false))))]
def r_Z157_1 : List GI:=[gs 4 2 5,gl 5 1,gc 6 37 [.t 4,.t 5],gt 3 6]
def dc_Z157 : DC:=.seq (.z r_Z157_0) (.seq (.z r_Z157_1) .ret)
theorem c_Z157 : cfun Tryz.prog [] 83 = some (7,dc_Z157,[(Res.tmp 3)]):=by kernel_rfl
def r_Z4_0 : List GI:=[gi 4 (.mov 4 (.k (.v (.bool false))))]
def r_Z4_1 : List GI:=[gt 5 0,gt 6 1,gc 7 139 [.t 5,.t 6],gd 8 .geq 7 0,gt 4 8]
def dc_Z4 : DC:=.seq (.z r_Z4_0) (.seq (.z r_Z4_1) .ret)
theorem c_Z4 : cfun Tryz.prog [] 82 = some (9,dc_Z4,[(Res.tmp 4)]):=by kernel_rfl
def r_Z7_0 : List GI:=[gk 4 0]
def r_Z7_1 : List GI:=[gt 6 0,gn 7 6,gk 8 0]
def r_Z7_2 : List GI:=[gb 9 .lss 8 7]
def r_Z7_3 : List GI:=[gt 10 8,gt 5 10]
def r_Z7_4 : List GI:=[gt 11 1,gt 12 0,gt 13 5,ga 14 12 13 5,gs 15 14 5,⟨.cal 16 (.t 11) [.t 15],some 16,none,true⟩]
def r_Z7_5 : List GI:=[gt 17 5,gt 4 17]
def r_Z7_6 : List GI:=[gd 18 .add 8 1,gt 8 18]
def r_Z7_7 : List GI:=[gi 4 (.mov 4 (.k (.v (.int .i64 (-1)))))]
def dc_Z7 : DC:=.seq (.z r_Z7_0) (.seq (.seq (.z r_Z7_1) (.block 0 (.loop (.seq (.z r_Z7_2) (.seq (.cond (.t 9) .skip (.exit 0)) (.seq (.block 1 (.seq (.z r_Z7_3) (.seq (.z r_Z7_4) (.cond (.t 16) (.seq (.z r_Z7_5) .ret) .skip)))) (.z r_Z7_6))))))) (.seq (.z r_Z7_7) .ret))
theorem c_Z7 : cfun Tryz.prog [] 139 = some (19,dc_Z7,[(Res.tmp 4)]):=by kernel_rfl
def r_Z120_0 : List GI:=[gi 4 (.mov 4 (.k .nul))]
def r_Z120_1 : List GI:=[gk 5 0]
def r_Z120_2 : List GI:=[gt 7 5,gt 8 0,gn 9 8,gb 10 .lss 7 9,gt 11 10,⟨.mov 12 (.t 0),some 12,some (11,true),false⟩,⟨.mov 13 (.t 5),some 13,some (11,true),false⟩,⟨.iad 14 12 (.t 13) 1,some 14,some (11,true),false⟩,⟨.lod 15 14 none,some 15,some (11,true),false⟩,⟨.mov 16 (.t 1),some 16,some (11,true),false⟩,⟨.bin 17 .lss (.t 15) (.t 16),some 17,some (11,true),false⟩,gi 18 (.pick 18 (.t 11) (.t 17) (.k (.v (.bool false))))]
def r_Z120_3 : List GI:=[gt 19 5,gd 20 .add 19 1,gt 5 20]
def r_Z120_4 : List GI:=[gt 21 5,gt 22 0,gn 23 22,gb 24 .lss 21 23,gt 25 24,⟨.mov 26 (.t 0),some 26,some (25,true),false⟩,⟨.mov 27 (.t 5),some 27,some (25,true),false⟩,⟨.iad 28 26 (.t 27) 1,some 28,some (25,true),false⟩,⟨.lod 29 28 none,some 29,some (25,true),false⟩,⟨.mov 30 (.t 1),some 30,some (25,true),false⟩,⟨.bin 31 .eql (.t 29) (.t 30),some 31,some (25,true),false⟩,gi 32 (.pick 32 (.t 25) (.t 31) (.k (.v (.bool false))))]
def r_Z120_5 : List GI:=[gt 33 0,gt 4 33]
def r_Z120_6 : List GI:=[gi 34 (.mov 34 (.k .nul)),gt 35 0,gt 36 5,gi 37 (.slc 37 (.t 35) none (some (.t 36)) 1),gi 38 (.app 38 2000038 (.t 34) (.t 37) 1 8),gt 6 38]
def r_Z120_7 : List GI:=[gt 39 6,gt 40 1,gi 41 (.bsl 41 1 none [I 0] [(0,.t 40)]),gi 42 (.app 42 2000042 (.t 39) (.t 41) 1 8),gt 6 42]
def r_Z120_8 : List GI:=[gt 43 6,gt 44 0,gt 45 5,gi 46 (.slc 46 (.t 44) (some (.t 45)) none 1),gi 47 (.app 47 2000047 (.t 43) (.t 46) 1 8),gt 4 47]
def dc_Z120 : DC:=.seq (.z r_Z120_0) (.seq (.z r_Z120_1) (.seq (.block 0 (.loop (.seq (.seq (.z r_Z120_2) (.cond (.t 18) .skip (.exit 0))) (.block 1 (.z r_Z120_3))))) (.seq (.seq (.z r_Z120_4) (.cond (.t 32) (.seq (.z r_Z120_5) .ret) .skip)) (.seq (.z r_Z120_6) (.seq (.z r_Z120_7) (.seq (.z r_Z120_8) .ret))))))
theorem c_Z120 : cfun Tryz.prog [] 84 = some (48,dc_Z120,[(Res.tmp 4)]):=by kernel_rfl
def r_Z141_0 : List GI:=[gi 2 (.box 2 2000002 (.t 0) (some 5)),gi 4 (.mov 4 (.k .nul))]
def r_Z141_1 : List GI:=[gs 5 2 5,gt 6 1,gc 7 33 [.t 5,.t 6],gd 8 .eql 7 0]
def r_Z141_2 : List GI:=[gi 4 (.mov 4 (.k .nul))]
def r_Z141_3 : List GI:=[gi 9 (.mov 9 (.k .nul)),gs 10 2 5,gc 11 38 [.t 9,.t 10],gt 4 11]
def dc_Z141 : DC:=.seq (.z r_Z141_0) (.seq (.seq (.z r_Z141_1) (.cond (.t 8) (.seq (.z r_Z141_2) .ret) .skip)) (.seq (.z r_Z141_3) .ret))
theorem c_Z141 : cfun Tryz.prog [] 14 = some (12,dc_Z141,[(Res.tmp 4)]):=by kernel_rfl
def r_Z121_0 : List GI:=[gi 3 (.box 3 2000003 (.t 1) (some 5)),gi 4 (.mov 4 (.k .nul))]
def r_Z121_1 : List GI:=[gf 6 3 0,gl 7 6,gd 8 .eql 7 1]
def r_Z121_2 : List GI:=[gt 9 0,gf 10 3 1,gl 11 10,gc 12 84 [.t 9,.t 11],gt 0 12]
def r_Z121_3 : List GI:=[gk 5 0]
def r_Z121_4 : List GI:=[gt 13 5,gf 14 3 4,gl 15 14,gn 16 15,gb 17 .lss 13 16]
def r_Z121_5 : List GI:=[gt 20 0,gf 21 3 4,gl 22 21,gt 23 5,ga 24 22 23 5,gs 25 24 5,gc 26 38 [.t 20,.t 25],gt 0 26]
def r_Z121_6 : List GI:=[gt 18 5,gd 19 .add 18 1,gt 5 19]
def r_Z121_7 : List GI:=[gt 27 0,gt 4 27]
def dc_Z121 : DC:=.seq (.z r_Z121_0) (.seq (.seq (.z r_Z121_1) (.cond (.t 8) (.z r_Z121_2) .skip)) (.seq (.seq (.z r_Z121_3) (.block 0 (.loop (.seq (.seq (.z r_Z121_4) (.cond (.t 17) .skip (.exit 0))) (.seq (.block 1 (.z r_Z121_5)) (.z r_Z121_6)))))) (.seq (.z r_Z121_7) .ret)))
theorem c_Z121 : cfun Tryz.prog [] 38 = some (28,dc_Z121,[(Res.tmp 4)]):=by kernel_rfl
end
end Go.Proofs.YtefldihjbaodnaaGreat
namespace Go.Proofs.YtefldihjbaodnaaGreat
open Go.RowKit
theorem code_fz {a : Option Addr} {len cap : Nat} {zs : List Int} {w : World} (h : IsRow .u8 w a len cap zs) : ∃ cs : List Nat,(∀ b,b ∈ cs → b < 256) ∧ Fz w (allOf w) noNames (bytesD cs) (.slice a len cap):=by
 rcases h with ⟨rfl,rfl,rfl,rfl⟩ | ⟨x,rfl,hl,hm,hz,hc,hwz⟩
 ·exact ⟨[],(fun b h=>by cases h),.sl0 _ 1 none 0⟩
 ·by_cases h0 : len = 0
  ·subst h0
   exact ⟨[],(fun b h=>by cases h),.sl0 _ 1 (some x) cap⟩
  ·obtain ⟨b,off,sp⟩:=x
   have hsp : sp = none:=by
    have:=hc 0 (by omega)
    unfold World.cell? at this
    split at this
    ·cases sp with
     | none=>rfl
     | some s=>simp [Addr.add] at this
    ·cases this
   subst hsp
   have hc' : ∀ i,i < cap → w.cell? ⟨b,off + i,none⟩ = some (.int .u8 (zs.getD i 0)):=fun i hi=>by have:=hc i (by omega); rwa [Addr.add_lit] at this
   have hb : b < w.heap.size:=by
    have:=hc' 0 (by omega)
    unfold World.cell? at this
    split at this
    ·rename_i h; exact (Array.getElem?_eq_some_iff.1 h).1
    ·cases this
   have hrange : ∀ i,i < cap → 0 ≤ zs.getD i 0 ∧ zs.getD i 0 < 256:=fun i hi=>by
    have hm : zs.getD i 0 ∈ zs:=by rw [List.getD_eq_getElem?_getD,List.getElem?_eq_getElem (by omega)]; exact List.getElem_mem _
    have:=hwz _ hm
    generalize zs.getD i 0 = z at this ⊢
    simp [Lit.wf,IntKind.min,IntKind.max,IntKind.bits,IntKind.signed] at this
    omega
   refine ⟨(List.range len).map fun i=>(zs.getD i 0).toNat,fun n hn=>?_,?_⟩
   ·obtain ⟨i,hi,rfl⟩:=List.mem_map.1 hn
    have:=hrange i (by have:=List.mem_range.1 hi; omega)
    omega
   ·have hlen : (((List.range len).map fun i=>(zs.getD i 0).toNat).map byteD).length = len:=by simp
    have:=Fz.sl (w:=w) (F:=allOf w) noNames 1 (((List.range len).map fun i=>(zs.getD i 0).toNat).map byteD) b off cap (fun k=>.int .u8 (zs.getD k 0)) (by decide) (by rw [hlen]; exact hl) (fun e he=>?_) (fun k hk=>?_) (fun k d hd=>?_)
    ·rw [hlen] at this
     exact this
    ·obtain ⟨n,_,rfl⟩:=List.mem_map.1 he
     rfl
    ·rw [hlen] at hk
     exact ⟨hc' k (by omega),hb,rfl⟩
    ·have hf : ∀ l : List Nat,D.flat (l.map byteD) = l.map byteD:=by
      intro l
      induction l with
      | nil=>rfl
      | cons n l ih=>rw [List.map_cons,D.flat,List.flatMap_cons,← D.flat,ih]; rfl
     rw [hf,List.getElem?_map,List.getElem?_map] at hd
     have hk : k < len:=by
      cases hr : (List.range len)[k]? with
      | none=>rw [hr] at hd; cases hd
      | some j=>have:=(List.getElem?_eq_some_iff.1 hr).1; simpa using this
     rw [List.getElem?_range hk] at hd
     obtain rfl : byteD (zs.getD k 0).toNat = d:=by simpa using hd
     have:=hrange k (by omega)
     unfold byteD
     rw [Int.toNat_of_nonneg this.1]
     exact .v _ _
theorem walk_of {f : FuncId} (hdo : ∀ cs : List Nat,(∀ b,b ∈ cs → b < 256) → Does Tryz.prog f [] [bytesD cs] (Bo true) []) (a : Option Addr) (len cap : Nat) (zs : List Int) (w : World) (h : IsRow .u8 w a len cap zs) :
  Calls Tryz.prog f #[.slice a len cap] w fun e W'=>e = .returned (.bool true) ∧ Below w.heap.size w W':=by
 obtain ⟨cs,hcs,hfz⟩:=code_fz h
 refine calls_of (hdo cs hcs) w [.slice a len cap] rfl (fun i d x hd hx=>?_)
 rcases i with _ | i
 ·obtain rfl : bytesD cs = d:=by simpa using hd
  obtain rfl : Value.slice a len cap = x:=by simpa using hx
  exact hfz
 ·simp at hd
end Go.Proofs.YtefldihjbaodnaaGreat

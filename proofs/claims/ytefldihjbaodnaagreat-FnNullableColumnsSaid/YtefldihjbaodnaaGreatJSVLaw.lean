/-
  Functions of the program read as code on plain data. Closed facts of the program alone.
-/
import Derived.KernelRfl
import Derived.Test.YtefldihjbaodnaaGreatRows
import Derived.Test.YtefldihjbaodnaaGreatJSVGo
import Derived.Test.YtefldihjbaodnaaGreatJSVTbD
import Derived.Test.YtefldihjbaodnaaGreatJSDcWNlP
namespace Go.Proofs.YtefldihjbaodnaaGreat
open Go.RowKit
noncomputable section
def r_Z65_0 : List GI:=[gi 4 (.mov 4 (.k .nul))]
def r_Z65_1 : List GI:=[gi 7 (.mov 7 (.k .nul)),gt 5 7]
def r_Z65_2 : List GI:=[gk 6 0]
def r_Z65_3 : List GI:=[gt 8 6,gt 9 1,gn 10 9,gb 11 .lss 8 10]
def r_Z65_4 : List GI:=[gt 14 5,gt 15 0,gt 16 1,gt 17 6,ga 18 16 17 1,gl 19 18,gi 20 (.mm 20 true (.t 19) (.k (I 1))),gi 21 (.mm 21 false (.t 20) (.k (I 6))),gc 22 101 [.t 15,.t 21,.k (I 4)],gi 23 (.bsl 23 2 (some 2) [.agg [I 0,.nul]] [(0,.t 22)]),gi 24 (.app 24 2000024 (.t 14) (.t 23) 2 32),gt 5 24]
def r_Z65_5 : List GI:=[gt 12 6,gd 13 .add 12 1,gt 6 13]
def r_Z65_6 : List GI:=[gt 25 5,gt 4 25]
def dc_Z65 : DC:=.seq (.z r_Z65_0) (.seq (.z r_Z65_1) (.seq (.seq (.z r_Z65_2) (.block 0 (.loop (.seq (.seq (.z r_Z65_3) (.cond (.t 11) .skip (.exit 0))) (.seq (.block 1 (.z r_Z65_4)) (.z r_Z65_5)))))) (.seq (.z r_Z65_6) .ret)))
theorem c_Z65 : cfun Tryz.prog [] 59 = some (26,dc_Z65,[(Res.tmp 4)]):=by kernel_rfl
def r_Z162_0 : List GI:=[gi 2 (.mov 2 (.k .nul))]
def r_Z162_1 : List GI:=[gi 5 (.mov 5 (.k .nul)),gt 3 5]
def r_Z162_2 : List GI:=[gk 4 0]
def r_Z162_3 : List GI:=[gt 6 4,gt 7 0,gn 8 7,gb 9 .lss 6 8]
def r_Z162_4 : List GI:=[gt 12 3,gt 13 0,gt 14 4,ga 15 13 14 2,gf 16 15 0,gl 17 16,gi 18 (.bsl 18 1 none [I 0] [(0,.t 17)]),gi 19 (.app 19 2000019 (.t 12) (.t 18) 1 8),gt 3 19]
def r_Z162_5 : List GI:=[gt 10 4,gd 11 .add 10 1,gt 4 11]
def r_Z162_6 : List GI:=[gt 20 3,gt 2 20]
def dc_Z162 : DC:=.seq (.z r_Z162_0) (.seq (.z r_Z162_1) (.seq (.seq (.z r_Z162_2) (.block 0 (.loop (.seq (.seq (.z r_Z162_3) (.cond (.t 9) .skip (.exit 0))) (.seq (.block 1 (.z r_Z162_4)) (.z r_Z162_5)))))) (.seq (.z r_Z162_6) .ret)))
theorem c_Z162 : cfun Tryz.prog [] 11 = some (21,dc_Z162,[(Res.tmp 2)]):=by kernel_rfl
def r_Z25_0 : List GI:=[gi 2 (.mov 2 (.k .nul))]
def r_Z25_1 : List GI:=[gk 3 0]
def r_Z25_2 : List GI:=[gt 9 0,gn 10 9,gk 11 0]
def r_Z25_3 : List GI:=[gb 12 .lss 11 10]
def r_Z25_4 : List GI:=[ga 13 9 11 1,gl 14 13,gt 5 14]
def r_Z25_5 : List GI:=[gt 15 3,gt 16 5,gn 17 16,gb 18 .add 15 17,gt 3 18]
def r_Z25_6 : List GI:=[gt 19 3,gd 20 .lss 19 0]
def r_Z25_7 : List GI:=[gd 22 .add 11 1,gt 11 22]
def r_Z25_8 : List GI:=[gt 23 3,gc 24 259 [.k .nul,.t 23],gt 6 24]
def r_Z25_9 : List GI:=[gt 25 0,gn 26 25,gk 27 0]
def r_Z25_10 : List GI:=[gb 28 .lss 27 26]
def r_Z25_11 : List GI:=[ga 29 25 27 1,gl 30 29,gt 8 30]
def r_Z25_12 : List GI:=[gt 31 6,gt 32 8,gi 33 (.app 33 2000033 (.t 31) (.t 32) 1 1),gt 6 33]
def r_Z25_13 : List GI:=[gd 34 .add 27 1,gt 27 34]
def r_Z25_14 : List GI:=[gt 35 6,gt 2 35]
def dc_Z25 : DC:=.seq (.z r_Z25_0) (.seq (.z r_Z25_1) (.seq (.seq (.z r_Z25_2) (.block 0 (.loop (.seq (.z r_Z25_3) (.seq (.cond (.t 12) .skip (.exit 0)) (.seq (.block 1 (.seq (.z r_Z25_4) (.seq (.z r_Z25_5) (.seq (.z r_Z25_6) (.cond (.t 20) .no .skip))))) (.z r_Z25_7))))))) (.seq (.z r_Z25_8) (.seq (.seq (.z r_Z25_9) (.block 2 (.loop (.seq (.z r_Z25_10) (.seq (.cond (.t 28) .skip (.exit 2)) (.seq (.block 3 (.seq (.z r_Z25_11) (.z r_Z25_12))) (.z r_Z25_13))))))) (.seq (.z r_Z25_14) .ret)))))
theorem c_Z25 : cfun Tryz.prog [] 249 = some (36,dc_Z25,[(Res.tmp 2)]):=by kernel_rfl
def r_Z33_0 : List GI:=[gi 4 (.mov 4 (.k .nul))]
def r_Z33_1 : List GI:=[gt 5 1,gd 6 .lss 5 0]
def r_Z33_2 : List GI:=[gt 8 1,gt 9 0,gi 10 (.capn 10 (.t 9)),gt 11 0,gn 12 11,gb 13 .sub 10 12,gb 14 .sub 8 13,gt 1 14]
def r_Z33_3 : List GI:=[gt 15 1,gd 16 .gtr 15 0]
def r_Z33_4 : List GI:=[gt 17 0,gt 18 0,gi 19 (.capn 19 (.t 18)),gi 20 (.slc 20 (.t 17) none (some (.t 19)) 1),gt 21 1,gi 22 (.apm 22 2000022 (.t 20) (.t 21) 1 1 (.v (.bool false))),gt 23 0,gn 24 23,gi 25 (.slc 25 (.t 22) none (some (.t 24)) 1),gt 0 25]
def r_Z33_5 : List GI:=[gt 26 0,gt 4 26]
def dc_Z33 : DC:=.seq (.z r_Z33_0) (.seq (.seq (.z r_Z33_1) (.cond (.t 6) .no .skip)) (.seq (.seq (.z r_Z33_2) (.seq (.z r_Z33_3) (.cond (.t 16) (.z r_Z33_4) .skip))) (.seq (.z r_Z33_5) .ret)))
theorem c_Z33 : cfun Tryz.prog [] 259 = some (27,dc_Z33,[(Res.tmp 4)]):=by kernel_rfl
def r_Z26_0 : List GI:=[gi 4 (.mov 4 (.k .nul))]
def r_Z26_1 : List GI:=[gt 9 1,gd 10 .lss 9 0]
def r_Z26_2 : List GI:=[gt 13 0,gn 14 13,gi 15 (.cvt 15 .u64 (.t 14)),gt 16 1,gi 17 (.cvt 17 .u64 (.t 16)),gc 18 215 [.t 15,.t 17],gt 12 18,gi 19 (.ext 19 12 0),gi 20 (.ext 20 12 1),gt 5 19,gt 6 20]
def r_Z26_3 : List GI:=[gt 21 5,gi 22 (.bin 22 .gtr (.t 21) (.k (.v (.int .u64 0)))),gt 23 22,⟨.mov 24 (.t 6),some 24,some (23,false),false⟩,⟨.bin 25 .gtr (.t 24) (.k (.v (.int .u64 9223372036854775807))),some 25,some (23,false),false⟩,gi 26 (.pick 26 (.t 23) (.k (.v (.bool true))) (.t 25))]
def r_Z26_4 : List GI:=[gt 28 6,gi 29 (.cvt 29 .i64 (.t 28)),gi 30 (.mks 30 2000030 (.t 29) 1 1 (.v (.bool false))),gt 7 30]
def r_Z26_5 : List GI:=[gt 31 7,gt 32 0,gi 33 (.cpy 33 (.t 31) (.t 32) 1),gt 8 33]
def r_Z26_6 : List GI:=[gt 34 8,gt 35 7,gn 36 35,gb 37 .lss 34 36]
def r_Z26_7 : List GI:=[gt 38 8,gt 39 7,gt 40 8,gi 41 (.slc 41 (.t 39) (some (.t 40)) none 1),gt 42 7,gt 43 8,gi 44 (.slc 44 (.t 42) none (some (.t 43)) 1),gi 45 (.cpy 45 (.t 41) (.t 44) 1),gb 46 .add 38 45,gt 8 46]
def r_Z26_8 : List GI:=[gt 47 7,gt 4 47]
def dc_Z26 : DC:=.seq (.z r_Z26_0) (.seq (.seq (.z r_Z26_1) (.cond (.t 10) .no .skip)) (.seq (.z r_Z26_2) (.seq (.seq (.z r_Z26_3) (.cond (.t 26) .no .skip)) (.seq (.z r_Z26_4) (.seq (.z r_Z26_5) (.seq (.block 0 (.loop (.seq (.seq (.z r_Z26_6) (.cond (.t 37) .skip (.exit 0))) (.block 1 (.reg r_Z26_7 (some [0,0,0,6,0,0,48,126,255,511])))))) (.seq (.z r_Z26_8) .ret)))))))
theorem c_Z26 : cfun Tryz.prog [] 250 = some (48,dc_Z26,[(Res.tmp 4)]):=by kernel_rfl
def r_Z70_0 : List GI:=[gk 2 0]
def r_Z70_1 : List GI:=[gk 3 0]
def r_Z70_2 : List GI:=[gt 6 0,gc 7 260 [.t 6],gn 8 7,gk 9 0]
def r_Z70_3 : List GI:=[gb 10 .lss 9 8]
def r_Z70_4 : List GI:=[ga 11 7 9 1,gl 12 11,gt 5 12]
def r_Z70_5 : List GI:=[gt 13 3,gt 14 5,gc 15 261 [.t 14],gc 16 262 [.t 15],gc 17 251 [.t 16],gb 18 .or 13 17,gt 3 18]
def r_Z70_6 : List GI:=[gd 19 .add 9 1,gt 9 19]
def r_Z70_7 : List GI:=[gt 20 3,gt 2 20]
def dc_Z70 : DC:=.seq (.z r_Z70_0) (.seq (.z r_Z70_1) (.seq (.seq (.z r_Z70_2) (.block 0 (.loop (.seq (.z r_Z70_3) (.seq (.cond (.t 10) .skip (.exit 0)) (.seq (.block 1 (.seq (.z r_Z70_4) (.z r_Z70_5))) (.z r_Z70_6))))))) (.seq (.z r_Z70_7) .ret)))
theorem c_Z70 : cfun Tryz.prog [] 252 = some (21,dc_Z70,[(Res.tmp 2)]):=by kernel_rfl
def r_Z181_0 : List GI:=[gi 1 (.box 1 2000001 (.t 0) (some 2)),gk 2 0]
def r_Z181_1 : List GI:=[gs 3 1 2,gc 4 156 [.t 3]]
def r_Z181_2 : List GI:=[gd 6 .eql 4 0,gt 5 6]
def r_Z181_3 : List GI:=[gk 2 1]
def r_Z181_4 : List GI:=[gd 8 .eql 4 2,gt 7 8]
def r_Z181_5 : List GI:=[gk 2 2]
def r_Z181_6 : List GI:=[gk 2 4]
def dc_Z181 : DC:=.seq (.z r_Z181_0) (.seq (.seq (.z r_Z181_1) (.block 0 (.seq (.z r_Z181_2) (.cond (.t 5) (.seq (.z r_Z181_3) .ret) (.seq (.z r_Z181_4) (.cond (.t 7) (.seq (.z r_Z181_5) .ret) .skip)))))) (.seq (.z r_Z181_6) .ret))
theorem c_Z181 : cfun Tryz.prog [] 251 = some (9,dc_Z181,[(Res.tmp 2)]):=by kernel_rfl
def r_Z160_0 : List GI:=[gi 2 (.mov 2 (.k .nul))]
def r_Z160_1 : List GI:=[gi 3 (.mov 3 (.k .nul))]
def r_Z160_2 : List GI:=[gi 6 (.bsl 6 1 none [I 0,I 0,I 0] [(0,.k (I 0)),(1,.k (I 1)),(2,.k (I 2))]),gn 7 6,gk 8 0]
def r_Z160_3 : List GI:=[gb 9 .lss 8 7]
def r_Z160_4 : List GI:=[ga 10 6 8 1,gl 11 10,gt 5 11]
def r_Z160_5 : List GI:=[gt 12 0,gt 13 5,gc 14 262 [.t 13],gc 15 251 [.t 14],gb 16 .and 12 15,gd 17 .neq 16 0]
def r_Z160_6 : List GI:=[gt 18 3,gt 19 5,gi 20 (.bsl 20 1 none [I 0] [(0,.t 19)]),gi 21 (.app 21 2000021 (.t 18) (.t 20) 1 8),gt 3 21]
def r_Z160_7 : List GI:=[gd 22 .add 8 1,gt 8 22]
def r_Z160_8 : List GI:=[gt 23 3,gt 2 23]
def dc_Z160 : DC:=.seq (.z r_Z160_0) (.seq (.z r_Z160_1) (.seq (.seq (.z r_Z160_2) (.block 0 (.loop (.seq (.z r_Z160_3) (.seq (.cond (.t 9) .skip (.exit 0)) (.seq (.block 1 (.seq (.z r_Z160_4) (.seq (.z r_Z160_5) (.cond (.t 17) (.z r_Z160_6) .skip)))) (.z r_Z160_7))))))) (.seq (.z r_Z160_8) .ret)))
theorem c_Z160 : cfun Tryz.prog [] 260 = some (24,dc_Z160,[(Res.tmp 2)]):=by kernel_rfl
def r_Z102_0 : List GI:=[gk 6 0]
def r_Z102_1 : List GI:=[gk 7 0]
def r_Z102_2 : List GI:=[gt 12 0,gc 13 260 [.t 12],gn 14 13,gk 15 0]
def r_Z102_3 : List GI:=[gb 16 .lss 15 14]
def r_Z102_4 : List GI:=[ga 17 13 15 1,gl 18 17,gt 9 18]
def r_Z102_5 : List GI:=[gt 19 1,gc 20 260 [.t 19],gn 21 20,gk 22 0]
def r_Z102_6 : List GI:=[gb 23 .lss 22 21]
def r_Z102_7 : List GI:=[ga 24 20 22 1,gl 25 24,gt 11 25]
def r_Z102_8 : List GI:=[gt 26 7,gt 27 2,gt 28 9,gt 29 11,⟨.cal 30 (.t 27) [.t 28,.t 29],some 30,none,true⟩,gc 31 262 [.t 30],gc 32 251 [.t 31],gb 33 .or 26 32,gt 7 33]
def r_Z102_9 : List GI:=[gd 34 .add 22 1,gt 22 34]
def r_Z102_10 : List GI:=[gd 35 .add 15 1,gt 15 35]
def r_Z102_11 : List GI:=[gt 36 7,gt 6 36]
def dc_Z102 : DC:=.seq (.z r_Z102_0) (.seq (.z r_Z102_1) (.seq (.seq (.z r_Z102_2) (.block 0 (.loop (.seq (.z r_Z102_3) (.seq (.cond (.t 16) .skip (.exit 0)) (.seq (.block 1 (.seq (.z r_Z102_4) (.seq (.z r_Z102_5) (.block 2 (.loop (.seq (.z r_Z102_6) (.seq (.cond (.t 23) .skip (.exit 2)) (.seq (.block 3 (.seq (.z r_Z102_7) (.z r_Z102_8))) (.z r_Z102_9))))))))) (.z r_Z102_10))))))) (.seq (.z r_Z102_11) .ret)))
theorem c_Z102 : cfun Tryz.prog [] 254 = some (37,dc_Z102,[(Res.tmp 6)]):=by kernel_rfl
def r_Z43_0 : List GI:=[gk 4 0]
def r_Z43_1 : List GI:=[gt 6 0,gt 7 1,gc 8 257 [.t 6,.t 7],gt 5 8]
def r_Z43_2 : List GI:=[gt 9 5,gd 10 .and 9 3,gd 11 .neq 10 0]
def r_Z43_3 : List GI:=[gt 12 5,gd 13 .or 12 4,gt 5 13]
def r_Z43_4 : List GI:=[gt 14 5,gt 4 14]
def dc_Z43 : DC:=.seq (.z r_Z43_0) (.seq (.z r_Z43_1) (.seq (.seq (.z r_Z43_2) (.cond (.t 11) (.z r_Z43_3) .skip)) (.seq (.z r_Z43_4) .ret)))
theorem c_Z43 : cfun Tryz.prog [] 258 = some (15,dc_Z43,[(Res.tmp 4)]):=by kernel_rfl
def r_Z45_0 : List GI:=[gk 4 0]
def r_Z45_1 : List GI:=[gt 6 0,gt 7 1,gb 8 .or 6 7,gd 9 .and 8 4,gt 5 9]
def r_Z45_2 : List GI:=[gt 10 0,gd 11 .and 10 3,gd 12 .neq 11 0,gt 13 12,⟨.mov 14 (.t 1),some 14,some (13,true),false⟩,⟨.bin 15 .and (.t 14) (.k (I 3)),some 15,some (13,true),false⟩,⟨.bin 16 .neq (.t 15) (.k (I 0)),some 16,some (13,true),false⟩,gi 17 (.pick 17 (.t 13) (.t 16) (.k (.v (.bool false))))]
def r_Z45_3 : List GI:=[gt 18 5,gd 19 .or 18 3,gt 5 19]
def r_Z45_4 : List GI:=[gt 20 5,gt 4 20]
def dc_Z45 : DC:=.seq (.z r_Z45_0) (.seq (.z r_Z45_1) (.seq (.seq (.z r_Z45_2) (.cond (.t 17) (.z r_Z45_3) .skip)) (.seq (.z r_Z45_4) .ret)))
theorem c_Z45 : cfun Tryz.prog [] 257 = some (21,dc_Z45,[(Res.tmp 4)]):=by kernel_rfl
end
end Go.Proofs.YtefldihjbaodnaaGreat
namespace Go.Proofs.YtefldihjbaodnaaGreat
open Go.RowKit
theorem code_fz {a : Option Addr} {len cap : Nat} {zs : List Int} {w : World} (h : IsRow .u8 w a len cap zs) : ∃ cs : List Nat,(∀ b,b ∈ cs → b < 256) ∧ Fz w (allOf w) noNames (bytesD cs) (.slice a len cap):=by
 rcases h with ⟨rfl,rfl,rfl,rfl⟩ | ⟨x,rfl,hl,hm,hz,hc,hwz⟩
 ·exact ⟨[],(fun b h=>by cases h),.sl0 _ 1 none 0⟩
 ·by_cases h0 : len = 0
  ·subst h0
   exact ⟨[],(fun b h=>by cases h),.sl0 _ 1 (some x) cap⟩
  ·obtain ⟨b,off,sp⟩:=x
   have hsp : sp = none:=by
    have:=hc 0 (by omega)
    unfold World.cell? at this
    split at this
    ·cases sp with
     | none=>rfl
     | some s=>simp [Addr.add] at this
    ·cases this
   subst hsp
   have hc' : ∀ i,i < cap → w.cell? ⟨b,off + i,none⟩ = some (.int .u8 (zs.getD i 0)):=fun i hi=>by have:=hc i (by omega); rwa [Addr.add_lit] at this
   have hb : b < w.heap.size:=by
    have:=hc' 0 (by omega)
    unfold World.cell? at this
    split at this
    ·rename_i h; exact (Array.getElem?_eq_some_iff.1 h).1
    ·cases this
   have hrange : ∀ i,i < cap → 0 ≤ zs.getD i 0 ∧ zs.getD i 0 < 256:=fun i hi=>by
    have hm : zs.getD i 0 ∈ zs:=by rw [List.getD_eq_getElem?_getD,List.getElem?_eq_getElem (by omega)]; exact List.getElem_mem _
    have:=hwz _ hm
    generalize zs.getD i 0 = z at this ⊢
    simp [Lit.wf,IntKind.min,IntKind.max,IntKind.bits,IntKind.signed] at this
    omega
   refine ⟨(List.range len).map fun i=>(zs.getD i 0).toNat,fun n hn=>?_,?_⟩
   ·obtain ⟨i,hi,rfl⟩:=List.mem_map.1 hn
    have:=hrange i (by have:=List.mem_range.1 hi; omega)
    omega
   ·have hlen : (((List.range len).map fun i=>(zs.getD i 0).toNat).map byteD).length = len:=by simp
    have:=Fz.sl (w:=w) (F:=allOf w) noNames 1 (((List.range len).map fun i=>(zs.getD i 0).toNat).map byteD) b off cap (fun k=>.int .u8 (zs.getD k 0)) (by decide) (by rw [hlen]; exact hl) (fun e he=>?_) (fun k hk=>?_) (fun k d hd=>?_)
    ·rw [hlen] at this
     exact this
    ·obtain ⟨n,_,rfl⟩:=List.mem_map.1 he
     rfl
    ·rw [hlen] at hk
     exact ⟨hc' k (by omega),hb,rfl⟩
    ·have hf : ∀ l : List Nat,D.flat (l.map byteD) = l.map byteD:=by
      intro l
      induction l with
      | nil=>rfl
      | cons n l ih=>rw [List.map_cons,D.flat,List.flatMap_cons,← D.flat,ih]; rfl
     rw [hf,List.getElem?_map,List.getElem?_map] at hd
     have hk : k < len:=by
      cases hr : (List.range len)[k]? with
      | none=>rw [hr] at hd; cases hd
      | some j=>have:=(List.getElem?_eq_some_iff.1 hr).1; simpa using this
     rw [List.getElem?_range hk] at hd
     obtain rfl : byteD (zs.getD k 0).toNat = d:=by simpa using hd
     have:=hrange k (by omega)
     unfold byteD
     rw [Int.toNat_of_nonneg this.1]
     exact .v _ _
theorem walk_of {f : FuncId} (hdo : ∀ cs : List Nat,(∀ b,b ∈ cs → b < 256) → Does Tryz.prog f [] [bytesD cs] (Bo true) []) (a : Option Addr) (len cap : Nat) (zs : List Int) (w : World) (h : IsRow .u8 w a len cap zs) :
  Calls Tryz.prog f #[.slice a len cap] w fun e W'=>e = .returned (.bool true) ∧ Below w.heap.size w W':=by
 obtain ⟨cs,hcs,hfz⟩:=code_fz h
 refine calls_of (hdo cs hcs) w [.slice a len cap] rfl (fun i d x hd hx=>?_)
 rcases i with _ | i
 ·obtain rfl : bytesD cs = d:=by simpa using hd
  obtain rfl : Value.slice a len cap = x:=by simpa using hx
  exact hfz
 ·simp at hd
end Go.Proofs.YtefldihjbaodnaaGreat

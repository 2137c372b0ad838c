/-
  Functions of the program read as code on plain data. Closed facts of the program alone.
-/
import Derived.KernelRfl
import Derived.Deep.Slices
import Derived.ChangeSame
import Derived.Test.YtibknjpbbeackaaGreatRows
import Derived.Test.YtibknjpbbeackaaGreatJSVGo
import Derived.Test.YtibknjpbbeackaaGreatJSVTbD
import Derived.Test.YtibknjpbbeackaaGreatJSDcWEpI
import Derived.Test.YtibknjpbbeackaaGreatJSFactsC
namespace Go.Proofs.YtibknjpbbeackaaGreat
open Go.RowKit
noncomputable section
def r_Z119_0 : List GI := [gi 4 (.mov 4 (.k (.v (.bool false))))]
def r_Z119_1 : List GI := [gt 6 0, gn 7 6, gt 8 1, gn 9 8, gb 10 .neq 7 9]
def r_Z119_2 : List GI := [gi 4 (.mov 4 (.k (.v (.bool false))))]
def r_Z119_3 : List GI := [gk 5 0]
def r_Z119_4 : List GI := [gt 11 5, gt 12 0, gn 13 12, gb 14 .lss 11 13]
def r_Z119_5 : List GI := [gt 17 0, gt 18 5, ga 19 17 18 2, gs 20 19 2, gt 21 1, gt 22 5, ga 23 21 22 2, gs 24 23 2, gi 25 (.eqs 25 true [false, true] (.t 20) (.t 24))]
def r_Z119_6 : List GI := [gi 4 (.mov 4 (.k (.v (.bool false))))]
def r_Z119_7 : List GI := [gt 15 5, gd 16 .add 15 1, gt 5 16]
def r_Z119_8 : List GI := [gi 4 (.mov 4 (.k (.v (.bool true))))]
def dc_Z119 : DC := .seq (.z r_Z119_0) (.seq (.seq (.z r_Z119_1) (.cond (.t 10) (.seq (.z r_Z119_2) .ret) .skip)) (.seq (.seq (.z r_Z119_3) (.block 0 (.loop (.seq (.seq (.z r_Z119_4) (.cond (.t 14) .skip (.exit 0))) (.seq (.block 1 (.seq (.reg r_Z119_5 (some [0, 0, 3, 7, 0, 0, 48, 112, 255])) (.cond (.t 25) (.seq (.z r_Z119_6) .ret) .skip))) (.z r_Z119_7)))))) (.seq (.z r_Z119_8) .ret)))
theorem c_Z119 : cfun Tryz.prog [] 70 = some (26, dc_Z119, [(Res.tmp 4)]) := by kernel_rfl
end
end Go.Proofs.YtibknjpbbeackaaGreat
set_option maxHeartbeats 4000000
set_option maxRecDepth 100000
namespace Go.Proofs.YtibknjpbbeackaaGreat
open Go.ChangeShapes Go.WideShapes Go.ChangeAt Go.RowKit Go.Joins Go.Deep
def big : Nat := 9223372036854775807
section
variable {H : Type} {enc : TypeId × Value → H} {W : World} {base b0 : Nat} {held : Bool} {r : Reach} {v : Value} {d : DataW H} {p : List MemPlace}
theorem add_lit (b o j : Nat) : (⟨b, o, none⟩ : Addr).add j = ⟨b, o + j, none⟩ := by cases j <;> rfl
end
end Go.Proofs.YtibknjpbbeackaaGreat
set_option maxHeartbeats 4000000
set_option maxRecDepth 100000
namespace Go.Proofs.YtibknjpbbeackaaGreat
open Go.RowKit
mutual
def esz : E → Nat
  | .mk _ _ _ ks => 1 + eszL ks
def eszL : List E → Nat
  | [] => 0
  | e :: l => esz e + eszL l
end
theorem esz_eq (e : E) : esz e = 1 + eszL e.ks := by cases e; rfl
theorem eszL_append : ∀ (l m : List E), eszL (l ++ m) = eszL l + eszL m
  | [], m => by rw [List.nil_append, eszL, Nat.zero_add]
  | e :: l, m => by rw [List.cons_append, eszL, eszL, eszL_append l m]; omega
theorem eszL_len : ∀ l : List E, l.length ≤ eszL l
  | [] => Nat.le_refl _
  | e :: l => by
    have := eszL_len l
    rw [eszL, esz_eq, List.length_cons]
    omega
theorem eszL_mem {e : E} {l : List E} (h : e ∈ l) : esz e ≤ eszL l := by
  induction l with
  | nil => cases h
  | cons x l ih =>
    rw [eszL]
    rcases List.mem_cons.1 h with rfl | h
    · omega
    · have := ih h; omega
end Go.Proofs.YtibknjpbbeackaaGreat
namespace Go.Proofs.YtibknjpbbeackaaGreat
open Go.RowKit
noncomputable section
def r_Z86_0 : List GI := [gi 3 (.box 3 2000003 (.t 0) (some 5)), gk 6 0]
def r_Z86_1 : List GI := [gt 11 2, gd 12 .lss 11 0, gt 13 12, ⟨.lod 14 3 (some 5), some 14, some (13, false), false⟩, ⟨.call 15 77 [.t 14], some 15, some (13, false), true⟩, ⟨.un 16 UnOp.not (.t 15), some 16, some (13, false), false⟩, gi 17 (.pick 17 (.t 13) (.k (.v (.bool true))) (.t 16))]
def r_Z86_2 : List GI := [gk 6 0]
def r_Z86_3 : List GI := [gf 18 3 0, gl 19 18, gd 20 .eql 19 1]
def r_Z86_4 : List GI := [gf 21 3 1, gl 22 21, gd 23 .lss 22 0, gt 24 23, ⟨.fad 25 3 1, some 25, some (24, false), false⟩, ⟨.lod 26 25 none, some 26, some (24, false), false⟩, ⟨.mov 27 (.t 1), some 27, some (24, false), false⟩, ⟨.len 28 (.t 27), some 28, some (24, false), false⟩, ⟨.bin 29 .geq (.t 26) (.t 28), some 29, some (24, false), false⟩, gi 30 (.pick 30 (.t 24) (.k (.v (.bool true))) (.t 29))]
def r_Z86_5 : List GI := [gk 6 0]
def r_Z86_6 : List GI := [gt 31 1, gf 32 3 1, gl 33 32, ga 34 31 33 1, gl 35 34, gt 6 35]
def r_Z86_7 : List GI := [gi 7 (.mov 7 (.k .nul))]
def r_Z86_8 : List GI := [gf 36 3 4, gl 37 36, gn 38 37, gk 39 0]
def r_Z86_9 : List GI := [gb 40 .lss 39 38]
def r_Z86_10 : List GI := [ga 41 37 39 5, gs 42 41 5, gi 9 (.alloc 9 2000009 [I 0, I 0, .nul, .nul, .nul]), g0 (.sto 9 (.t 42) (some 5))]
def r_Z86_11 : List GI := [gs 43 9 5, gt 44 1, gt 45 2, gd 46 .sub 45 1, gc 47 49 [.t 43, .t 44, .t 46], gt 10 47]
def r_Z86_12 : List GI := [gt 48 10, gd 49 .eql 48 0]
def r_Z86_13 : List GI := [gk 6 0]
def r_Z86_14 : List GI := [gt 50 7, gt 51 10, gi 52 (.bsl 52 1 none [I 0] [(0, .t 51)]), gi 53 (.app 53 2000053 (.t 50) (.t 52) 1 8), gt 7 53]
def r_Z86_15 : List GI := [gd 54 .add 39 1, gt 39 54]
def r_Z86_16 : List GI := [gs 55 3 5, gt 56 7, gc 57 78 [.t 55, .t 56], gi 58 (.un 58 UnOp.not (.t 57))]
def r_Z86_17 : List GI := [gk 6 0]
def r_Z86_18 : List GI := [gs 59 3 5, gt 60 7, gc 61 55 [.t 59, .t 60], gt 6 61]
def dc_Z86 : DC := .seq (.z r_Z86_0) (.seq (.seq (.z r_Z86_1) (.cond (.t 17) (.seq (.z r_Z86_2) .ret) .skip)) (.seq (.seq (.z r_Z86_3) (.cond (.t 20) (.seq (.seq (.z r_Z86_4) (.cond (.t 30) (.seq (.z r_Z86_5) .ret) .skip)) (.seq (.z r_Z86_6) .ret)) .skip)) (.seq (.z r_Z86_7) (.seq (.seq (.z r_Z86_8) (.block 0 (.loop (.seq (.z r_Z86_9) (.seq (.cond (.t 40) .skip (.exit 0)) (.seq (.block 1 (.seq (.z r_Z86_10) (.seq (.z r_Z86_11) (.seq (.seq (.z r_Z86_12) (.cond (.t 49) (.seq (.z r_Z86_13) .ret) .skip)) (.z r_Z86_14))))) (.z r_Z86_15))))))) (.seq (.seq (.z r_Z86_16) (.cond (.t 58) (.seq (.z r_Z86_17) .ret) .skip)) (.seq (.z r_Z86_18) .ret))))))
theorem c_Z86 : cfun Tryz.prog [] 49 = some (62, dc_Z86, [(Res.tmp 6)]) := by kernel_rfl
end
end Go.Proofs.YtibknjpbbeackaaGreat
namespace Go.Proofs.YtibknjpbbeackaaGreat
open Go.RowKit
noncomputable section
def r_Z125_0 : List GI := [gi 3 (.box 3 2000003 (.t 0) (some 5)), gk 6 0]
def r_Z125_1 : List GI := [gi 10 (.mov 10 (.k .nul)), gt 7 10]
def r_Z125_2 : List GI := [gs 11 3 5, gc 12 102 [.t 11], gi 13 (.un 13 UnOp.not (.t 12)), gt 14 13, ⟨.fad 15 3 4, some 15, some (14, false), false⟩, ⟨.lod 16 15 none, some 16, some (14, false), false⟩, ⟨.len 17 (.t 16), some 17, some (14, false), false⟩, ⟨.bin 18 .gtr (.t 17) (.k (I 0)), some 18, some (14, false), false⟩, ⟨.mov 19 (.t 18), some 19, some (14, false), false⟩, ⟨.mov 20 (.t 2), some 20, some (19, true), false⟩, ⟨.bin 21 .eql (.t 20) (.k (I 0)), some 21, some (19, true), false⟩, ⟨.pick 22 (.t 19) (.t 21) (.k (.v (.bool false))), some 22, some (14, false), false⟩, gi 23 (.pick 23 (.t 14) (.k (.v (.bool true))) (.t 22))]
def r_Z125_3 : List GI := [gk 6 0]
def r_Z125_4 : List GI := [gk 8 0]
def r_Z125_5 : List GI := [gt 24 8, gf 25 3 4, gl 26 25, gn 27 26, gb 28 .lss 24 27]
def r_Z125_6 : List GI := [gf 31 3 4, gl 32 31, gt 33 8, ga 34 32 33 5, gs 35 34 5, gt 36 1, gt 37 2, gd 38 .sub 37 1, gc 39 61 [.t 35, .t 36, .t 38], gt 9 39]
def r_Z125_7 : List GI := [gt 40 9, gd 41 .eql 40 0]
def r_Z125_8 : List GI := [gk 6 0]
def r_Z125_9 : List GI := [gt 42 7, gt 43 9, gi 44 (.bsl 44 1 none [I 0] [(0, .t 43)]), gi 45 (.app 45 2000045 (.t 42) (.t 44) 1 8), gt 7 45]
def r_Z125_10 : List GI := [gt 29 8, gd 30 .add 29 1, gt 8 30]
def r_Z125_11 : List GI := [gf 46 3 0, gl 47 46]
def r_Z125_12 : List GI := [gd 49 .eql 47 1, gt 48 49]
def r_Z125_13 : List GI := [gf 50 3 1, gl 51 50, gt 52 1, gn 53 52, gd 54 .sub 53 1, gc 55 101 [.t 51, .k (I 0), .t 54]]
def r_Z125_14 : List GI := [gt 56 1, gf 57 3 1, gl 58 57, ga 59 56 58 1, gl 60 59, gt 6 60]
def r_Z125_15 : List GI := [gd 62 .eql 47 2, gt 61 62]
def r_Z125_16 : List GI := [gf 63 3 2, gl 64 63, gi 65 (.iad 65 64 (.k (I 0)) 5), gs 66 65 5, gt 67 7, gi 68 (.iad 68 67 (.k (I 0)) 1), gl 69 68, gc 70 103 [.t 66, .t 69]]
def r_Z125_17 : List GI := [gt 71 7, gi 72 (.iad 72 71 (.k (I 0)) 1), gl 73 72, gt 6 73]
def r_Z125_18 : List GI := [gd 75 .eql 47 3, gt 74 75]
def r_Z125_19 : List GI := [gf 76 3 2, gl 77 76, gt 78 7, gi 79 (.iad 79 78 (.k (I 0)) 1), gl 80 79, gc 81 104 [.t 77, .t 80], gt 6 81]
def r_Z125_20 : List GI := [gd 83 .eql 47 4, gt 82 83]
def r_Z125_21 : List GI := [gd 84 .eql 47 5, gt 82 84]
def r_Z125_22 : List GI := [gt 85 7, gi 86 (.iad 86 85 (.k (I 0)) 1), gl 87 86, gt 88 7, gi 89 (.iad 89 88 (.k (I 1)) 1), gl 90 89, gb 91 .add 87 90, gd 92 .leq 91 6, gt 93 92, ⟨.fad 94 3 2, some 94, some (93, true), false⟩, ⟨.lod 95 94 none, some 95, some (93, true), false⟩, ⟨.iad 96 95 (.k (I 0)) 5, some 96, some (93, true), false⟩, ⟨.lod 97 96 (some 5), some 97, some (93, true), false⟩, ⟨.mov 98 (.t 7), some 98, some (93, true), false⟩, ⟨.iad 99 98 (.k (I 0)) 1, some 99, some (93, true), false⟩, ⟨.lod 100 99 none, some 100, some (93, true), false⟩, ⟨.mov 101 (.t 7), some 101, some (93, true), false⟩, ⟨.iad 102 101 (.k (I 1)) 1, some 102, some (93, true), false⟩, ⟨.lod 103 102 none, some 103, some (93, true), false⟩, ⟨.bin 104 .add (.t 100) (.t 103), some 104, some (93, true), false⟩, ⟨.call 105 103 [.t 97, .t 104], some 105, some (93, true), true⟩, gi 106 (.pick 106 (.t 93) (.t 105) (.k (.v (.bool false))))]
def r_Z125_23 : List GI := [gt 107 7, gi 108 (.iad 108 107 (.k (I 0)) 1), gl 109 108, gt 110 7, gi 111 (.iad 111 110 (.k (I 1)) 1), gl 112 111, gb 113 .add 109 112, gt 6 113]
def r_Z125_24 : List GI := [gd 115 .eql 47 6, gt 114 115]
def r_Z125_25 : List GI := [gt 116 7, gi 117 (.iad 117 116 (.k (I 0)) 1), gl 118 117, gt 119 7, gi 120 (.iad 120 119 (.k (I 1)) 1), gl 121 120, gb 122 .eql 118 121]
def r_Z125_26 : List GI := [gt 123 7, gi 124 (.iad 124 123 (.k (I 0)) 1), gl 125 124, gt 6 125]
def r_Z125_27 : List GI := [gd 127 .eql 47 7, gt 126 127]
def r_Z125_28 : List GI := [gt 128 7, gi 129 (.iad 129 128 (.k (I 0)) 1), gl 130 129, gt 6 130]
def r_Z125_29 : List GI := [gd 132 .eql 47 8, gt 131 132]
def r_Z125_30 : List GI := [gf 133 3 3, gl 134 133, gt 135 7, gi 136 (.iad 136 135 (.k (I 0)) 1), gl 137 136, gc 138 105 [.t 134, .t 137], gt 139 138, ⟨.fad 140 3 3, some 140, some (139, true), false⟩, ⟨.lod 141 140 none, some 141, some (139, true), false⟩, ⟨.len 142 (.t 141), some 142, some (139, true), false⟩, ⟨.bin 143 .lss (.t 142) (.k (I 6)), some 143, some (139, true), false⟩, gi 144 (.pick 144 (.t 139) (.t 143) (.k (.v (.bool false))))]
def r_Z125_31 : List GI := [gf 145 3 3, gl 146 145, gn 147 146, gd 148 .add 147 1, gt 6 148]
def r_Z125_32 : List GI := [gk 6 0]
def dc_Z125 : DC := .seq (.z r_Z125_0) (.seq (.z r_Z125_1) (.seq (.seq (.z r_Z125_2) (.cond (.t 23) (.seq (.z r_Z125_3) .ret) .skip)) (.seq (.seq (.z r_Z125_4) (.block 0 (.loop (.seq (.seq (.z r_Z125_5) (.cond (.t 28) .skip (.exit 0))) (.seq (.block 1 (.seq (.z r_Z125_6) (.seq (.seq (.z r_Z125_7) (.cond (.t 41) (.seq (.z r_Z125_8) .ret) .skip)) (.z r_Z125_9)))) (.z r_Z125_10)))))) (.seq (.seq (.z r_Z125_11) (.block 2 (.seq (.z r_Z125_12) (.cond (.t 48) (.seq (.z r_Z125_13) (.cond (.t 55) (.seq (.z r_Z125_14) .ret) .skip)) (.seq (.z r_Z125_15) (.cond (.t 61) (.seq (.reg r_Z125_16 (some [0, 1, 3, 7, 0, 16, 48, 127])) (.cond (.t 70) (.seq (.z r_Z125_17) .ret) .skip)) (.seq (.z r_Z125_18) (.cond (.t 74) (.seq (.reg r_Z125_19 (some [0, 1, 0, 4, 12, 31, 63])) .ret) (.seq (.seq (.z r_Z125_20) (.cond (.t 82) .skip (.z r_Z125_21))) (.cond (.t 82) (.seq (.reg r_Z125_22 (some [0, 1, 3, 0, 8, 24, 63, 127, 255, 511, 1023, 2047, 4095, 511, 8703, 25087, 511, 66047, 197119, 516607, 1048575, 2097151])) (.cond (.t 106) (.seq (.reg r_Z125_23 (some [0, 1, 3, 0, 8, 24, 63, 127])) .ret) .skip)) (.seq (.z r_Z125_24) (.cond (.t 114) (.seq (.reg r_Z125_25 (some [0, 1, 3, 0, 8, 24, 63])) (.cond (.t 122) (.seq (.z r_Z125_26) .ret) .skip)) (.seq (.z r_Z125_27) (.cond (.t 126) (.seq (.z r_Z125_28) .ret) (.seq (.z r_Z125_29) (.cond (.t 131) (.seq (.reg r_Z125_30 (some [0, 1, 0, 4, 12, 31, 63, 127, 255, 511, 1023, 2047])) (.cond (.t 144) (.seq (.z r_Z125_31) .ret) .skip)) .skip)))))))))))))))) (.seq (.z r_Z125_32) .ret)))))
theorem c_Z125 : cfun Tryz.prog [] 61 = some (149, dc_Z125, [(Res.tmp 6)]) := by kernel_rfl
end
end Go.Proofs.YtibknjpbbeackaaGreat
namespace Go.Proofs.YtibknjpbbeackaaGreat
open Go.RowKit
noncomputable section
def r_Z111_0 : List GI := [gi 2 (.box 2 2000002 (.t 0) (some 5)), gk 4 0]
def r_Z111_1 : List GI := [gt 5 1, gc 6 48 [.t 5], gi 7 (.un 7 UnOp.not (.t 6))]
def r_Z111_2 : List GI := [gk 4 0]
def r_Z111_3 : List GI := [gs 8 2 5, gt 9 1, gc 10 49 [.t 8, .t 9, .k (I 8)], gt 4 10]
def dc_Z111 : DC := .seq (.z r_Z111_0) (.seq (.seq (.z r_Z111_1) (.cond (.t 7) (.seq (.z r_Z111_2) .ret) .skip)) (.seq (.z r_Z111_3) .ret))
theorem c_Z111 : cfun Tryz.prog [] 27 = some (11, dc_Z111, [(Res.tmp 4)]) := by kernel_rfl
def r_Z162_0 : List GI := [gi 2 (.box 2 2000002 (.t 0) (some 5)), gk 4 0]
def r_Z162_1 : List GI := [gt 5 1, gc 6 60 [.t 5], gi 7 (.un 7 UnOp.not (.t 6))]
def r_Z162_2 : List GI := [gk 4 0]
def r_Z162_3 : List GI := [gs 8 2 5, gt 9 1, gc 10 61 [.t 8, .t 9, .k (I 8)], gt 4 10]
def dc_Z162 : DC := .seq (.z r_Z162_0) (.seq (.seq (.z r_Z162_1) (.cond (.t 7) (.seq (.z r_Z162_2) .ret) .skip)) (.seq (.z r_Z162_3) .ret))
theorem c_Z162 : cfun Tryz.prog [] 37 = some (11, dc_Z162, [(Res.tmp 4)]) := by kernel_rfl
end
end Go.Proofs.YtibknjpbbeackaaGreat
namespace Go.Proofs.YtibknjpbbeackaaGreat
open Go.RowKit
noncomputable section
def r_Z130_0 : List GI := [gi 2 (.box 2 2000002 (.t 0) (some 5)), gi 4 (.mov 4 (.k (.v (.bool false))))]
def r_Z130_1 : List GI := [gf 7 2 0, gl 8 7]
def r_Z130_2 : List GI := [gd 10 .eql 8 6, gt 9 10]
def r_Z130_3 : List GI := [gt 11 1, gi 12 (.iad 12 11 (.k (I 0)) 1), gl 13 12, gt 14 1, gi 15 (.iad 15 14 (.k (I 1)) 1), gl 16 15, gb 17 .eql 13 16, gt 4 17]
def r_Z130_4 : List GI := [gd 19 .eql 8 8, gt 18 19]
def r_Z130_5 : List GI := [gf 20 2 3, gl 21 20, gt 22 1, gi 23 (.iad 23 22 (.k (I 0)) 1), gl 24 23, gc 25 121 [.t 21, .t 24], gt 4 25]
def r_Z130_6 : List GI := [gf 26 2 2, gl 27 26, gn 28 27, gk 29 0]
def r_Z130_7 : List GI := [gb 30 .lss 29 28]
def r_Z130_8 : List GI := [ga 31 27 29 5, gs 32 31 5, gi 6 (.alloc 6 2000006 [I 0, I 0, .v (.bool false), I 0, .nul]), g0 (.sto 6 (.t 32) (some 5))]
def r_Z130_9 : List GI := [gs 33 6 5, gt 34 1, gc 35 85 [.t 34], gc 36 122 [.t 33, .t 35], gi 37 (.un 37 UnOp.not (.t 36))]
def r_Z130_10 : List GI := [gi 4 (.mov 4 (.k (.v (.bool false))))]
def r_Z130_11 : List GI := [gd 38 .add 29 1, gt 29 38]
def r_Z130_12 : List GI := [gi 4 (.mov 4 (.k (.v (.bool true))))]
def dc_Z130 : DC := .seq (.z r_Z130_0) (.seq (.seq (.z r_Z130_1) (.block 0 (.seq (.z r_Z130_2) (.cond (.t 9) (.seq (.reg r_Z130_3 (some [0, 1, 3, 0, 8, 24, 63, 127])) .ret) (.seq (.z r_Z130_4) (.cond (.t 18) (.seq (.reg r_Z130_5 (some [0, 1, 0, 4, 12, 31, 63])) .ret) .skip)))))) (.seq (.seq (.z r_Z130_6) (.block 1 (.loop (.seq (.z r_Z130_7) (.seq (.cond (.t 30) .skip (.exit 1)) (.seq (.block 2 (.seq (.z r_Z130_8) (.seq (.reg r_Z130_9 (some [0, 0, 2, 7, 15])) (.cond (.t 37) (.seq (.z r_Z130_10) .ret) .skip)))) (.z r_Z130_11))))))) (.seq (.z r_Z130_12) .ret)))
theorem c_Z130 : cfun Tryz.prog [] 78 = some (39, dc_Z130, [(Res.tmp 4)]) := by kernel_rfl
def r_Z168_0 : List GI := [gk 2 0]
def r_Z168_1 : List GI := [gk 3 0]
def r_Z168_2 : List GI := [gt 6 0, gn 7 6, gk 8 0]
def r_Z168_3 : List GI := [gb 9 .lss 8 7]
def r_Z168_4 : List GI := [ga 10 6 8 1, gl 11 10, gt 5 11]
def r_Z168_5 : List GI := [gt 12 3, gt 13 5, gb 14 .add 12 13, gt 3 14]
def r_Z168_6 : List GI := [gd 15 .add 8 1, gt 8 15]
def r_Z168_7 : List GI := [gt 16 3, gt 2 16]
def dc_Z168 : DC := .seq (.z r_Z168_0) (.seq (.z r_Z168_1) (.seq (.seq (.z r_Z168_2) (.block 0 (.loop (.seq (.z r_Z168_3) (.seq (.cond (.t 9) .skip (.exit 0)) (.seq (.block 1 (.seq (.z r_Z168_4) (.z r_Z168_5))) (.z r_Z168_6))))))) (.seq (.z r_Z168_7) .ret)))
theorem c_Z168 : cfun Tryz.prog [] 85 = some (17, dc_Z168, [(Res.tmp 2)]) := by kernel_rfl
def r_Z117_0 : List GI := [gi 2 (.box 2 2000002 (.t 0) (some 5)), gk 4 0]
def r_Z117_1 : List GI := [gf 5 2 0, gl 6 5]
def r_Z117_2 : List GI := [gd 8 .eql 6 3, gt 7 8]
def r_Z117_3 : List GI := [gf 9 2 2, gl 10 9, gn 11 10, gt 4 11]
def r_Z117_4 : List GI := [gd 13 .eql 6 4, gt 12 13]
def r_Z117_5 : List GI := [gd 14 .eql 6 5, gt 12 14]
def r_Z117_6 : List GI := [gt 15 1, gc 16 85 [.t 15], gt 4 16]
def r_Z117_7 : List GI := [gd 18 .eql 6 8, gt 17 18]
def r_Z117_8 : List GI := [gf 19 2 3, gl 20 19, gn 21 20, gd 22 .add 21 1, gt 4 22]
def r_Z117_9 : List GI := [gt 23 1, gi 24 (.iad 24 23 (.k (I 0)) 1), gl 25 24, gt 4 25]
def dc_Z117 : DC := .seq (.z r_Z117_0) (.seq (.seq (.z r_Z117_1) (.block 0 (.seq (.z r_Z117_2) (.cond (.t 7) (.seq (.z r_Z117_3) .ret) (.seq (.seq (.z r_Z117_4) (.cond (.t 12) .skip (.z r_Z117_5))) (.cond (.t 12) (.seq (.z r_Z117_6) .ret) (.seq (.z r_Z117_7) (.cond (.t 17) (.seq (.z r_Z117_8) .ret) .skip)))))))) (.seq (.z r_Z117_9) .ret))
theorem c_Z117 : cfun Tryz.prog [] 55 = some (26, dc_Z117, [(Res.tmp 4)]) := by kernel_rfl
end
end Go.Proofs.YtibknjpbbeackaaGreat

/-
  Functions of the program read as code on plain data. Closed facts of the program alone.
-/
import Derived.KernelRfl
import Derived.Test.YtedmegmhjmabcaaRows
import Derived.Test.YtedmegmhjmabcaaJSVLib
import Derived.Test.YtedmegmhjmabcaaJSVGi
namespace Go.Proofs.Ytedmegmhjmabcaa
open Go.RowKit
noncomputable section
def r_Z50_0 : List GI:=[gi 4 (.box 4 2000004 (.t 0) (some 2)),gi 5 (.box 5 2000005 (.t 1) (some 2)),gi 8 (.alloc 8 2000008 [I 0,.nul]),gi 9 (.mov 9 (.k (.v (.bool false))))]
def r_Z50_1 : List GI:=[gs 10 4 2,gs 11 5 2,gt 12 2,gt 13 3,gc 14 80 [.t 10,.t 11,.t 12,.t 13],gi 15 (.un 15 UnOp.not (.t 14))]
def r_Z50_2 : List GI:=[gi 16 (.build 16 [I 0,.nul] []),g0 (.sto 8 (.t 16) (some 2)),gi 9 (.mov 9 (.k (.v (.bool false))))]
def r_Z50_3 : List GI:=[gs 17 4 2,gs 18 5 2,gt 19 2,gt 20 3,gc 21 81 [.t 17,.t 18,.t 19,.t 20,.k (.v (.bool false))],g0 (.sto 8 (.t 21) (some 2)),gi 9 (.mov 9 (.k (.v (.bool true))))]
def dc_Z50 : DC:=.seq (.z r_Z50_0) (.seq (.seq (.z r_Z50_1) (.cond (.t 15) (.seq (.z r_Z50_2) .ret) .skip)) (.seq (.z r_Z50_3) .ret))
theorem c_Z50 : cfun Try.prog [] 41 = some (22,dc_Z50,[(Res.cell 8 (some 2)),(Res.tmp 9)]):=by kernel_rfl
def r_Z51_0 : List GI:=[gi 4 (.box 4 2000004 (.t 0) (some 2)),gi 5 (.box 5 2000005 (.t 1) (some 2)),gi 8 (.alloc 8 2000008 [I 0,.nul]),gi 9 (.mov 9 (.k (.v (.bool false))))]
def r_Z51_1 : List GI:=[gs 10 4 2,gs 11 5 2,gt 12 2,gt 13 3,gc 14 80 [.t 10,.t 11,.t 12,.t 13],gi 15 (.un 15 UnOp.not (.t 14))]
def r_Z51_2 : List GI:=[gi 16 (.build 16 [I 0,.nul] []),g0 (.sto 8 (.t 16) (some 2)),gi 9 (.mov 9 (.k (.v (.bool false))))]
def r_Z51_3 : List GI:=[gs 17 4 2,gs 18 5 2,gt 19 2,gt 20 3,gc 21 81 [.t 17,.t 18,.t 19,.t 20,.k (.v (.bool true))],g0 (.sto 8 (.t 21) (some 2)),gi 9 (.mov 9 (.k (.v (.bool true))))]
def dc_Z51 : DC:=.seq (.z r_Z51_0) (.seq (.seq (.z r_Z51_1) (.cond (.t 15) (.seq (.z r_Z51_2) .ret) .skip)) (.seq (.z r_Z51_3) .ret))
theorem c_Z51 : cfun Try.prog [] 39 = some (22,dc_Z51,[(Res.cell 8 (some 2)),(Res.tmp 9)]):=by kernel_rfl
end
end Go.Proofs.Ytedmegmhjmabcaa
namespace Go.Proofs.Ytedmegmhjmabcaa
open Go.RowKit
noncomputable section
def r_Z63_0 : List GI:=[gi 4 (.alloc 4 2000004 [I 0,.nul])]
def r_Z63_1 : List GI:=[gt 7 0,gi 8 (.build 8 [I 0,.nul] [(0,(none,.t 7))]),gi 5 (.alloc 5 2000005 [I 0,.nul]),g0 (.sto 5 (.t 8) (some 2))]
def r_Z63_2 : List GI:=[gt 9 1,gn 10 9,gd 11 .gtr 10 400]
def r_Z63_3 : List GI:=[gs 12 5 2,g0 (.sto 4 (.t 12) (some 2))]
def r_Z63_4 : List GI:=[gk 6 0]
def r_Z63_5 : List GI:=[gt 13 6,gt 14 1,gn 15 14,gb 16 .lss 13 15]
def r_Z63_6 : List GI:=[gf 19 5 1,gl 20 19,gt 21 1,gt 22 6,ga 23 21 22 1,gl 24 23,gc 25 104 [.t 20,.t 24],gf 26 5 1,g0 (.sto 26 (.t 25) none)]
def r_Z63_7 : List GI:=[gt 17 6,gd 18 .add 17 1,gt 6 18]
def r_Z63_8 : List GI:=[gs 27 5 2,g0 (.sto 4 (.t 27) (some 2))]
def dc_Z63 : DC:=.seq (.z r_Z63_0) (.seq (.z r_Z63_1) (.seq (.seq (.z r_Z63_2) (.cond (.t 11) (.seq (.z r_Z63_3) .ret) .skip)) (.seq (.seq (.z r_Z63_4) (.block 0 (.loop (.seq (.seq (.z r_Z63_5) (.cond (.t 16) .skip (.exit 0))) (.seq (.block 1 (.reg r_Z63_6 (some [0,1,0,0,12,28,63,127,255]))) (.z r_Z63_7)))))) (.seq (.z r_Z63_8) .ret))))
theorem c_Z63 : cfun Try.prog [] 63 = some (28,dc_Z63,[(Res.cell 4 (some 2))]):=by kernel_rfl
def r_Z5_0 : List GI:=[gi 4 (.mov 4 (.k .nul))]
def r_Z5_1 : List GI:=[gi 5 (.mov 5 (.k .nul))]
def r_Z5_2 : List GI:=[gt 8 0,gn 9 8,gk 10 0]
def r_Z5_3 : List GI:=[gb 11 .lss 10 9]
def r_Z5_4 : List GI:=[ga 12 8 10 1,gl 13 12,gt 7 13]
def r_Z5_5 : List GI:=[gt 14 1,gt 15 7,⟨.cal 16 (.t 14) [.t 15],some 16,none,true⟩]
def r_Z5_6 : List GI:=[gt 17 5,gt 18 7,gi 19 (.bsl 19 1 none [.nul] [(0,.t 18)]),gi 20 (.app 20 2000020 (.t 17) (.t 19) 1 24),gt 5 20]
def r_Z5_7 : List GI:=[gd 21 .add 10 1,gt 10 21]
def r_Z5_8 : List GI:=[gt 22 5,gt 4 22]
def dc_Z5 : DC:=.seq (.z r_Z5_0) (.seq (.z r_Z5_1) (.seq (.seq (.z r_Z5_2) (.block 0 (.loop (.seq (.z r_Z5_3) (.seq (.cond (.t 11) .skip (.exit 0)) (.seq (.block 1 (.seq (.z r_Z5_4) (.seq (.z r_Z5_5) (.cond (.t 16) (.z r_Z5_6) .skip)))) (.z r_Z5_7))))))) (.seq (.z r_Z5_8) .ret)))
theorem c_Z5 : cfun Try.prog [] 64 = some (23,dc_Z5,[(Res.tmp 4)]):=by kernel_rfl
def r_Z33_0 : List GI:=[gi 2 (.box 2 2000002 (.t 0) (some 2)),gi 4 (.mov 4 (.k (.v (.bool false))))]
def r_Z33_1 : List GI:=[gs 5 2 2,gc 6 75 [.t 5],gt 7 6,⟨.mov 8 (.t 1),some 8,some (7,true),false⟩,⟨.fad 9 2 0,some 9,some (7,true),false⟩,⟨.lod 10 9 none,some 10,some (7,true),false⟩,⟨.call 11 101 [.t 8,.t 10],some 11,some (7,true),true⟩,gi 12 (.pick 12 (.t 7) (.t 11) (.k (.v (.bool false)))),gt 4 12]
def dc_Z33 : DC:=.seq (.z r_Z33_0) (.seq (.z r_Z33_1) .ret)
theorem c_Z33 : cfun Try.prog [] 59 = some (13,dc_Z33,[(Res.tmp 4)]):=by kernel_rfl
end
end Go.Proofs.Ytedmegmhjmabcaa

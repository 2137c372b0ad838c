/-
  Functions of the program read as code on plain data. Closed facts of the program alone.
-/
import Derived.KernelRfl
import Derived.Test.YtgpdmgaemhelgaaGreatRows
import Derived.Test.YtgpdmgaemhelgaaGreatJSVGo
import Derived.Test.YtgpdmgaemhelgaaGreatJSVFrzB
import Derived.Test.YtgpdmgaemhelgaaGreatJSDch
import Derived.Test.YtgpdmgaemhelgaaGreatKSDca
namespace Go.Proofs.YtgpdmgaemhelgaaGreat
open Go.RowKit
noncomputable section
def r_Z21_0 : List GI:=[gi 1 (.box 1 2000001 (.t 0) (some 2)),gi 2 (.mov 2 (.k (.v (.bool false))))]
def r_Z21_1 : List GI:=[gf 3 1 0,gl 4 3,gd 5 .neq 4 2,gt 6 5,⟨.fad 7 1 0,some 7,some (6,true),false⟩,⟨.lod 8 7 none,some 8,some (6,true),false⟩,⟨.bin 9 .neq (.t 8) (.k (I 5)),some 9,some (6,true),false⟩,gi 10 (.pick 10 (.t 6) (.t 9) (.k (.v (.bool false)))),gt 11 10,⟨.fad 12 1 0,some 12,some (11,true),false⟩,⟨.lod 13 12 none,some 13,some (11,true),false⟩,⟨.bin 14 .neq (.t 13) (.k (I 6)),some 14,some (11,true),false⟩,gi 15 (.pick 15 (.t 11) (.t 14) (.k (.v (.bool false)))),gt 2 15]
def dc_Z21 : DC:=.seq (.z r_Z21_0) (.seq (.z r_Z21_1) .ret)
theorem c_Z21 : cfun Tryz.prog [] 116 = some (16,dc_Z21,[(Res.tmp 2)]):=by kernel_rfl
def r_Z151_0 : List GI:=[gi 2 (.mov 2 (.k (.v (.bool false))))]
def r_Z151_1 : List GI:=[gt 3 0,gd 4 .neq 3 2,gt 5 4,⟨.mov 6 (.t 0),some 6,some (5,true),false⟩,⟨.bin 7 .neq (.t 6) (.k (I 5)),some 7,some (5,true),false⟩,gi 8 (.pick 8 (.t 5) (.t 7) (.k (.v (.bool false)))),gt 9 8,⟨.mov 10 (.t 0),some 10,some (9,true),false⟩,⟨.bin 11 .neq (.t 10) (.k (I 6)),some 11,some (9,true),false⟩,gi 12 (.pick 12 (.t 9) (.t 11) (.k (.v (.bool false)))),gt 2 12]
def dc_Z151 : DC:=.seq (.z r_Z151_0) (.seq (.z r_Z151_1) .ret)
theorem c_Z151 : cfun Tryz.prog [] 69 = some (13,dc_Z151,[(Res.tmp 2)]):=by kernel_rfl
end
end Go.Proofs.YtgpdmgaemhelgaaGreat
namespace Go.Proofs.YtgpdmgaemhelgaaGreat
open Go.RowKit
noncomputable section
def r_Z33_0 : List GI:=[gi 2 (.box 2 2000002 (.t 0) (some 5)),gi 3 (.box 3 2000003 (.t 1) none),gi 4 (.mov 4 (.k (.v .nilFunc)))]
def r_Z33_1 : List GI:=[gi 5 (.mkf 5 106 [.t 2,.t 3]),gt 4 5]
def dc_Z33 : DC:=.seq (.z r_Z33_0) (.seq (.z r_Z33_1) .ret)
theorem c_Z33 : cfun Tryz.prog [] 59 = some (6,dc_Z33,[(Res.tmp 4)]):=by kernel_rfl
end
end Go.Proofs.YtgpdmgaemhelgaaGreat
namespace Go.Proofs.YtgpdmgaemhelgaaGreat
open Go.RowKit
noncomputable section
def r_Z96_0 : List GI:=[gi 2 (.box 2 2000002 (.t 0) (some 5)),gi 4 (.mov 4 (.k (.v (.bool false))))]
def r_Z96_1 : List GI:=[gs 5 2 5,gt 6 1,gc 7 19 [.t 5,.t 6],gd 8 .neq 7 0,gt 9 8,⟨.lod 10 2 (some 5),some 10,some (9,true),false⟩,⟨.mov 11 (.t 1),some 11,some (9,true),false⟩,⟨.call 12 68 [.t 10,.t 11],some 12,some (9,true),true⟩,⟨.fld 13 (.t 12) 0 none,some 13,some (9,true),false⟩,⟨.bin 14 .eql (.t 13) (.k (I 0)),some 14,some (9,true),false⟩,gi 15 (.pick 15 (.t 9) (.t 14) (.k (.v (.bool false)))),gt 4 15]
def dc_Z96 : DC:=.seq (.z r_Z96_0) (.seq (.z r_Z96_1) .ret)
theorem c_Z96 : cfun Tryz.prog [] 37 = some (16,dc_Z96,[(Res.tmp 4)]):=by kernel_rfl
def r_Z22_0 : List GI:=[gi 2 (.box 2 2000002 (.t 0) (some 5)),gi 4 (.alloc 4 2000004 [I 0,.nul])]
def r_Z22_1 : List GI:=[gs 6 2 5,gt 7 1,gc 8 59 [.t 6,.t 7]]
def r_Z22_2 : List GI:=[gi 5 (.alloc 5 2000005 [I 0,.nul]),g0 (.sto 5 (.t 9) (some 2))]
def r_Z22_3 : List GI:=[gs 10 5 2,gc 11 116 [.t 10]]
def r_Z22_4 : List GI:=[gs 12 5 2,g0 (.sto 4 (.t 12) (some 2))]
def r_Z22_5 : List GI:=[gi 13 (.build 13 [I 0,.nul] []),g0 (.sto 4 (.t 13) (some 2))]
def dc_Z22 : DC:=.seq (.z r_Z22_0) (.seq (.seq (.z r_Z22_1) (.block 0 (.rng (.t 8) [9] (.z r_Z22_2) (.block 1 (.seq (.z r_Z22_3) (.cond (.t 11) (.seq (.z r_Z22_4) .ret) .skip)))))) (.seq (.z r_Z22_5) .ret))
theorem c_Z22 : cfun Tryz.prog [] 68 = some (14,dc_Z22,[(Res.cell 4 (some 2))]):=by kernel_rfl
end
end Go.Proofs.YtgpdmgaemhelgaaGreat
namespace Go.Proofs.YtgpdmgaemhelgaaGreat
open Go.RowKit
noncomputable section
def r_Z24_0 : List GI:=[gi 3 (.box 3 2000003 (.t 0) none)]
def r_Z24_1 : List GI:=[gc 11 84 [],gi 4 (.alloc 4 2000004 [.nul]),g0 (.sto 4 (.t 11) none)]
def r_Z24_2 : List GI:=[gs 12 1 5,gc 13 107 [.t 12]]
def r_Z24_3 : List GI:=[gt 5 14]
def r_Z24_4 : List GI:=[gi 6 (.alloc 6 2000006 [I 0,I 0,.nul,.nul,.nul]),g0 (.sto 6 (.t 15) (some 5))]
def r_Z24_5 : List GI:=[gl 16 4,gn 17 16,gk 18 0]
def r_Z24_6 : List GI:=[gb 19 .lss 18 17]
def r_Z24_7 : List GI:=[gt 20 18,ga 21 16 18 3,gs 22 21 3,gi 8 (.alloc 8 2000008 [I 0,.nul,.v .nilFunc]),gt 7 20,g0 (.sto 8 (.t 22) (some 3))]
def r_Z24_8 : List GI:=[gs 24 8 3,gs 25 6 5,gl 26 2,gt 27 5,gn 28 27,gi 29 (.bin 29 .sub (.k (I 8)) (.t 28)),gc 30 86 [.t 24,.t 25,.t 26,.t 29],gt 23 30,gi 31 (.ext 31 23 0),gi 32 (.ext 32 23 1),gi 9 (.alloc 9 2000009 [I 0,I 0,.nul,.nul,.nul]),g0 (.sto 9 (.t 31) (some 5)),gt 10 32]
def r_Z24_9 : List GI:=[gt 33 10,gt 34 33,⟨.lod 35 3 none,some 35,some (34,true),false⟩,⟨.mov 36 (.t 7),some 36,some (34,true),false⟩,⟨.mov 37 (.t 5),some 37,some (34,true),false⟩,⟨.call 38 108 [.t 37],some 38,some (34,true),true⟩,⟨.build 39 [I 0,.nul] [(0,(none,.t 36)),(1,(none,.t 38))],some 39,some (34,true),false⟩,⟨.cal 40 (.t 35) [.t 39],some 40,some (34,true),true⟩,⟨.un 41 UnOp.not (.t 40),some 41,some (34,true),false⟩,gi 42 (.pick 42 (.t 34) (.t 41) (.k (.v (.bool false))))]
def r_Z24_10 : List GI:=[gd 43 .add 18 1,gt 18 43]
def dc_Z24 : DC:=.seq (.z r_Z24_0) (.seq (.z r_Z24_1) (.seq (.z r_Z24_2) (.block 0 (.rng (.t 13) [14,15] (.seq (.z r_Z24_3) (.z r_Z24_4)) (.block 1 (.seq (.z r_Z24_5) (.block 2 (.loop (.seq (.z r_Z24_6) (.seq (.cond (.t 19) .skip (.exit 2)) (.seq (.block 3 (.seq (.z r_Z24_7) (.seq (.z r_Z24_8) (.seq (.reg r_Z24_9 (some [0,1,3,3,3,19,59,127,255,511])) (.cond (.t 42) .ret .skip))))) (.z r_Z24_10))))))))))))
theorem c_Z24 : cfun Tryz.prog [] 106 = some (44,dc_Z24,[]):=by kernel_rfl
def r_Z5_0 : List GI:=[gi 2 (.mov 2 (.k .nul))]
def r_Z5_1 : List GI:=[gt 3 0,gi 4 (.isn 4 false (.t 3))]
def r_Z5_2 : List GI:=[gi 2 (.mov 2 (.k .nul))]
def r_Z5_3 : List GI:=[gi 5 (.mov 5 (.k .nul)),gt 6 0,gi 7 (.app 7 2000007 (.t 5) (.t 6) 1 8),gt 2 7]
def dc_Z5 : DC:=.seq (.z r_Z5_0) (.seq (.seq (.z r_Z5_1) (.cond (.t 4) (.seq (.z r_Z5_2) .ret) .skip)) (.seq (.z r_Z5_3) .ret))
theorem c_Z5 : cfun Tryz.prog [] 108 = some (8,dc_Z5,[(Res.tmp 2)]):=by kernel_rfl
end
end Go.Proofs.YtgpdmgaemhelgaaGreat
namespace Go.Proofs.YtgpdmgaemhelgaaGreat
open Go.RowKit
noncomputable section
def r_Z28_0 : List GI:=[gi 4 (.mov 4 (.k .nul))]
def r_Z28_1 : List GI:=[gt 5 0,gt 6 1,gi 7 (.bsl 7 1 none [I 0] [(0,.t 6)]),gi 8 (.bsl 8 1 none [.nul,.nul] [(0,.t 5),(1,.t 7)]),gc 9 192 [.t 8],gt 4 9]
def dc_Z28 : DC:=.seq (.z r_Z28_0) (.seq (.z r_Z28_1) .ret)
theorem c_Z28 : cfun Tryz.prog [] 177 = some (10,dc_Z28,[(Res.tmp 4)]):=by kernel_rfl
def r_Z69_0 : List GI:=[gi 3 (.box 3 2000003 (.t 0) (some 5)),gi 6 (.mov 6 (.k (.v (.bool false))))]
def r_Z69_1 : List GI:=[gt 9 2,gt 10 1,gs 11 3 5,⟨.cal 12 (.t 9) [.t 10,.t 11],some 12,none,true⟩,gi 13 (.un 13 UnOp.not (.t 12))]
def r_Z69_2 : List GI:=[gi 6 (.mov 6 (.k (.v (.bool false))))]
def r_Z69_3 : List GI:=[gf 14 3 4,gl 15 14,gn 16 15,gk 17 0]
def r_Z69_4 : List GI:=[gb 18 .lss 17 16]
def r_Z69_5 : List GI:=[gt 19 17,ga 20 15 17 5,gs 21 20 5,gi 8 (.alloc 8 2000008 [I 0,I 0,.nul,.nul,.nul]),gt 7 19,g0 (.sto 8 (.t 21) (some 5))]
def r_Z69_6 : List GI:=[gs 22 8 5,gt 23 1,gt 24 7,gc 25 177 [.t 23,.t 24],gt 26 2,gc 27 150 [.t 22,.t 25,.t 26],gi 28 (.un 28 UnOp.not (.t 27))]
def r_Z69_7 : List GI:=[gi 6 (.mov 6 (.k (.v (.bool false))))]
def r_Z69_8 : List GI:=[gd 29 .add 17 1,gt 17 29]
def r_Z69_9 : List GI:=[gi 6 (.mov 6 (.k (.v (.bool true))))]
def dc_Z69 : DC:=.seq (.z r_Z69_0) (.seq (.seq (.z r_Z69_1) (.cond (.t 13) (.seq (.z r_Z69_2) .ret) .skip)) (.seq (.seq (.z r_Z69_3) (.block 0 (.loop (.seq (.z r_Z69_4) (.seq (.cond (.t 18) .skip (.exit 0)) (.seq (.block 1 (.seq (.z r_Z69_5) (.seq (.reg r_Z69_6 (some [0,0,0,6,0,31,63])) (.cond (.t 28) (.seq (.z r_Z69_7) .ret) .skip)))) (.z r_Z69_8))))))) (.seq (.z r_Z69_9) .ret)))
theorem c_Z69 : cfun Tryz.prog [] 150 = some (30,dc_Z69,[(Res.tmp 6)]):=by kernel_rfl
def r_Z4_0 : List GI:=[gi 2 (.mov 2 (.k .nul))]
def r_Z4_1 : List GI:=[gk 3 0]
def r_Z4_2 : List GI:=[gt 9 0,gn 10 9,gk 11 0]
def r_Z4_3 : List GI:=[gb 12 .lss 11 10]
def r_Z4_4 : List GI:=[ga 13 9 11 1,gl 14 13,gt 5 14]
def r_Z4_5 : List GI:=[gt 15 3,gt 16 5,gn 17 16,gb 18 .add 15 17,gt 3 18]
def r_Z4_6 : List GI:=[gt 19 3,gd 20 .lss 19 0]
def r_Z4_7 : List GI:=[gd 22 .add 11 1,gt 11 22]
def r_Z4_8 : List GI:=[gt 23 3,gc 24 204 [.k .nul,.t 23],gt 6 24]
def r_Z4_9 : List GI:=[gt 25 0,gn 26 25,gk 27 0]
def r_Z4_10 : List GI:=[gb 28 .lss 27 26]
def r_Z4_11 : List GI:=[ga 29 25 27 1,gl 30 29,gt 8 30]
def r_Z4_12 : List GI:=[gt 31 6,gt 32 8,gi 33 (.app 33 2000033 (.t 31) (.t 32) 1 8),gt 6 33]
def r_Z4_13 : List GI:=[gd 34 .add 27 1,gt 27 34]
def r_Z4_14 : List GI:=[gt 35 6,gt 2 35]
def dc_Z4 : DC:=.seq (.z r_Z4_0) (.seq (.z r_Z4_1) (.seq (.seq (.z r_Z4_2) (.block 0 (.loop (.seq (.z r_Z4_3) (.seq (.cond (.t 12) .skip (.exit 0)) (.seq (.block 1 (.seq (.z r_Z4_4) (.seq (.z r_Z4_5) (.seq (.z r_Z4_6) (.cond (.t 20) .no .skip))))) (.z r_Z4_7))))))) (.seq (.z r_Z4_8) (.seq (.seq (.z r_Z4_9) (.block 2 (.loop (.seq (.z r_Z4_10) (.seq (.cond (.t 28) .skip (.exit 2)) (.seq (.block 3 (.seq (.z r_Z4_11) (.z r_Z4_12))) (.z r_Z4_13))))))) (.seq (.z r_Z4_14) .ret)))))
theorem c_Z4 : cfun Tryz.prog [] 192 = some (36,dc_Z4,[(Res.tmp 2)]):=by kernel_rfl
def r_Z6_0 : List GI:=[gi 4 (.mov 4 (.k .nul))]
def r_Z6_1 : List GI:=[gt 5 1,gd 6 .lss 5 0]
def r_Z6_2 : List GI:=[gt 8 1,gt 9 0,gi 10 (.capn 10 (.t 9)),gt 11 0,gn 12 11,gb 13 .sub 10 12,gb 14 .sub 8 13,gt 1 14]
def r_Z6_3 : List GI:=[gt 15 1,gd 16 .gtr 15 0]
def r_Z6_4 : List GI:=[gt 17 0,gt 18 0,gi 19 (.capn 19 (.t 18)),gi 20 (.slc 20 (.t 17) none (some (.t 19)) 1),gt 21 1,gi 22 (.apm 22 2000022 (.t 20) (.t 21) 1 8 (I 0)),gt 23 0,gn 24 23,gi 25 (.slc 25 (.t 22) none (some (.t 24)) 1),gt 0 25]
def r_Z6_5 : List GI:=[gt 26 0,gt 4 26]
def dc_Z6 : DC:=.seq (.z r_Z6_0) (.seq (.seq (.z r_Z6_1) (.cond (.t 6) .no .skip)) (.seq (.seq (.z r_Z6_2) (.seq (.z r_Z6_3) (.cond (.t 16) (.z r_Z6_4) .skip))) (.seq (.z r_Z6_5) .ret)))
theorem c_Z6 : cfun Tryz.prog [] 204 = some (27,dc_Z6,[(Res.tmp 4)]):=by kernel_rfl
end
end Go.Proofs.YtgpdmgaemhelgaaGreat
namespace Go.Proofs.YtgpdmgaemhelgaaGreat
open Go.RowKit
noncomputable section
def r_Z116_0 : List GI:=[gi 1 (.box 1 2000001 (.t 0) (some 5)),gi 2 (.mov 2 (.k (.v .nilFunc)))]
def r_Z116_1 : List GI:=[gi 3 (.mkf 3 149 [.t 1]),gt 2 3]
def dc_Z116 : DC:=.seq (.z r_Z116_0) (.seq (.z r_Z116_1) .ret)
theorem c_Z116 : cfun Tryz.prog [] 107 = some (4,dc_Z116,[(Res.tmp 2)]):=by kernel_rfl
def r_Z84_0 : List GI:=[gs 3 1 5,gt 4 0,gc 5 150 [.t 3,.k .nul,.t 4]]
def dc_Z84 : DC:=.reg r_Z84_0 none
theorem c_Z84 : cfun Tryz.prog [] 149 = some (6,dc_Z84,[]):=by kernel_rfl
end
end Go.Proofs.YtgpdmgaemhelgaaGreat
namespace Go.Proofs.YtgpdmgaemhelgaaGreat
open Go.RowKit
noncomputable section
def r_Z107_0 : List GI:=[gi 2 (.box 2 2000002 (.t 0) (some 5)),gi 4 (.mov 4 (.k (.v (.bool false))))]
def r_Z107_1 : List GI:=[gs 7 2 5,gt 8 1,gc 9 53 [.t 7,.t 8],gd 10 .eql 9 0]
def r_Z107_2 : List GI:=[gi 4 (.mov 4 (.k (.v (.bool false))))]
def r_Z107_3 : List GI:=[gs 11 2 5,gt 12 1,gc 13 60 [.t 11,.t 12],gt 5 13]
def r_Z107_4 : List GI:=[gk 6 0]
def r_Z107_5 : List GI:=[gt 14 6,gt 15 5,gn 16 15,gb 17 .lss 14 16]
def r_Z107_6 : List GI:=[gt 20 5,gt 21 6,ga 22 20 21 2,gf 23 22 0,gl 24 23,gc 25 69 [.t 24]]
def r_Z107_7 : List GI:=[gi 4 (.mov 4 (.k (.v (.bool false))))]
def r_Z107_8 : List GI:=[gt 18 6,gd 19 .add 18 1,gt 6 19]
def r_Z107_9 : List GI:=[gi 4 (.mov 4 (.k (.v (.bool true))))]
def dc_Z107 : DC:=.seq (.z r_Z107_0) (.seq (.seq (.z r_Z107_1) (.cond (.t 10) (.seq (.z r_Z107_2) .ret) .skip)) (.seq (.z r_Z107_3) (.seq (.seq (.z r_Z107_4) (.block 0 (.loop (.seq (.seq (.z r_Z107_5) (.cond (.t 17) .skip (.exit 0))) (.seq (.block 1 (.seq (.z r_Z107_6) (.cond (.t 25) (.seq (.z r_Z107_7) .ret) .skip))) (.z r_Z107_8)))))) (.seq (.z r_Z107_9) .ret))))
theorem c_Z107 : cfun Tryz.prog [] 39 = some (26,dc_Z107,[(Res.tmp 4)]):=by kernel_rfl
end
end Go.Proofs.YtgpdmgaemhelgaaGreat
set_option maxHeartbeats 4000000
set_option maxRecDepth 100000
namespace Go.Proofs.YtgpdmgaemhelgaaGreat
open Go.ChangeShapes Go.WideShapes Go.ChangeAt Go.RowKit Go.Joins Go.Deep
theorem cells_int : Tryz.prog.cellsOf 3 = 1:=by kernel_rfl
section
variable {H : Type} {enc : TypeId × Value → H} {W : World} {base b0 : Nat} {held : Bool} {r : Reach} {v : Value} {d : DataW H} {p : List MemPlace}
theorem trod_4 {P : Program} {spare : Nat → Bool} {t : TypeId} {f0 f1 f2 f3 : Field} {fuel : Nat} {cs : List Value} {x : DataW H × List MemPlace} (ht : P.underlying t = some (.struct #[f0,f1,f2,f3])) (h : DataW.trod enc P W base spare held fuel t cs = some x) :
  ∃ y0 y1 y2 y3 n,fuel = n + 1 ∧ cs.length = P.cellsOf t ∧ DataW.trod enc P W base spare held n f0.type ((cs.drop f0.offset).take (P.cellsOf f0.type)) = some y0 ∧
   DataW.trod enc P W base spare held n f1.type ((cs.drop f1.offset).take (P.cellsOf f1.type)) = some y1 ∧ DataW.trod enc P W base spare held n f2.type ((cs.drop f2.offset).take (P.cellsOf f2.type)) = some y2 ∧
   DataW.trod enc P W base spare held n f3.type ((cs.drop f3.offset).take (P.cellsOf f3.type)) = some y3:=by
 obtain ⟨xs,n,hn,_,hl,hlen,hf⟩:=DataW.trod_struct ht h
 have hs : xs.length = 4:=by simpa using hlen
 match xs,hs with
 | [y0,y1,y2,y3],_=>exact ⟨y0,y1,y2,y3,n,hn,hl,by simpa using hf 0 f0 rfl,by simpa using hf 1 f1 rfl,by simpa using hf 2 f2 rfl,by simpa using hf 3 f3 rfl⟩
theorem agg_fz {ds : List D} {cs : Array Value} (h : CellsOK W (allOf W) noNames ds cs.toList) : Fz W (allOf W) noNames (.agg ds) (.agg cs):=by
 have:=Fz.agg noNames ds cs.toList h.len h.one h.fz
 simpa using this
end
theorem calls_2 {f : FuncId} {d0 d1 : D} {v0 v1 : Value} {w : World} (h : Does Tryz.prog f [] [d0,d1] (Bo true) []) (h0 : Fz w (allOf w) noNames d0 v0) (h1 : Fz w (allOf w) noNames d1 v1) : Calls Tryz.prog f #[v0,v1] w fun e W'=>e = .returned (.bool true) ∧ Below w.heap.size w W':=by
 refine calls_of h w [v0,v1] rfl (fun i d x hd hx=>?_)
 rcases i with _ | _ | i
 ·obtain rfl : d0 = d:=by simpa using hd
  obtain rfl : v0 = x:=by simpa using hx
  exact h0
 ·obtain rfl : d1 = d:=by simpa using hd
  obtain rfl : v1 = x:=by simpa using hx
  exact h1
 ·simp at hd
end Go.Proofs.YtgpdmgaemhelgaaGreat
set_option maxHeartbeats 4000000
set_option maxRecDepth 100000
set_option linter.unusedVariables false
set_option linter.unusedSimpArgs false
namespace Go.Proofs.YtgpdmgaemhelgaaGreat
open Go.RowKit
theorem inRange_ok (n lo hi : Int) : Does Tryz.prog 136 [] [I n,I lo,I hi] (Bo (decide (lo ≤ n ∧ n ≤ hi))) []:=by
 refine does0 c_Z131 mixed (Nat.le_of_ble_eq_true rfl) ?_
 conv=>arg 3; whnf
 repeat' (first|with_reducible refine acc_none ?_ | (conv in hold _=>simp (disch:=omega) only [go_sem])|refine Stp.go ?_|(with_reducible first|refine it_pos rfl ?_|refine it_neg (by decide) ?_|refine st_nil rfl ?_|refine s_op ?_ ?_|exact trivial)|((with_reducible first|refine dw_reg0 ?_|refine dw_regB ?_);(conv=>arg 3;whnf))|(refine Spl.go (fun hq he=>?_) (fun hq he=>?_)<;>first|(exfalso;clear hq;omega)|((try first|(conv=>arg 8;simp only [hq])|(conv=>arg 4;simp only [hq]));clear hq))|((with_reducible first|refine c_split (fun hq=>?_) (fun hq=>?_)|refine q_split (fun hq=>?_) (fun hq=>?_))<;>(try first|(conv=>arg 8;simp only [hq])|(conv=>arg 4;simp only [hq])))|(with_reducible refine fin_0 ?_ (by first|rfl|(conv=>lhs;simp only [go_sem])) ?_)|exact Sub.refl _|omega)
 ·exact sub_iff (by simp [he])
 ·exact sub_f (fun h=>he h.1)
theorem validValue_ok (v : V) : Does Tryz.prog 185 [] [vD v] (Bo (decide v.ok)) []:=by
 refine Bg c_Z78 mixed (go1 trivial ?_)
 refine c_doesE (inRange_ok v.n (-9999) 9999) ?_ ?_ ?_
 ·((try (conv=>rhs;simp (disch:=omega) only [go_sem])); try rfl)
 ·first|rfl|(conv=>lhs;simp only [go_sem])
 repeat' (first|with_reducible refine acc_none ?_ | (conv in hold _=>simp (disch:=omega) only [go_sem])|refine Stp.go ?_|(with_reducible first|refine it_pos rfl ?_|refine it_neg (by decide) ?_|refine st_nil rfl ?_|refine s_op ?_ ?_|exact trivial)|((with_reducible first|refine dw_reg0 ?_|refine dw_regB ?_);(conv=>arg 3;whnf))|(refine Spl.go (fun hq he=>?_) (fun hq he=>?_)<;>first|(exfalso;clear hq;omega)|((try first|(conv=>arg 8;simp only [hq])|(conv=>arg 4;simp only [hq]));clear hq))|((with_reducible first|refine c_split (fun hq=>?_) (fun hq=>?_)|refine q_split (fun hq=>?_) (fun hq=>?_))<;>(try first|(conv=>arg 8;simp only [hq])|(conv=>arg 4;simp only [hq])))|(with_reducible refine fin_0 ?_ (by first|rfl|(conv=>lhs;simp only [go_sem])) ?_)|exact Sub.refl _|omega)
 ·have hb : v.b = true:=by simpa using hq
  refine sub_iff ?_
  rw [V.ok_iff,beq_iff_eq]
  exact ⟨fun h=>⟨he.1,he.2,fun _=>h⟩,fun h=>h.2.2 hb⟩
 ·have hb : v.b = false:=by simpa using hq
  exact sub_t ⟨he.1,he.2,fun h=>by rw [hb] at h; cases h⟩
 ·exact sub_f (fun h=>he ⟨h.lo,h.hi⟩)
theorem number_ok (n : Int) : Does Tryz.prog 215 [] [I n] (vD (num n)) []:=by
 refine Bg c_Z152 mixed (go1 trivial ?_)
 refine c_doesE (inRange_ok n (-9999) 9999) ?_ ?_ ?_
 ·((try (conv=>rhs;simp (disch:=omega) only [go_sem])); try rfl)
 ·first|rfl|(conv=>lhs;simp only [go_sem])
 repeat' (first|with_reducible refine acc_none ?_ | (conv in hold _=>simp (disch:=omega) only [go_sem])|refine Stp.go ?_|(with_reducible first|refine it_pos rfl ?_|refine it_neg (by decide) ?_|refine st_nil rfl ?_|refine s_op ?_ ?_|exact trivial)|((with_reducible first|refine dw_reg0 ?_|refine dw_regB ?_);(conv=>arg 3;whnf))|(refine Spl.go (fun hq he=>?_) (fun hq he=>?_)<;>first|(exfalso;clear hq;omega)|((try first|(conv=>arg 8;simp only [hq])|(conv=>arg 4;simp only [hq]));clear hq))|((with_reducible first|refine c_split (fun hq=>?_) (fun hq=>?_)|refine q_split (fun hq=>?_) (fun hq=>?_))<;>(try first|(conv=>arg 8;simp only [hq])|(conv=>arg 4;simp only [hq])))|(with_reducible refine fin_0 ?_ (by first|rfl|(conv=>lhs;simp only [go_sem])) ?_)|exact Sub.refl _|omega)
 ·rw [show num n = ⟨true,0⟩ from if_neg he]; exact Sub.refl _
 ·rw [show num n = ⟨false,n⟩ from if_pos he]; exact Sub.refl _
theorem Value_valid_ok (v : V) : Does Tryz.prog 191 [] [vD v] (Bo (decide v.ok)) []:=by
 refine does0 c_Z47 mixed (Nat.le_of_ble_eq_true rfl) ?_
 conv=>arg 3; whnf
 repeat' (first|with_reducible refine acc_none ?_ | (conv in hold _=>simp (disch:=omega) only [go_sem])|refine Stp.go ?_|(with_reducible first|refine it_pos rfl ?_|refine it_neg (by decide) ?_|refine st_nil rfl ?_|refine s_op ?_ ?_|exact trivial)|((with_reducible first|refine dw_reg0 ?_|refine dw_regB ?_);(conv=>arg 3;whnf))|(refine Spl.go (fun hq he=>?_) (fun hq he=>?_)<;>first|(exfalso;clear hq;omega)|((try first|(conv=>arg 8;simp only [hq])|(conv=>arg 4;simp only [hq]));clear hq))|((with_reducible first|refine c_split (fun hq=>?_) (fun hq=>?_)|refine q_split (fun hq=>?_) (fun hq=>?_))<;>(try first|(conv=>arg 8;simp only [hq])|(conv=>arg 4;simp only [hq])))|(with_reducible refine fin_0 ?_ (by first|rfl|(conv=>lhs;simp only [go_sem])) ?_)|exact Sub.refl _|omega)
 ·refine sub_iff ?_
  rw [V.ok_iff,beq_iff_eq]
  exact ⟨fun h=>⟨by omega,by omega,fun _=>h⟩,fun h=>h.2.2 hq⟩
 ·refine sub_iff ?_
  rw [V.ok_iff,decide_eq_true_iff]
  exact ⟨fun h=>⟨he,h,fun e=>by rw [hq] at e; cases e⟩,fun h=>h.2.1⟩
 ·exact sub_f (fun h=>he h.lo)
theorem validWidth_ok (w : Int) : Does Tryz.prog 99 [] [I w] (Bo (decide (1 ≤ w ∧ w ≤ 6))) []:=by
 refine does0 c_Z68 mixed (Nat.le_of_ble_eq_true rfl) ?_
 conv=>arg 3; whnf
 repeat' (first|with_reducible refine acc_none ?_ | (conv in hold _=>simp (disch:=omega) only [go_sem])|refine Stp.go ?_|(with_reducible first|refine it_pos rfl ?_|refine it_neg (by decide) ?_|refine st_nil rfl ?_|refine s_op ?_ ?_|exact trivial)|((with_reducible first|refine dw_reg0 ?_|refine dw_regB ?_);(conv=>arg 3;whnf))|(refine Spl.go (fun hq he=>?_) (fun hq he=>?_)<;>first|(exfalso;clear hq;omega)|((try first|(conv=>arg 8;simp only [hq])|(conv=>arg 4;simp only [hq]));clear hq))|((with_reducible first|refine c_split (fun hq=>?_) (fun hq=>?_)|refine q_split (fun hq=>?_) (fun hq=>?_))<;>(try first|(conv=>arg 8;simp only [hq])|(conv=>arg 4;simp only [hq])))|(with_reducible refine fin_0 ?_ (by first|rfl|(conv=>lhs;simp only [go_sem])) ?_)|exact Sub.refl _|omega)
 ·exact sub_iff (by simp [he])
 ·exact sub_f (fun h=>he h.1)
def valsOk (vs : List V) : Prop:=∀ v,v ∈ vs → v.ok
noncomputable instance valsOkDec (vs : List V) : Decidable (valsOk vs):=Classical.propDecidable _
theorem isColumn_ok (n w : Int) : Does Tryz.prog 190 [] [I n,I w] (Bo (decide (0 ≤ n ∧ n < w))) []:=by
 refine does0 c_Z100 mixed (Nat.le_of_ble_eq_true rfl) ?_
 conv=>arg 3; whnf
 repeat' (first|with_reducible refine acc_none ?_ | (conv in hold _=>simp (disch:=omega) only [go_sem])|refine Stp.go ?_|(with_reducible first|refine it_pos rfl ?_|refine it_neg (by decide) ?_|refine st_nil rfl ?_|refine s_op ?_ ?_|exact trivial)|((with_reducible first|refine dw_reg0 ?_|refine dw_regB ?_);(conv=>arg 3;whnf))|(refine Spl.go (fun hq he=>?_) (fun hq he=>?_)<;>first|(exfalso;clear hq;omega)|((try first|(conv=>arg 8;simp only [hq])|(conv=>arg 4;simp only [hq]));clear hq))|((with_reducible first|refine c_split (fun hq=>?_) (fun hq=>?_)|refine q_split (fun hq=>?_) (fun hq=>?_))<;>(try first|(conv=>arg 8;simp only [hq])|(conv=>arg 4;simp only [hq])))|(with_reducible refine fin_0 ?_ (by first|rfl|(conv=>lhs;simp only [go_sem])) ?_)|exact Sub.refl _|omega)
 ·exact sub_iff (by simp [he])
 ·exact sub_f (fun h=>he h.1)
end Go.Proofs.YtgpdmgaemhelgaaGreat

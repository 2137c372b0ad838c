/-
  Functions of the program read as code on plain data. Closed facts of the program alone.
-/
import Derived.KernelRfl
import Derived.Test.YtpfedjaedlfdfaaRows
import Derived.Test.YtpfedjaedlfdfaaJSVCall
import Derived.Test.YtpfedjaedlfdfaaJSVTbD
namespace Go.Proofs.Ytpfedjaedlfdfaa
open Go.RowKit
noncomputable section
def r_impl_hasOwnFields_0 : List GI := [gi 1 (.box 1 2000001 (.t 0) (some 5)), gi 2 (.mov 2 (.k (.v (.bool false))))]
def r_impl_hasOwnFields_1 : List GI := [gi 6 (.fad 6 1 0), gi 7 (.lod 7 6 none), ⟨.call 8 84 [.t 7], some 8, none, true⟩, gi 5 (.mov 5 (.t 8)), gi 9 (.ext 9 5 0), gi 10 (.ext 10 5 1), gi 3 (.alloc 3 2000003 [.v (.int .i64 0), .v (.int .i64 0), .v (.int .i64 0)]), g0 (.sto 3 (.t 9) (some 3)), gi 4 (.mov 4 (.t 10))]
def r_impl_hasOwnFields_2 : List GI := [gi 12 (.mov 12 (.t 4)), gi 13 (.un 13 UnOp.not (.t 12)), gi 14 (.mov 14 (.t 13)), ⟨.fad 15 1 4, some 15, some (14, false), false⟩, ⟨.lod 16 15 none, some 16, some (14, false), false⟩, ⟨.len 17 (.t 16), some 17, some (14, false), false⟩, ⟨.fad 18 3 2, some 18, some (14, false), false⟩, ⟨.lod 19 18 none, some 19, some (14, false), false⟩, ⟨.bin 20 .neq (.t 17) (.t 19), some 20, some (14, false), false⟩, gi 21 (.pick 21 (.t 14) (.k (.v (.bool true))) (.t 20)), gi 11 (.mov 11 (.t 21))]
def r_impl_hasOwnFields_3 : List GI := [gi 2 (.mov 2 (.k (.v (.bool false))))]
def r_impl_hasOwnFields_4 : List GI := [gi 23 (.fad 23 1 2), gi 24 (.lod 24 23 none), gi 25 (.len 25 (.t 24)), gi 26 (.fad 26 3 0), gi 27 (.lod 27 26 none), gi 28 (.bin 28 .lss (.t 25) (.t 27)), gi 29 (.mov 29 (.t 28)), ⟨.fad 30 1 2, some 30, some (29, false), false⟩, ⟨.lod 31 30 none, some 31, some (29, false), false⟩, ⟨.len 32 (.t 31), some 32, some (29, false), false⟩, ⟨.fad 33 3 1, some 33, some (29, false), false⟩, ⟨.lod 34 33 none, some 34, some (29, false), false⟩, ⟨.bin 35 .gtr (.t 32) (.t 34), some 35, some (29, false), false⟩, gi 36 (.pick 36 (.t 29) (.k (.v (.bool true))) (.t 35)), gi 22 (.mov 22 (.t 36))]
def r_impl_hasOwnFields_5 : List GI := [gi 2 (.mov 2 (.k (.v (.bool false))))]
def r_impl_hasOwnFields_6 : List GI := [gi 38 (.fad 38 1 0), gi 39 (.lod 39 38 none), gi 40 (.bin 40 .neq (.t 39) (.k (.v (.int .i64 1)))), gi 41 (.mov 41 (.t 40)), ⟨.fad 42 1 1, some 42, some (41, true), false⟩, ⟨.lod 43 42 none, some 43, some (41, true), false⟩, ⟨.bin 44 .neq (.t 43) (.k (.v (.int .i64 0))), some 44, some (41, true), false⟩, gi 45 (.pick 45 (.t 41) (.t 44) (.k (.v (.bool false)))), gi 37 (.mov 37 (.t 45))]
def r_impl_hasOwnFields_7 : List GI := [gi 2 (.mov 2 (.k (.v (.bool false))))]
def r_impl_hasOwnFields_8 : List GI := [gi 46 (.fad 46 1 0), gi 47 (.lod 47 46 none), gi 48 (.bin 48 .eql (.t 47) (.k (.v (.int .i64 8)))), gi 49 (.mov 49 (.t 48)), ⟨.fad 50 1 3, some 50, some (49, false), false⟩, ⟨.lod 51 50 none, some 51, some (49, false), false⟩, ⟨.len 52 (.t 51), some 52, some (49, false), false⟩, ⟨.bin 53 .eql (.t 52) (.k (.v (.int .i64 0))), some 53, some (49, false), false⟩, gi 54 (.pick 54 (.t 49) (.k (.v (.bool true))) (.t 53)), gi 2 (.mov 2 (.t 54))]
def dc_impl_hasOwnFields : DC := .seq (.reg r_impl_hasOwnFields_0 none) (.seq (.reg r_impl_hasOwnFields_1 none) (.seq (.block 0 (.seq (.reg r_impl_hasOwnFields_2 none) (.cond (.t 11) (.seq (.reg r_impl_hasOwnFields_3 none) .ret) (.seq (.reg r_impl_hasOwnFields_4 none) (.cond (.t 22) (.seq (.reg r_impl_hasOwnFields_5 none) .ret) (.seq (.reg r_impl_hasOwnFields_6 none) (.cond (.t 37) (.seq (.reg r_impl_hasOwnFields_7 none) .ret) .skip))))))) (.seq (.reg r_impl_hasOwnFields_8 none) .ret)))
theorem c_impl_hasOwnFields : cfun Try.prog [] 56 = some (55, dc_impl_hasOwnFields, [(Res.tmp 2)]) := by kernel_rfl
def r_impl_shapeOf_0 : List GI := [gi 2 (.alloc 2 2000002 [.v (.int .i64 0), .v (.int .i64 0), .v (.int .i64 0)]), gi 3 (.mov 3 (.k (.v (.bool false))))]
def r_impl_shapeOf_1 : List GI := [gi 4 (.mov 4 (.t 0))]
def r_impl_shapeOf_2 : List GI := [gi 6 (.bin 6 .eql (.t 4) (.k (.v (.int .i64 1)))), gi 5 (.mov 5 (.t 6))]
def r_impl_shapeOf_3 : List GI := [gi 7 (.build 7 [.v (.int .i64 0), .v (.int .i64 0), .v (.int .i64 0)] []), g0 (.sto 2 (.t 7) (some 3)), gi 3 (.mov 3 (.k (.v (.bool true))))]
def r_impl_shapeOf_4 : List GI := [gi 9 (.bin 9 .eql (.t 4) (.k (.v (.int .i64 2)))), gi 8 (.mov 8 (.t 9))]
def r_impl_shapeOf_5 : List GI := [gi 10 (.build 10 [.v (.int .i64 0), .v (.int .i64 0), .v (.int .i64 0)] [(0, (none, .k (.v (.int .i64 1)))), (1, (none, .k (.v (.int .i64 1)))), (2, (none, .k (.v (.int .i64 1))))]), g0 (.sto 2 (.t 10) (some 3)), gi 3 (.mov 3 (.k (.v (.bool true))))]
def r_impl_shapeOf_6 : List GI := [gi 12 (.bin 12 .eql (.t 4) (.k (.v (.int .i64 3)))), gi 11 (.mov 11 (.t 12))]
def r_impl_shapeOf_7 : List GI := [gi 13 (.build 13 [.v (.int .i64 0), .v (.int .i64 0), .v (.int .i64 0)] [(0, (none, .k (.v (.int .i64 1)))), (1, (none, .k (.v (.int .i64 6)))), (2, (none, .k (.v (.int .i64 1))))]), g0 (.sto 2 (.t 13) (some 3)), gi 3 (.mov 3 (.k (.v (.bool true))))]
def r_impl_shapeOf_8 : List GI := [gi 15 (.bin 15 .eql (.t 4) (.k (.v (.int .i64 4)))), gi 14 (.mov 14 (.t 15))]
def r_impl_shapeOf_9 : List GI := [gi 16 (.bin 16 .eql (.t 4) (.k (.v (.int .i64 5)))), gi 14 (.mov 14 (.t 16))]
def r_impl_shapeOf_10 : List GI := [gi 17 (.build 17 [.v (.int .i64 0), .v (.int .i64 0), .v (.int .i64 0)] [(0, (none, .k (.v (.int .i64 1)))), (1, (none, .k (.v (.int .i64 1)))), (2, (none, .k (.v (.int .i64 2))))]), g0 (.sto 2 (.t 17) (some 3)), gi 3 (.mov 3 (.k (.v (.bool true))))]
def r_impl_shapeOf_11 : List GI := [gi 19 (.bin 19 .eql (.t 4) (.k (.v (.int .i64 6)))), gi 18 (.mov 18 (.t 19))]
def r_impl_shapeOf_12 : List GI := [gi 20 (.build 20 [.v (.int .i64 0), .v (.int .i64 0), .v (.int .i64 0)] [(2, (none, .k (.v (.int .i64 2))))]), g0 (.sto 2 (.t 20) (some 3)), gi 3 (.mov 3 (.k (.v (.bool true))))]
def r_impl_shapeOf_13 : List GI := [gi 22 (.bin 22 .eql (.t 4) (.k (.v (.int .i64 7)))), gi 21 (.mov 21 (.t 22))]
def r_impl_shapeOf_14 : List GI := [gi 23 (.bin 23 .eql (.t 4) (.k (.v (.int .i64 8)))), gi 21 (.mov 21 (.t 23))]
def r_impl_shapeOf_15 : List GI := [gi 24 (.build 24 [.v (.int .i64 0), .v (.int .i64 0), .v (.int .i64 0)] [(2, (none, .k (.v (.int .i64 1))))]), g0 (.sto 2 (.t 24) (some 3)), gi 3 (.mov 3 (.k (.v (.bool true))))]
def r_impl_shapeOf_16 : List GI := [gi 25 (.build 25 [.v (.int .i64 0), .v (.int .i64 0), .v (.int .i64 0)] []), g0 (.sto 2 (.t 25) (some 3)), gi 3 (.mov 3 (.k (.v (.bool false))))]
def dc_impl_shapeOf : DC := .seq (.reg r_impl_shapeOf_0 none) (.seq (.seq (.reg r_impl_shapeOf_1 none) (.block 0 (.seq (.reg r_impl_shapeOf_2 none) (.cond (.t 5) (.seq (.reg r_impl_shapeOf_3 none) .ret) (.seq (.reg r_impl_shapeOf_4 none) (.cond (.t 8) (.seq (.reg r_impl_shapeOf_5 none) .ret) (.seq (.reg r_impl_shapeOf_6 none) (.cond (.t 11) (.seq (.reg r_impl_shapeOf_7 none) .ret) (.seq (.seq (.reg r_impl_shapeOf_8 none) (.cond (.t 14) .skip (.reg r_impl_shapeOf_9 none))) (.cond (.t 14) (.seq (.reg r_impl_shapeOf_10 none) .ret) (.seq (.reg r_impl_shapeOf_11 none) (.cond (.t 18) (.seq (.reg r_impl_shapeOf_12 none) .ret) (.seq (.seq (.reg r_impl_shapeOf_13 none) (.cond (.t 21) .skip (.reg r_impl_shapeOf_14 none))) (.cond (.t 21) (.seq (.reg r_impl_shapeOf_15 none) .ret) .skip)))))))))))))) (.seq (.reg r_impl_shapeOf_16 none) .ret))
theorem c_impl_shapeOf : cfun Try.prog [] 84 = some (26, dc_impl_shapeOf, [(Res.cell 2 (some 3)), (Res.tmp 3)]) := by kernel_rfl
def r_spec_onlyFields_0 : List GI := [gi 1 (.box 1 2000001 (.t 0) (some 5)), gi 2 (.mov 2 (.k (.v (.bool false))))]
def r_spec_onlyFields_1 : List GI := [gi 3 (.mov 3 (.k (.v (.int .i64 1))))]
def r_spec_onlyFields_2 : List GI := [gi 4 (.mov 4 (.k (.v (.int .i64 0))))]
def r_spec_onlyFields_3 : List GI := [gi 5 (.fad 5 1 0), gi 6 (.lod 6 5 none)]
def r_spec_onlyFields_4 : List GI := [gi 8 (.bin 8 .eql (.t 6) (.k (.v (.int .i64 1)))), gi 7 (.mov 7 (.t 8))]
def r_spec_onlyFields_5 : List GI := [gi 3 (.mov 3 (.k (.v (.int .i64 0))))]
def r_spec_onlyFields_6 : List GI := [gi 10 (.bin 10 .eql (.t 6) (.k (.v (.int .i64 4)))), gi 9 (.mov 9 (.t 10))]
def r_spec_onlyFields_7 : List GI := [gi 11 (.bin 11 .eql (.t 6) (.k (.v (.int .i64 5)))), gi 9 (.mov 9 (.t 11))]
def r_spec_onlyFields_8 : List GI := [gi 3 (.mov 3 (.k (.v (.int .i64 2))))]
def r_spec_onlyFields_9 : List GI := [gi 4 (.mov 4 (.k (.v (.int .i64 1))))]
def r_spec_onlyFields_10 : List GI := [gi 13 (.bin 13 .eql (.t 6) (.k (.v (.int .i64 6)))), gi 12 (.mov 12 (.t 13))]
def r_spec_onlyFields_11 : List GI := [gi 3 (.mov 3 (.k (.v (.int .i64 2))))]
def r_spec_onlyFields_12 : List GI := [gi 15 (.bin 15 .eql (.t 6) (.k (.v (.int .i64 2)))), gi 14 (.mov 14 (.t 15))]
def r_spec_onlyFields_13 : List GI := [gi 4 (.mov 4 (.k (.v (.int .i64 1))))]
def r_spec_onlyFields_14 : List GI := [gi 17 (.bin 17 .eql (.t 6) (.k (.v (.int .i64 3)))), gi 16 (.mov 16 (.t 17))]
def r_spec_onlyFields_15 : List GI := [gi 18 (.fad 18 1 2), gi 19 (.lod 19 18 none), gi 20 (.len 20 (.t 19)), gi 4 (.mov 4 (.t 20))]
def r_spec_onlyFields_16 : List GI := [gi 21 (.fad 21 1 0), gi 22 (.lod 22 21 none), ⟨.call 23 79 [.t 22, .k (.v (.int .i64 1)), .k (.v (.int .i64 8))], some 23, none, true⟩, gi 24 (.mov 24 (.t 23)), ⟨.fad 25 1 4, some 25, some (24, true), false⟩, ⟨.lod 26 25 none, some 26, some (24, true), false⟩, ⟨.len 27 (.t 26), some 27, some (24, true), false⟩, ⟨.mov 28 (.t 3), some 28, some (24, true), false⟩, ⟨.bin 29 .eql (.t 27) (.t 28), some 29, some (24, true), false⟩, gi 30 (.pick 30 (.t 24) (.t 29) (.k (.v (.bool false)))), gi 31 (.mov 31 (.t 30)), ⟨.fad 32 1 2, some 32, some (31, true), false⟩, ⟨.lod 33 32 none, some 33, some (31, true), false⟩, ⟨.len 34 (.t 33), some 34, some (31, true), false⟩, ⟨.mov 35 (.t 4), some 35, some (31, true), false⟩, ⟨.bin 36 .eql (.t 34) (.t 35), some 36, some (31, true), false⟩, gi 37 (.pick 37 (.t 31) (.t 36) (.k (.v (.bool false)))), gi 38 (.mov 38 (.t 37)), ⟨.fad 39 1 1, some 39, some (38, true), false⟩, ⟨.lod 40 39 none, some 40, some (38, true), false⟩, ⟨.bin 41 .eql (.t 40) (.k (.v (.int .i64 0))), some 41, some (38, true), false⟩, ⟨.mov 42 (.t 41), some 42, some (38, true), false⟩, ⟨.fad 43 1 0, some 43, some (42, false), false⟩, ⟨.lod 44 43 none, some 44, some (42, false), false⟩, ⟨.bin 45 .eql (.t 44) (.k (.v (.int .i64 1))), some 45, some (42, false), false⟩, ⟨.pick 46 (.t 42) (.k (.v (.bool true))) (.t 45), some 46, some (38, true), false⟩, gi 47 (.pick 47 (.t 38) (.t 46) (.k (.v (.bool false)))), gi 48 (.mov 48 (.t 47)), ⟨.fad 49 1 3, some 49, some (48, true), false⟩, ⟨.lod 50 49 none, some 50, some (48, true), false⟩, ⟨.len 51 (.t 50), some 51, some (48, true), false⟩, ⟨.bin 52 .eql (.t 51) (.k (.v (.int .i64 0))), some 52, some (48, true), false⟩, ⟨.mov 53 (.t 52), some 53, some (48, true), false⟩, ⟨.fad 54 1 0, some 54, some (53, false), false⟩, ⟨.lod 55 54 none, some 55, some (53, false), false⟩, ⟨.bin 56 .eql (.t 55) (.k (.v (.int .i64 8))), some 56, some (53, false), false⟩, ⟨.pick 57 (.t 53) (.k (.v (.bool true))) (.t 56), some 57, some (48, true), false⟩, gi 58 (.pick 58 (.t 48) (.t 57) (.k (.v (.bool false)))), gi 2 (.mov 2 (.t 58))]
def dc_spec_onlyFields : DC := .seq (.reg r_spec_onlyFields_0 none) (.seq (.reg r_spec_onlyFields_1 none) (.seq (.reg r_spec_onlyFields_2 none) (.seq (.seq (.reg r_spec_onlyFields_3 none) (.block 0 (.seq (.reg r_spec_onlyFields_4 none) (.cond (.t 7) (.reg r_spec_onlyFields_5 none) (.seq (.seq (.reg r_spec_onlyFields_6 none) (.cond (.t 9) .skip (.reg r_spec_onlyFields_7 none))) (.cond (.t 9) (.seq (.reg r_spec_onlyFields_8 none) (.reg r_spec_onlyFields_9 none)) (.seq (.reg r_spec_onlyFields_10 none) (.cond (.t 12) (.reg r_spec_onlyFields_11 none) (.seq (.reg r_spec_onlyFields_12 none) (.cond (.t 14) (.reg r_spec_onlyFields_13 none) (.seq (.reg r_spec_onlyFields_14 none) (.cond (.t 16) (.reg r_spec_onlyFields_15 none) .skip)))))))))))) (.seq (.reg r_spec_onlyFields_16 none) .ret))))
theorem c_spec_onlyFields : cfun Try.prog [] 80 = some (59, dc_spec_onlyFields, [(Res.tmp 2)]) := by kernel_rfl
end
end Go.Proofs.Ytpfedjaedlfdfaa
set_option maxHeartbeats 4000000
set_option maxRecDepth 100000
namespace Go.Proofs.Ytpfedjaedlfdfaa
open Go.RowKit
/-- A row that is filled from the first place on. -/
def fil {α : Type} (f : α → D) (z : D) (l : List α) (i : Nat) : List D := (l.take i).map f ++ List.replicate (l.length - i) z
end Go.Proofs.Ytpfedjaedlfdfaa

/-
  Functions of the program read as code on plain data. Closed facts of the program alone.
-/
import Derived.KernelRfl
import Derived.Test.YtpfedjaedlfdfaaRows
import Derived.Test.YtpfedjaedlfdfaaJSVCall
namespace Go.Proofs.Ytpfedjaedlfdfaa
open Go.RowKit
noncomputable section
def r_spec_estimate_0 : List GI := [gi 2 (.box 2 2000002 (.t 0) (some 5)), gi 4 (.mov 4 (.k (.v (.int .i64 0))))]
def r_spec_estimate_1 : List GI := [gi 7 (.fad 7 2 0), gi 8 (.lod 8 7 none), gi 9 (.bin 9 .eql (.t 8) (.k (.v (.int .i64 1))))]
def r_spec_estimate_2 : List GI := [gi 10 (.mov 10 (.t 1)), gi 11 (.fad 11 2 1), gi 12 (.lod 12 11 none), gi 13 (.iad 13 10 (.t 12) 3), gi 14 (.fad 14 13 0), gi 15 (.lod 15 14 none), gi 4 (.mov 4 (.t 15))]
def r_spec_estimate_3 : List GI := [gi 16 (.fad 16 2 4), gi 17 (.lod 17 16 none), gi 18 (.iad 18 17 (.k (.v (.int .i64 0))) 5), gi 19 (.lod 19 18 (some 5)), gi 20 (.mov 20 (.t 1)), ⟨.call 21 46 [.t 19, .t 20], some 21, none, true⟩, gi 5 (.mov 5 (.t 21))]
def r_spec_estimate_4 : List GI := [gi 22 (.fad 22 2 0), gi 23 (.lod 23 22 none)]
def r_spec_estimate_5 : List GI := [gi 25 (.bin 25 .eql (.t 23) (.k (.v (.int .i64 2)))), gi 24 (.mov 24 (.t 25))]
def r_spec_estimate_6 : List GI := [gi 26 (.fad 26 2 4), gi 27 (.lod 27 26 none), gi 28 (.iad 28 27 (.k (.v (.int .i64 0))) 5), gi 29 (.fad 29 28 0), gi 30 (.lod 30 29 none), gi 31 (.bin 31 .eql (.t 30) (.k (.v (.int .i64 1))))]
def r_spec_estimate_7 : List GI := [gi 32 (.mov 32 (.t 5)), gi 33 (.fad 33 2 2), gi 34 (.lod 34 33 none), gi 35 (.iad 35 34 (.k (.v (.int .i64 0))) 5), gi 36 (.lod 36 35 (some 5)), gi 37 (.mov 37 (.t 1)), gi 38 (.fad 38 2 4), gi 39 (.lod 39 38 none), gi 40 (.iad 40 39 (.k (.v (.int .i64 0))) 5), gi 41 (.fad 41 40 1), gi 42 (.lod 42 41 none), gi 43 (.iad 43 37 (.t 42) 3), gi 44 (.lod 44 43 (some 3)), ⟨.call 45 73 [.t 36, .t 44], some 45, none, true⟩, gi 46 (.bin 46 .mul (.t 32) (.t 45)), gi 47 (.bin 47 .quo (.t 46) (.k (.v (.int .i64 1000)))), gi 4 (.mov 4 (.t 47))]
def r_spec_estimate_8 : List GI := [gi 48 (.mov 48 (.t 5)), gi 49 (.fad 49 2 2), gi 50 (.lod 50 49 none), gi 51 (.iad 51 50 (.k (.v (.int .i64 0))) 5), gi 52 (.lod 52 51 (some 5)), ⟨.call 53 74 [.t 52], some 53, none, true⟩, gi 54 (.bin 54 .mul (.t 48) (.t 53)), gi 55 (.bin 55 .quo (.t 54) (.k (.v (.int .i64 1000)))), gi 4 (.mov 4 (.t 55))]
def r_spec_estimate_9 : List GI := [gi 57 (.bin 57 .eql (.t 23) (.k (.v (.int .i64 4)))), gi 56 (.mov 56 (.t 57))]
def r_spec_estimate_10 : List GI := [gi 58 (.bin 58 .eql (.t 23) (.k (.v (.int .i64 5)))), gi 56 (.mov 56 (.t 58))]
def r_spec_estimate_11 : List GI := [gi 59 (.mov 59 (.t 5)), gi 60 (.fad 60 2 4), gi 61 (.lod 61 60 none), gi 62 (.iad 62 61 (.k (.v (.int .i64 1))) 5), gi 63 (.lod 63 62 (some 5)), gi 64 (.mov 64 (.t 1)), ⟨.call 65 46 [.t 63, .t 64], some 65, none, true⟩, gi 66 (.bin 66 .mul (.t 59) (.t 65)), gi 67 (.mm 67 false (.t 66) (.k (.v (.int .i64 1000000000)))), gi 68 (.fad 68 2 2), gi 69 (.lod 69 68 none), gi 70 (.iad 70 69 (.k (.v (.int .i64 0))) 5), gi 71 (.lod 71 70 (some 5)), ⟨.call 72 74 [.t 71], some 72, none, true⟩, gi 73 (.bin 73 .mul (.t 67) (.t 72)), gi 74 (.bin 74 .quo (.t 73) (.k (.v (.int .i64 1000)))), gi 6 (.mov 6 (.t 74))]
def r_spec_estimate_12 : List GI := [gi 75 (.fad 75 2 0), gi 76 (.lod 76 75 none), gi 77 (.bin 77 .eql (.t 76) (.k (.v (.int .i64 5))))]
def r_spec_estimate_13 : List GI := [gi 78 (.mov 78 (.t 5)), gi 79 (.mov 79 (.t 6)), gi 80 (.mm 80 true (.t 78) (.t 79)), gi 4 (.mov 4 (.t 80))]
def r_spec_estimate_14 : List GI := [gi 81 (.mov 81 (.t 6)), gi 4 (.mov 4 (.t 81))]
def r_spec_estimate_15 : List GI := [gi 83 (.bin 83 .eql (.t 23) (.k (.v (.int .i64 6)))), gi 82 (.mov 82 (.t 83))]
def r_spec_estimate_16 : List GI := [gi 84 (.mov 84 (.t 5)), gi 85 (.fad 85 2 4), gi 86 (.lod 86 85 none), gi 87 (.iad 87 86 (.k (.v (.int .i64 1))) 5), gi 88 (.lod 88 87 (some 5)), gi 89 (.mov 89 (.t 1)), ⟨.call 90 46 [.t 88, .t 89], some 90, none, true⟩, gi 91 (.bin 91 .add (.t 84) (.t 90)), gi 92 (.mm 92 false (.t 91) (.k (.v (.int .i64 1000000000)))), gi 4 (.mov 4 (.t 92))]
def r_spec_estimate_17 : List GI := [gi 94 (.bin 94 .eql (.t 23) (.k (.v (.int .i64 8)))), gi 93 (.mov 93 (.t 94))]
def r_spec_estimate_18 : List GI := [gi 95 (.fad 95 2 3), gi 96 (.lod 96 95 none), gi 97 (.len 97 (.t 96)), gi 98 (.bin 98 .eql (.t 97) (.k (.v (.int .i64 0))))]
def r_spec_estimate_19 : List GI := [gi 99 (.mov 99 (.t 5)), gi 100 (.mm 100 false (.t 99) (.k (.v (.int .i64 1)))), gi 4 (.mov 4 (.t 100))]
def r_spec_estimate_20 : List GI := [gi 101 (.mov 101 (.t 5)), gi 4 (.mov 4 (.t 101))]
def dc_spec_estimate : DC := .seq (.reg r_spec_estimate_0 none) (.seq (.seq (.reg r_spec_estimate_1 none) (.cond (.t 9) (.seq (.reg r_spec_estimate_2 none) .ret) .skip)) (.seq (.reg r_spec_estimate_3 none) (.seq (.seq (.reg r_spec_estimate_4 none) (.block 0 (.seq (.reg r_spec_estimate_5 none) (.cond (.t 24) (.seq (.seq (.reg r_spec_estimate_6 none) (.cond (.t 31) (.seq (.reg r_spec_estimate_7 (some [0, 0, 2, 6, 14, 0, 0, 64, 192, 448, 960, 2016, 4064, 8190, 16383, 32767, 65535])) .ret) .skip)) (.seq (.reg r_spec_estimate_8 none) .ret)) (.seq (.seq (.reg r_spec_estimate_9 none) (.cond (.t 56) .skip (.reg r_spec_estimate_10 none))) (.cond (.t 56) (.seq (.reg r_spec_estimate_11 (some [0, 0, 2, 6, 14, 0, 62, 127, 255, 0, 512, 1536, 3584, 7806, 16383, 32767, 65535])) (.seq (.seq (.reg r_spec_estimate_12 none) (.cond (.t 77) (.seq (.reg r_spec_estimate_13 none) .ret) .skip)) (.seq (.reg r_spec_estimate_14 none) .ret))) (.seq (.reg r_spec_estimate_15 none) (.cond (.t 82) (.seq (.reg r_spec_estimate_16 none) .ret) (.seq (.reg r_spec_estimate_17 none) (.cond (.t 93) (.seq (.reg r_spec_estimate_18 none) (.cond (.t 98) (.seq (.reg r_spec_estimate_19 none) .ret) .skip)) .skip)))))))))) (.seq (.reg r_spec_estimate_20 none) .ret))))
theorem c_spec_estimate : cfun Try.prog [] 46 = some (102, dc_spec_estimate, [(Res.tmp 4)]) := by kernel_rfl
def r_spec_fixedPermille_0 : List GI := [gi 1 (.box 1 2000001 (.t 0) (some 5)), gi 2 (.mov 2 (.k (.v (.int .i64 0))))]
def r_spec_fixedPermille_1 : List GI := [gi 3 (.fad 3 1 0), gi 4 (.lod 4 3 none)]
def r_spec_fixedPermille_2 : List GI := [gi 6 (.bin 6 .eql (.t 4) (.k (.v (.int .i64 2)))), gi 5 (.mov 5 (.t 6))]
def r_spec_fixedPermille_3 : List GI := [gi 7 (.fad 7 1 2), gi 8 (.lod 8 7 (some 2)), ⟨.call 9 94 [.t 8], some 9, none, true⟩, gi 10 (.bin 10 .eql (.t 9) (.k (.v (.int .i64 1)))), ⟨.call 11 93 [.t 10], some 11, none, true⟩, gi 12 (.bin 12 .mul (.k (.v (.int .i64 1000))) (.t 11)), gi 2 (.mov 2 (.t 12))]
def r_spec_fixedPermille_4 : List GI := [gi 14 (.bin 14 .eql (.t 4) (.k (.v (.int .i64 8)))), gi 13 (.mov 13 (.t 14))]
def r_spec_fixedPermille_5 : List GI := [gi 15 (.fad 15 1 4), gi 16 (.lod 16 15 none), gi 17 (.iad 17 16 (.k (.v (.int .i64 0))) 5), gi 18 (.lod 18 17 (some 5)), ⟨.call 19 74 [.t 18], some 19, none, true⟩, gi 20 (.fad 20 1 4), gi 21 (.lod 21 20 none), gi 22 (.iad 22 21 (.k (.v (.int .i64 1))) 5), gi 23 (.lod 23 22 (some 5)), ⟨.call 24 74 [.t 23], some 24, none, true⟩, gi 25 (.bin 25 .mul (.t 19) (.t 24)), gi 26 (.bin 26 .quo (.t 25) (.k (.v (.int .i64 1000)))), gi 2 (.mov 2 (.t 26))]
def r_spec_fixedPermille_6 : List GI := [gi 28 (.bin 28 .eql (.t 4) (.k (.v (.int .i64 6)))), gi 27 (.mov 27 (.t 28))]
def r_spec_fixedPermille_7 : List GI := [gi 2 (.mov 2 (.k (.v (.int .i64 100))))]
def r_spec_fixedPermille_8 : List GI := [gi 2 (.mov 2 (.k (.v (.int .i64 333))))]
def dc_spec_fixedPermille : DC := .seq (.reg r_spec_fixedPermille_0 none) (.seq (.seq (.reg r_spec_fixedPermille_1 none) (.block 0 (.seq (.reg r_spec_fixedPermille_2 none) (.cond (.t 5) (.seq (.reg r_spec_fixedPermille_3 none) .ret) (.seq (.reg r_spec_fixedPermille_4 none) (.cond (.t 13) (.seq (.reg r_spec_fixedPermille_5 (some [0, 1, 3, 7, 15, 0, 32, 96, 224, 511, 1023, 2047, 4095])) .ret) (.seq (.reg r_spec_fixedPermille_6 none) (.cond (.t 27) (.seq (.reg r_spec_fixedPermille_7 none) .ret) .skip)))))))) (.seq (.reg r_spec_fixedPermille_8 none) .ret))
theorem c_spec_fixedPermille : cfun Try.prog [] 74 = some (29, dc_spec_fixedPermille, [(Res.tmp 2)]) := by kernel_rfl
def r_impl_EstimateRows_0 : List GI := [gi 2 (.box 2 2000002 (.t 0) (some 5)), gi 4 (.mov 4 (.k (.v (.int .i64 0))))]
def r_impl_EstimateRows_1 : List GI := [gi 5 (.lod 5 2 (some 5)), gi 6 (.mov 6 (.t 1)), ⟨.call 7 42 [.t 6], some 7, none, true⟩, ⟨.call 8 13 [.t 5, .t 7], some 8, none, true⟩, gi 9 (.bin 9 .eql (.t 8) (.k (.v (.int .i64 0))))]
def r_impl_EstimateRows_2 : List GI := [gi 4 (.mov 4 (.k (.v (.int .i64 (-1)))))]
def r_impl_EstimateRows_3 : List GI := [gi 10 (.lod 10 2 (some 5)), gi 11 (.mov 11 (.t 1)), ⟨.call 12 44 [.t 11], some 12, none, true⟩, gi 13 (.ifc 13 70 (.t 12)), ⟨.call 14 43 [.t 10, .t 13], some 14, none, true⟩, gi 4 (.mov 4 (.t 14))]
def dc_impl_EstimateRows : DC := .seq (.reg r_impl_EstimateRows_0 none) (.seq (.seq (.reg r_impl_EstimateRows_1 (some [0, 0, 2, 7, 15])) (.cond (.t 9) (.seq (.reg r_impl_EstimateRows_2 none) .ret) .skip)) (.seq (.reg r_impl_EstimateRows_3 (some [0, 0, 2, 6, 15, 31])) .ret))
theorem c_impl_EstimateRows : cfun Try.prog [] 19 = some (15, dc_impl_EstimateRows, [(Res.tmp 4)]) := by kernel_rfl
def r_impl_deriveProperty_int__0 : List GI := [gi 2 (.box 2 2000002 (.t 0) (some 5)), gi 3 (.box 3 2000003 (.t 1) none), gi 4 (.mov 4 (.k (.v (.int .i64 0))))]
def r_impl_deriveProperty_int__1 : List GI := [gi 5 (.lod 5 2 (some 5)), gi 6 (.mkf 6 70 [.t 3]), ⟨.call 7 69 [.t 5, .t 6], some 7, none, true⟩, gi 4 (.mov 4 (.t 7))]
def dc_impl_deriveProperty_int_ : DC := .seq (.reg r_impl_deriveProperty_int__0 none) (.seq (.reg r_impl_deriveProperty_int__1 none) .ret)
theorem c_impl_deriveProperty_int_ : cfun Try.prog [] 43 = some (8, dc_impl_deriveProperty_int_, [(Res.tmp 4)]) := by kernel_rfl
def r_impl_deriveProperty_int__1_0 : List GI := [gi 3 (.box 3 2000003 (.t 0) (some 5)), gi 5 (.mov 5 (.k (.v (.int .i64 0))))]
def r_impl_deriveProperty_int__1_1 : List GI := [gi 6 (.lod 6 3 (some 5)), gi 7 (.mov 7 (.t 1)), gi 8 (.lod 8 2 none), ⟨.call 9 71 [.t 6, .t 7, .t 8], some 9, none, true⟩, gi 5 (.mov 5 (.t 9))]
def dc_impl_deriveProperty_int__1 : DC := .seq (.reg r_impl_deriveProperty_int__1_0 none) (.seq (.reg r_impl_deriveProperty_int__1_1 none) .ret)
theorem c_impl_deriveProperty_int__1 : cfun Try.prog [] 70 = some (10, dc_impl_deriveProperty_int__1, [(Res.tmp 5)]) := by kernel_rfl
def r_impl_foldPlan_int__0 : List GI := [gi 2 (.box 2 2000002 (.t 0) (some 5)), gi 4 (.mov 4 (.k (.v (.int .i64 0))))]
def r_impl_foldPlan_int__1 : List GI := [gi 5 (.mov 5 (.k .nul))]
def r_impl_foldPlan_int__2 : List GI := [gi 8 (.fad 8 2 4), gi 9 (.lod 9 8 none), gi 10 (.len 10 (.t 9)), gi 11 (.mov 11 (.k (.v (.int .i64 0))))]
def r_impl_foldPlan_int__3 : List GI := [gi 12 (.bin 12 .lss (.t 11) (.t 10))]
def r_impl_foldPlan_int__4 : List GI := [gi 13 (.iad 13 9 (.t 11) 5), gi 14 (.lod 14 13 (some 5)), gi 7 (.alloc 7 2000007 [.v (.int .i64 0), .v (.int .i64 0), .nul, .nul, .nul]), g0 (.sto 7 (.t 14) (some 5))]
def r_impl_foldPlan_int__5 : List GI := [gi 15 (.mov 15 (.t 5)), gi 16 (.lod 16 7 (some 5)), gi 17 (.mov 17 (.t 1)), ⟨.call 18 69 [.t 16, .t 17], some 18, none, true⟩, gi 19 (.bsl 19 1 none [.v (.int .i64 0)] [(0, .t 18)]), gi 20 (.app 20 2000020 (.t 15) (.t 19) 1 8), gi 5 (.mov 5 (.t 20))]
def r_impl_foldPlan_int__6 : List GI := [gi 21 (.bin 21 .add (.t 11) (.k (.v (.int .i64 1)))), gi 11 (.mov 11 (.t 21))]
def r_impl_foldPlan_int__7 : List GI := [gi 22 (.mov 22 (.t 1)), gi 23 (.lod 23 2 (some 5)), gi 24 (.mov 24 (.t 5)), ⟨.cal 25 (.t 22) [.t 23, .t 24], some 25, none, true⟩, gi 4 (.mov 4 (.t 25))]
def dc_impl_foldPlan_int_ : DC := .seq (.reg r_impl_foldPlan_int__0 none) (.seq (.reg r_impl_foldPlan_int__1 none) (.seq (.seq (.reg r_impl_foldPlan_int__2 none) (.block 0 (.loop (.seq (.reg r_impl_foldPlan_int__3 none) (.seq (.cond (.t 12) .skip (.exit 0)) (.seq (.block 1 (.seq (.reg r_impl_foldPlan_int__4 none) (.reg r_impl_foldPlan_int__5 none))) (.reg r_impl_foldPlan_int__6 none))))))) (.seq (.reg r_impl_foldPlan_int__7 none) .ret)))
theorem c_impl_foldPlan_int_ : cfun Try.prog [] 69 = some (26, dc_impl_foldPlan_int_, [(Res.tmp 4)]) := by kernel_rfl
def r_impl_rowEstimatesFor_0 : List GI := [gi 2 (.alloc 2 2000002 [.nul, .nul])]
def r_impl_rowEstimatesFor_1 : List GI := [gi 3 (.mov 3 (.k .nul))]
def r_impl_rowEstimatesFor_2 : List GI := [gi 6 (.mov 6 (.t 0)), gi 7 (.len 7 (.t 6)), gi 8 (.mov 8 (.k (.v (.int .i64 0))))]
def r_impl_rowEstimatesFor_3 : List GI := [gi 9 (.bin 9 .lss (.t 8) (.t 7))]
def r_impl_rowEstimatesFor_4 : List GI := [gi 10 (.iad 10 6 (.t 8) 3), gi 11 (.lod 11 10 (some 3)), gi 5 (.alloc 5 2000005 [.v (.int .i64 0), .nul, .nul]), g0 (.sto 5 (.t 11) (some 3))]
def r_impl_rowEstimatesFor_5 : List GI := [gi 12 (.mov 12 (.t 3)), gi 13 (.fad 13 5 0), gi 14 (.lod 14 13 none), gi 15 (.bsl 15 1 none [.v (.int .i64 0)] [(0, .t 14)]), gi 16 (.app 16 2000016 (.t 12) (.t 15) 1 8), gi 3 (.mov 3 (.t 16))]
def r_impl_rowEstimatesFor_6 : List GI := [gi 17 (.bin 17 .add (.t 8) (.k (.v (.int .i64 1)))), gi 8 (.mov 8 (.t 17))]
def r_impl_rowEstimatesFor_7 : List GI := [gi 18 (.mov 18 (.t 3)), gi 19 (.build 19 [.nul] [(0, (none, .t 18))]), gi 20 (.mov 20 (.t 0)), gi 21 (.build 21 [.nul, .nul] [(0, (some 1, .t 19)), (1, (none, .t 20))]), g0 (.sto 2 (.t 21) (some 2))]
def dc_impl_rowEstimatesFor : DC := .seq (.reg r_impl_rowEstimatesFor_0 none) (.seq (.reg r_impl_rowEstimatesFor_1 none) (.seq (.seq (.reg r_impl_rowEstimatesFor_2 none) (.block 0 (.loop (.seq (.reg r_impl_rowEstimatesFor_3 none) (.seq (.cond (.t 9) .skip (.exit 0)) (.seq (.block 1 (.seq (.reg r_impl_rowEstimatesFor_4 none) (.reg r_impl_rowEstimatesFor_5 none))) (.reg r_impl_rowEstimatesFor_6 none))))))) (.seq (.reg r_impl_rowEstimatesFor_7 none) .ret)))
theorem c_impl_rowEstimatesFor : cfun Try.prog [] 44 = some (22, dc_impl_rowEstimatesFor, [(Res.cell 2 (some 2))]) := by kernel_rfl
def r_impl_statsWidths_0 : List GI := [gi 2 (.mov 2 (.k .nul))]
def r_impl_statsWidths_1 : List GI := [gi 3 (.mov 3 (.k .nul))]
def r_impl_statsWidths_2 : List GI := [gi 7 (.mov 7 (.t 0)), gi 8 (.len 8 (.t 7)), gi 9 (.mov 9 (.k (.v (.int .i64 0))))]
def r_impl_statsWidths_3 : List GI := [gi 10 (.bin 10 .lss (.t 9) (.t 8))]
def r_impl_statsWidths_4 : List GI := [gi 11 (.iad 11 7 (.t 9) 3), gi 12 (.lod 12 11 (some 3)), gi 5 (.alloc 5 2000005 [.v (.int .i64 0), .nul, .nul]), g0 (.sto 5 (.t 12) (some 3))]
def r_impl_statsWidths_5 : List GI := [gi 13 (.fad 13 5 1), gi 14 (.lod 14 13 none), gi 15 (.len 15 (.t 14)), gi 6 (.mov 6 (.t 15))]
def r_impl_statsWidths_6 : List GI := [gi 16 (.lod 16 5 (some 3)), gi 17 (.mov 17 (.t 6)), ⟨.call 18 68 [.t 16, .t 17], some 18, none, true⟩, gi 19 (.un 19 UnOp.not (.t 18))]
def r_impl_statsWidths_7 : List GI := [gi 2 (.mov 2 (.k .nul))]
def r_impl_statsWidths_8 : List GI := [gi 20 (.mov 20 (.t 3)), gi 21 (.mov 21 (.t 6)), gi 22 (.bsl 22 1 none [.v (.int .i64 0)] [(0, .t 21)]), gi 23 (.app 23 2000023 (.t 20) (.t 22) 1 8), gi 3 (.mov 3 (.t 23))]
def r_impl_statsWidths_9 : List GI := [gi 24 (.bin 24 .add (.t 9) (.k (.v (.int .i64 1)))), gi 9 (.mov 9 (.t 24))]
def r_impl_statsWidths_10 : List GI := [gi 25 (.mov 25 (.t 3)), gi 2 (.mov 2 (.t 25))]
def dc_impl_statsWidths : DC := .seq (.reg r_impl_statsWidths_0 none) (.seq (.reg r_impl_statsWidths_1 none) (.seq (.seq (.reg r_impl_statsWidths_2 none) (.block 0 (.loop (.seq (.reg r_impl_statsWidths_3 none) (.seq (.cond (.t 10) .skip (.exit 0)) (.seq (.block 1 (.seq (.reg r_impl_statsWidths_4 none) (.seq (.reg r_impl_statsWidths_5 none) (.seq (.seq (.reg r_impl_statsWidths_6 none) (.cond (.t 19) (.seq (.reg r_impl_statsWidths_7 none) .ret) .skip)) (.reg r_impl_statsWidths_8 none))))) (.reg r_impl_statsWidths_9 none))))))) (.seq (.reg r_impl_statsWidths_10 none) .ret)))
theorem c_impl_statsWidths : cfun Try.prog [] 42 = some (26, dc_impl_statsWidths, [(Res.tmp 2)]) := by kernel_rfl
def r_spec_EstimateRows_0 : List GI := [gi 2 (.box 2 2000002 (.t 0) (some 5)), gi 4 (.mov 4 (.k (.v (.int .i64 0))))]
def r_spec_EstimateRows_1 : List GI := [gi 5 (.lod 5 2 (some 5)), gi 6 (.mov 6 (.t 1)), ⟨.call 7 45 [.t 5, .t 6], some 7, none, true⟩, gi 8 (.un 8 UnOp.not (.t 7))]
def r_spec_EstimateRows_2 : List GI := [gi 4 (.mov 4 (.k (.v (.int .i64 (-1)))))]
def r_spec_EstimateRows_3 : List GI := [gi 9 (.lod 9 2 (some 5)), gi 10 (.mov 10 (.t 1)), ⟨.call 11 46 [.t 9, .t 10], some 11, none, true⟩, gi 4 (.mov 4 (.t 11))]
def dc_spec_EstimateRows : DC := .seq (.reg r_spec_EstimateRows_0 none) (.seq (.seq (.reg r_spec_EstimateRows_1 none) (.cond (.t 8) (.seq (.reg r_spec_EstimateRows_2 none) .ret) .skip)) (.seq (.reg r_spec_EstimateRows_3 none) .ret))
theorem c_spec_EstimateRows : cfun Try.prog [] 20 = some (12, dc_spec_EstimateRows, [(Res.tmp 4)]) := by kernel_rfl
def r_spec_validDatabase_0 : List GI := [gi 2 (.box 2 2000002 (.t 0) (some 5)), gi 4 (.mov 4 (.k (.v (.bool false))))]
def r_spec_validDatabase_1 : List GI := [gi 7 (.mov 7 (.k .nul)), gi 5 (.mov 5 (.t 7))]
def r_spec_validDatabase_2 : List GI := [gi 6 (.mov 6 (.k (.v (.int .i64 0))))]
def r_spec_validDatabase_3 : List GI := [gi 8 (.mov 8 (.t 6)), gi 9 (.mov 9 (.t 1)), gi 10 (.len 10 (.t 9)), gi 11 (.bin 11 .lss (.t 8) (.t 10))]
def r_spec_validDatabase_4 : List GI := [gi 14 (.mov 14 (.t 1)), gi 15 (.mov 15 (.t 6)), gi 16 (.iad 16 14 (.t 15) 3), gi 17 (.lod 17 16 (some 3)), gi 18 (.mov 18 (.t 1)), gi 19 (.mov 19 (.t 6)), gi 20 (.iad 20 18 (.t 19) 3), gi 21 (.fad 21 20 1), gi 22 (.lod 22 21 none), gi 23 (.len 23 (.t 22)), ⟨.call 24 72 [.t 17, .t 23], some 24, none, true⟩, gi 25 (.un 25 UnOp.not (.t 24))]
def r_spec_validDatabase_5 : List GI := [gi 4 (.mov 4 (.k (.v (.bool false))))]
def r_spec_validDatabase_6 : List GI := [gi 26 (.mov 26 (.t 5)), gi 27 (.mov 27 (.t 1)), gi 28 (.mov 28 (.t 6)), gi 29 (.iad 29 27 (.t 28) 3), gi 30 (.fad 30 29 1), gi 31 (.lod 31 30 none), gi 32 (.len 32 (.t 31)), gi 33 (.bsl 33 1 none [.v (.int .i64 0)] [(0, .t 32)]), gi 34 (.app 34 2000034 (.t 26) (.t 33) 1 8), gi 5 (.mov 5 (.t 34))]
def r_spec_validDatabase_7 : List GI := [gi 12 (.mov 12 (.t 6)), gi 13 (.bin 13 .add (.t 12) (.k (.v (.int .i64 1)))), gi 6 (.mov 6 (.t 13))]
def r_spec_validDatabase_8 : List GI := [gi 35 (.lod 35 2 (some 5)), gi 36 (.mov 36 (.t 5)), ⟨.call 37 33 [.t 35, .t 36], some 37, none, true⟩, gi 38 (.bin 38 .gtr (.t 37) (.k (.v (.int .i64 0)))), gi 4 (.mov 4 (.t 38))]
def dc_spec_validDatabase : DC := .seq (.reg r_spec_validDatabase_0 none) (.seq (.reg r_spec_validDatabase_1 none) (.seq (.seq (.reg r_spec_validDatabase_2 none) (.block 0 (.loop (.seq (.seq (.reg r_spec_validDatabase_3 none) (.cond (.t 11) .skip (.exit 0))) (.seq (.block 1 (.seq (.seq (.reg r_spec_validDatabase_4 (some [0, 0, 3, 7, 0, 0, 48, 112, 240, 496, 1023, 2047])) (.cond (.t 25) (.seq (.reg r_spec_validDatabase_5 none) .ret) .skip)) (.reg r_spec_validDatabase_6 none))) (.reg r_spec_validDatabase_7 none)))))) (.seq (.reg r_spec_validDatabase_8 none) .ret)))
theorem c_spec_validDatabase : cfun Try.prog [] 45 = some (39, dc_spec_validDatabase, [(Res.tmp 4)]) := by kernel_rfl
def r_spec_newReader_0 : List GI := [gi 2 (.mov 2 (.k (.v (.pointer none))))]
def r_spec_newReader_1 : List GI := [gi 3 (.mov 3 (.t 0)), gi 4 (.len 4 (.t 3)), gi 5 (.bin 5 .gtr (.t 4) (.k (.v (.int .i64 2000))))]
def r_spec_newReader_2 : List GI := [gi 6 (.mov 6 (.t 0)), gi 7 (.slc 7 (.t 6) none (some (.k (.v (.int .i64 2000)))) 1), gi 0 (.mov 0 (.t 7))]
def r_spec_newReader_3 : List GI := [gi 8 (.mov 8 (.t 0)), gi 9 (.build 9 [.nul, .v (.int .i64 0)] [(0, (none, .t 8))]), gi 10 (.box 10 2000010 (.t 9) (some 2)), gi 2 (.mov 2 (.t 10))]
def dc_spec_newReader : DC := .seq (.reg r_spec_newReader_0 none) (.seq (.seq (.reg r_spec_newReader_1 none) (.cond (.t 5) (.reg r_spec_newReader_2 none) .skip)) (.seq (.reg r_spec_newReader_3 none) .ret))
theorem c_spec_newReader : cfun Try.prog [] 31 = some (11, dc_spec_newReader, [(Res.tmp 2)]) := by kernel_rfl
def r_spec_preader_one_0 : List GI := [gi 4 (.mov 4 (.k (.v (.int .i64 0))))]
def r_spec_preader_one_1 : List GI := [gi 5 (.mov 5 (.t 1)), gi 6 (.mov 6 (.t 0)), gi 7 (.mov 7 (.t 1)), gi 8 (.len 8 (.t 7)), ⟨.call 9 38 [.t 6, .t 8], some 9, none, true⟩, gi 10 (.iad 10 5 (.t 9) 1), gi 11 (.lod 11 10 none), gi 4 (.mov 4 (.t 11))]
def dc_spec_preader_one : DC := .seq (.reg r_spec_preader_one_0 none) (.seq (.reg r_spec_preader_one_1 none) .ret)
theorem c_spec_preader_one : cfun Try.prog [] 51 = some (12, dc_spec_preader_one, [(Res.tmp 4)]) := by kernel_rfl
def r_spec_preader_pick_0 : List GI := [gi 4 (.mov 4 (.k (.v (.int .i64 0))))]
def r_spec_preader_pick_1 : List GI := [gi 7 (.mov 7 (.t 0)), gi 8 (.mov 8 (.t 0)), gi 9 (.nilc 9 8), gi 10 (.fad 10 9 1), gi 11 (.lod 11 10 none), gi 12 (.bin 12 .add (.t 11) (.k (.v (.int .i64 1)))), gi 13 (.nilc 13 7), gi 14 (.fad 14 13 1), g0 (.sto 14 (.t 12) none)]
def r_spec_preader_pick_2 : List GI := [gi 15 (.mov 15 (.t 1)), gi 16 (.bin 16 .lss (.t 15) (.k (.v (.int .i64 1)))), gi 17 (.mov 17 (.t 16)), ⟨.mov 18 (.t 0), some 18, some (17, false), false⟩, ⟨.nilc 19 18, some 19, some (17, false), false⟩, ⟨.fad 20 19 0, some 20, some (17, false), false⟩, ⟨.lod 21 20 none, some 21, some (17, false), false⟩, ⟨.len 22 (.t 21), some 22, some (17, false), false⟩, ⟨.bin 23 .eql (.t 22) (.k (.v (.int .i64 0))), some 23, some (17, false), false⟩, gi 24 (.pick 24 (.t 17) (.k (.v (.bool true))) (.t 23))]
def r_spec_preader_pick_3 : List GI := [gi 4 (.mov 4 (.k (.v (.int .i64 0))))]
def r_spec_preader_pick_4 : List GI := [gi 25 (.mov 25 (.t 0)), gi 26 (.nilc 26 25), gi 27 (.fad 27 26 1), gi 28 (.lod 28 27 none), gi 29 (.bin 29 .sub (.t 28) (.k (.v (.int .i64 1)))), gi 5 (.mov 5 (.t 29))]
def r_spec_preader_pick_5 : List GI := [gi 30 (.mov 30 (.t 5)), gi 31 (.mov 31 (.t 0)), gi 32 (.nilc 32 31), gi 33 (.fad 33 32 0), gi 34 (.lod 34 33 none), gi 35 (.len 35 (.t 34)), gi 36 (.bin 36 .lss (.t 30) (.t 35))]
def r_spec_preader_pick_6 : List GI := [gi 37 (.mov 37 (.t 0)), gi 38 (.nilc 38 37), gi 39 (.fad 39 38 0), gi 40 (.lod 40 39 none), gi 41 (.mov 41 (.t 5)), gi 42 (.iad 42 40 (.t 41) 1), gi 43 (.lod 43 42 none), gi 44 (.cvt 44 .i64 (.t 43)), gi 45 (.mov 45 (.t 1)), gi 46 (.bin 46 .rem (.t 44) (.t 45)), gi 4 (.mov 4 (.t 46))]
def r_spec_preader_pick_7 : List GI := [gi 47 (.mov 47 (.t 0)), gi 48 (.nilc 48 47), gi 49 (.fad 49 48 0), gi 50 (.lod 50 49 none), gi 51 (.mov 51 (.t 5)), gi 52 (.mov 52 (.t 0)), gi 53 (.nilc 53 52), gi 54 (.fad 54 53 0), gi 55 (.lod 55 54 none), gi 56 (.len 56 (.t 55)), gi 57 (.bin 57 .rem (.t 51) (.t 56)), gi 58 (.iad 58 50 (.t 57) 1), gi 59 (.lod 59 58 none), gi 60 (.cvt 60 .i64 (.t 59)), gi 61 (.bin 61 .mul (.t 60) (.k (.v (.int .i64 131)))), gi 62 (.mov 62 (.t 0)), gi 63 (.nilc 63 62), gi 64 (.fad 64 63 0), gi 65 (.lod 65 64 none), gi 66 (.mov 66 (.t 5)), gi 67 (.bin 67 .mul (.t 66) (.k (.v (.int .i64 7)))), gi 68 (.bin 68 .add (.t 67) (.k (.v (.int .i64 3)))), gi 69 (.mov 69 (.t 0)), gi 70 (.nilc 70 69), gi 71 (.fad 71 70 0), gi 72 (.lod 72 71 none), gi 73 (.len 73 (.t 72)), gi 74 (.bin 74 .rem (.t 68) (.t 73)), gi 75 (.iad 75 65 (.t 74) 1), gi 76 (.lod 76 75 none), gi 77 (.cvt 77 .i64 (.t 76)), gi 78 (.bin 78 .mul (.t 77) (.k (.v (.int .i64 1117)))), gi 79 (.bin 79 .add (.t 61) (.t 78)), gi 80 (.mov 80 (.t 5)), gi 81 (.bin 81 .mul (.t 80) (.k (.v (.int .i64 29)))), gi 82 (.bin 82 .add (.t 79) (.t 81)), gi 83 (.mov 83 (.t 5)), gi 84 (.mov 84 (.t 0)), gi 85 (.nilc 85 84), gi 86 (.fad 86 85 0), gi 87 (.lod 87 86 none), gi 88 (.len 88 (.t 87)), gi 89 (.bin 89 .quo (.t 83) (.t 88)), gi 90 (.bin 90 .mul (.t 89) (.k (.v (.int .i64 53)))), gi 91 (.bin 91 .add (.t 82) (.t 90)), gi 6 (.mov 6 (.t 91))]
def r_spec_preader_pick_8 : List GI := [gi 92 (.mov 92 (.t 6)), gi 93 (.mov 93 (.t 6)), gi 94 (.bin 94 .quo (.t 93) (.k (.v (.int .i64 64)))), gi 95 (.bin 95 .xor (.t 92) (.t 94)), gi 6 (.mov 6 (.t 95))]
def r_spec_preader_pick_9 : List GI := [gi 96 (.mov 96 (.t 6)), gi 97 (.mov 97 (.t 1)), gi 98 (.bin 98 .rem (.t 96) (.t 97)), gi 4 (.mov 4 (.t 98))]
def dc_spec_preader_pick : DC := .seq (.reg r_spec_preader_pick_0 none) (.seq (.reg r_spec_preader_pick_1 none) (.seq (.seq (.reg r_spec_preader_pick_2 none) (.cond (.t 24) (.seq (.reg r_spec_preader_pick_3 none) .ret) .skip)) (.seq (.reg r_spec_preader_pick_4 none) (.seq (.seq (.reg r_spec_preader_pick_5 none) (.cond (.t 36) (.seq (.reg r_spec_preader_pick_6 none) .ret) .skip)) (.seq (.reg r_spec_preader_pick_7 (some [0, 1, 3, 7, 0, 0, 32, 96, 224, 480, 1008, 2047, 4095, 8191, 16383, 0, 32768, 98304, 229376, 0, 524288, 1572864, 0, 4194304, 12582912, 29360128, 62914560, 133693440, 268402688, 536838144, 1073709056, 2147450880, 4294967295, 0, 8589934592, 34359738367, 0, 0, 137438953472, 412316860416, 962072674304, 2061584302080, 4329327034368, 8727373545472, 17592186044415, 35184372088831])) (.seq (.reg r_spec_preader_pick_8 none) (.seq (.reg r_spec_preader_pick_9 none) .ret)))))))
theorem c_spec_preader_pick : cfun Try.prog [] 38 = some (99, dc_spec_preader_pick, [(Res.tmp 4)]) := by kernel_rfl
def r_spec_anyValue_0 : List GI := [gi 2 (.alloc 2 2000002 [.v (.bool false), .v (.int .i64 0)])]
def r_spec_anyValue_1 : List GI := [gi 4 (.mov 4 (.t 0)), ⟨.call 5 104 [.t 4], some 5, none, true⟩, gi 3 (.alloc 3 2000003 [.v (.bool false), .v (.int .i64 0)]), g0 (.sto 3 (.t 5) (some 2))]
def r_spec_anyValue_2 : List GI := [gi 6 (.mov 6 (.t 0)), ⟨.call 7 38 [.t 6, .k (.v (.int .i64 14))], some 7, none, true⟩]
def r_spec_anyValue_3 : List GI := [gi 9 (.bin 9 .eql (.t 7) (.k (.v (.int .i64 0)))), gi 8 (.mov 8 (.t 9))]
def r_spec_anyValue_4 : List GI := [gi 10 (.build 10 [.v (.bool false), .v (.int .i64 0)] [(0, (none, .k (.v (.bool true)))), (1, (none, .k (.v (.int .i64 1))))]), g0 (.sto 2 (.t 10) (some 2))]
def r_spec_anyValue_5 : List GI := [gi 12 (.bin 12 .eql (.t 7) (.k (.v (.int .i64 1)))), gi 11 (.mov 11 (.t 12))]
def r_spec_anyValue_6 : List GI := [gi 13 (.mov 13 (.t 0)), gi 14 (.bsl 14 1 none [.v (.int .i64 0), .v (.int .i64 0), .v (.int .i64 0), .v (.int .i64 0)] [(0, .k (.v (.int .i64 10000))), (1, .k (.v (.int .i64 (-10000)))), (2, .k (.v (.int .i64 9999))), (3, .k (.v (.int .i64 (-9999))))]), ⟨.call 15 51 [.t 13, .t 14], some 15, none, true⟩, gi 16 (.build 16 [.v (.bool false), .v (.int .i64 0)] [(1, (none, .t 15))]), g0 (.sto 2 (.t 16) (some 2))]
def r_spec_anyValue_7 : List GI := [gi 17 (.lod 17 3 (some 2)), g0 (.sto 2 (.t 17) (some 2))]
def dc_spec_anyValue : DC := .seq (.reg r_spec_anyValue_0 none) (.seq (.reg r_spec_anyValue_1 none) (.seq (.seq (.reg r_spec_anyValue_2 none) (.block 0 (.seq (.reg r_spec_anyValue_3 none) (.cond (.t 8) (.seq (.reg r_spec_anyValue_4 none) .ret) (.seq (.reg r_spec_anyValue_5 none) (.cond (.t 11) (.seq (.reg r_spec_anyValue_6 none) .ret) .skip)))))) (.seq (.reg r_spec_anyValue_7 none) .ret)))
theorem c_spec_anyValue : cfun Try.prog [] 100 = some (18, dc_spec_anyValue, [(Res.cell 2 (some 2))]) := by kernel_rfl
def r_spec_randomRow_0 : List GI := [gi 4 (.mov 4 (.k .nul))]
def r_spec_randomRow_1 : List GI := [gi 7 (.mov 7 (.k .nul)), gi 5 (.mov 5 (.t 7))]
def r_spec_randomRow_2 : List GI := [gi 6 (.mov 6 (.k (.v (.int .i64 0))))]
def r_spec_randomRow_3 : List GI := [gi 8 (.mov 8 (.t 6)), gi 9 (.mov 9 (.t 1)), gi 10 (.bin 10 .lss (.t 8) (.t 9))]
def r_spec_randomRow_4 : List GI := [gi 13 (.mov 13 (.t 5)), gi 14 (.mov 14 (.t 0)), ⟨.call 15 104 [.t 14], some 15, none, true⟩, gi 16 (.bsl 16 2 (some 2) [.agg [.v (.bool false), .v (.int .i64 0)]] [(0, .t 15)]), gi 17 (.app 17 2000017 (.t 13) (.t 16) 2 16), gi 5 (.mov 5 (.t 17))]
def r_spec_randomRow_5 : List GI := [gi 11 (.mov 11 (.t 6)), gi 12 (.bin 12 .add (.t 11) (.k (.v (.int .i64 1)))), gi 6 (.mov 6 (.t 12))]
def r_spec_randomRow_6 : List GI := [gi 18 (.mov 18 (.t 5)), gi 4 (.mov 4 (.t 18))]
def dc_spec_randomRow : DC := .seq (.reg r_spec_randomRow_0 none) (.seq (.reg r_spec_randomRow_1 none) (.seq (.seq (.reg r_spec_randomRow_2 none) (.block 0 (.loop (.seq (.seq (.reg r_spec_randomRow_3 none) (.cond (.t 10) .skip (.exit 0))) (.seq (.block 1 (.reg r_spec_randomRow_4 none)) (.reg r_spec_randomRow_5 none)))))) (.seq (.reg r_spec_randomRow_6 none) .ret)))
theorem c_spec_randomRow : cfun Try.prog [] 90 = some (19, dc_spec_randomRow, [(Res.tmp 4)]) := by kernel_rfl
def r_spec_randomValue_0 : List GI := [gi 2 (.alloc 2 2000002 [.v (.bool false), .v (.int .i64 0)])]
def r_spec_randomValue_1 : List GI := [gi 3 (.mov 3 (.t 0)), ⟨.call 4 38 [.t 3, .k (.v (.int .i64 5))], some 4, none, true⟩, gi 5 (.bin 5 .eql (.t 4) (.k (.v (.int .i64 0))))]
def r_spec_randomValue_2 : List GI := [gi 6 (.build 6 [.v (.bool false), .v (.int .i64 0)] [(0, (none, .k (.v (.bool true))))]), g0 (.sto 2 (.t 6) (some 2))]
def r_spec_randomValue_3 : List GI := [gi 7 (.mov 7 (.t 0)), gi 8 (.bsl 8 1 none [.v (.int .i64 0), .v (.int .i64 0), .v (.int .i64 0), .v (.int .i64 0), .v (.int .i64 0)] [(0, .k (.v (.int .i64 0))), (1, .k (.v (.int .i64 1))), (2, .k (.v (.int .i64 2))), (3, .k (.v (.int .i64 3))), (4, .k (.v (.int .i64 (-1))))]), ⟨.call 9 51 [.t 7, .t 8], some 9, none, true⟩, gi 10 (.build 10 [.v (.bool false), .v (.int .i64 0)] [(1, (none, .t 9))]), g0 (.sto 2 (.t 10) (some 2))]
def dc_spec_randomValue : DC := .seq (.reg r_spec_randomValue_0 none) (.seq (.seq (.reg r_spec_randomValue_1 none) (.cond (.t 5) (.seq (.reg r_spec_randomValue_2 none) .ret) .skip)) (.seq (.reg r_spec_randomValue_3 none) .ret))
theorem c_spec_randomValue : cfun Try.prog [] 104 = some (11, dc_spec_randomValue, [(Res.cell 2 (some 2))]) := by kernel_rfl
def r_spec_compareValues_0 : List GI := [gi 2 (.box 2 2000002 (.t 0) (some 2)), gi 3 (.box 3 2000003 (.t 1) (some 2)), gi 4 (.mov 4 (.k (.v (.int .i64 0))))]
def r_spec_compareValues_1 : List GI := [gi 6 (.lod 6 2 (some 2)), gi 7 (.lod 7 3 (some 2)), gi 8 (.eqs 8 false [false, true] (.t 6) (.t 7)), gi 5 (.mov 5 (.t 8))]
def r_spec_compareValues_2 : List GI := [gi 4 (.mov 4 (.k (.v (.int .i64 0))))]
def r_spec_compareValues_3 : List GI := [gi 10 (.fad 10 2 0), gi 11 (.lod 11 10 none), gi 12 (.mov 12 (.t 11)), ⟨.fad 13 3 0, some 13, some (12, false), false⟩, ⟨.lod 14 13 none, some 14, some (12, false), false⟩, ⟨.un 15 UnOp.not (.t 14), some 15, some (12, false), false⟩, ⟨.mov 16 (.t 15), some 16, some (12, false), false⟩, ⟨.fad 17 2 1, some 17, some (16, true), false⟩, ⟨.lod 18 17 none, some 18, some (16, true), false⟩, ⟨.fad 19 3 1, some 19, some (16, true), false⟩, ⟨.lod 20 19 none, some 20, some (16, true), false⟩, ⟨.bin 21 .lss (.t 18) (.t 20), some 21, some (16, true), false⟩, ⟨.pick 22 (.t 16) (.t 21) (.k (.v (.bool false))), some 22, some (12, false), false⟩, gi 23 (.pick 23 (.t 12) (.k (.v (.bool true))) (.t 22)), gi 9 (.mov 9 (.t 23))]
def r_spec_compareValues_4 : List GI := [gi 4 (.mov 4 (.k (.v (.int .i64 (-1)))))]
def r_spec_compareValues_5 : List GI := [gi 4 (.mov 4 (.k (.v (.int .i64 1))))]
def dc_spec_compareValues : DC := .seq (.reg r_spec_compareValues_0 none) (.seq (.block 0 (.seq (.reg r_spec_compareValues_1 none) (.cond (.t 5) (.seq (.reg r_spec_compareValues_2 none) .ret) (.seq (.reg r_spec_compareValues_3 none) (.cond (.t 9) (.seq (.reg r_spec_compareValues_4 none) .ret) .skip))))) (.seq (.reg r_spec_compareValues_5 none) .ret))
theorem c_spec_compareValues : cfun Try.prog [] 114 = some (24, dc_spec_compareValues, [(Res.tmp 4)]) := by kernel_rfl
def r_spec_compareRows_0 : List GI := [gi 4 (.mov 4 (.k (.v (.int .i64 0))))]
def r_spec_compareRows_1 : List GI := [gi 5 (.mov 5 (.k (.v (.int .i64 0))))]
def r_spec_compareRows_2 : List GI := [gi 7 (.mov 7 (.t 5)), gi 8 (.mov 8 (.t 0)), gi 9 (.len 9 (.t 8)), gi 10 (.bin 10 .lss (.t 7) (.t 9)), gi 11 (.mov 11 (.t 10)), ⟨.mov 12 (.t 5), some 12, some (11, true), false⟩, ⟨.mov 13 (.t 1), some 13, some (11, true), false⟩, ⟨.len 14 (.t 13), some 14, some (11, true), false⟩, ⟨.bin 15 .lss (.t 12) (.t 14), some 15, some (11, true), false⟩, gi 16 (.pick 16 (.t 11) (.t 15) (.k (.v (.bool false))))]
def r_spec_compareRows_3 : List GI := [gi 19 (.mov 19 (.t 0)), gi 20 (.mov 20 (.t 5)), gi 21 (.iad 21 19 (.t 20) 2), gi 22 (.lod 22 21 (some 2)), gi 23 (.mov 23 (.t 1)), gi 24 (.mov 24 (.t 5)), gi 25 (.iad 25 23 (.t 24) 2), gi 26 (.lod 26 25 (some 2)), ⟨.call 27 114 [.t 22, .t 26], some 27, none, true⟩, gi 6 (.mov 6 (.t 27))]
def r_spec_compareRows_4 : List GI := [gi 28 (.mov 28 (.t 6)), gi 29 (.bin 29 .neq (.t 28) (.k (.v (.int .i64 0))))]
def r_spec_compareRows_5 : List GI := [gi 30 (.mov 30 (.t 6)), gi 4 (.mov 4 (.t 30))]
def r_spec_compareRows_6 : List GI := [gi 17 (.mov 17 (.t 5)), gi 18 (.bin 18 .add (.t 17) (.k (.v (.int .i64 1)))), gi 5 (.mov 5 (.t 18))]
def r_spec_compareRows_7 : List GI := [gi 31 (.mov 31 (.t 0)), gi 32 (.len 32 (.t 31)), gi 33 (.mov 33 (.t 1)), gi 34 (.len 34 (.t 33)), gi 35 (.bin 35 .sub (.t 32) (.t 34)), gi 4 (.mov 4 (.t 35))]
def dc_spec_compareRows : DC := .seq (.reg r_spec_compareRows_0 none) (.seq (.seq (.reg r_spec_compareRows_1 none) (.block 0 (.loop (.seq (.seq (.reg r_spec_compareRows_2 none) (.cond (.t 16) .skip (.exit 0))) (.seq (.block 1 (.seq (.reg r_spec_compareRows_3 (some [0, 0, 3, 7, 0, 0, 48, 112, 255, 511])) (.seq (.reg r_spec_compareRows_4 none) (.cond (.t 29) (.seq (.reg r_spec_compareRows_5 none) .ret) .skip)))) (.reg r_spec_compareRows_6 none)))))) (.seq (.reg r_spec_compareRows_7 none) .ret))
theorem c_spec_compareRows : cfun Try.prog [] 103 = some (36, dc_spec_compareRows, [(Res.tmp 4)]) := by kernel_rfl
def r_spec_copyRow_0 : List GI := [gi 2 (.mov 2 (.k .nul))]
def r_spec_copyRow_1 : List GI := [gi 3 (.mov 3 (.k .nul)), gi 4 (.mov 4 (.t 0)), gi 5 (.app 5 2000005 (.t 3) (.t 4) 2 16), gi 2 (.mov 2 (.t 5))]
def dc_spec_copyRow : DC := .seq (.reg r_spec_copyRow_0 none) (.seq (.reg r_spec_copyRow_1 none) .ret)
theorem c_spec_copyRow : cfun Try.prog [] 115 = some (6, dc_spec_copyRow, [(Res.tmp 2)]) := by kernel_rfl
end
end Go.Proofs.Ytpfedjaedlfdfaa

/-
  Functions of the program read as code on plain data. Closed facts of the program alone.
-/
import Derived.KernelRfl
import Derived.Test.YtpfedjaedlfdfaaRows
import Derived.Test.YtpfedjaedlfdfaaJSVCall
namespace Go.Proofs.Ytpfedjaedlfdfaa
open Go.RowKit
noncomputable section
def r_spec_planWidth_0 : List GI := [gi 3 (.box 3 2000003 (.t 0) (some 5)), gi 6 (.mov 6 (.k (.v (.int .i64 0))))]
def r_spec_planWidth_1 : List GI := [gi 10 (.mov 10 (.k .nul)), gi 7 (.mov 7 (.t 10))]
def r_spec_planWidth_2 : List GI := [gi 11 (.lod 11 3 (some 5)), ⟨.call 12 80 [.t 11], some 12, none, true⟩, gi 13 (.un 13 UnOp.not (.t 12)), gi 14 (.mov 14 (.t 13)), ⟨.fad 15 3 4, some 15, some (14, false), false⟩, ⟨.lod 16 15 none, some 16, some (14, false), false⟩, ⟨.len 17 (.t 16), some 17, some (14, false), false⟩, ⟨.bin 18 .gtr (.t 17) (.k (.v (.int .i64 0))), some 18, some (14, false), false⟩, ⟨.mov 19 (.t 18), some 19, some (14, false), false⟩, ⟨.mov 20 (.t 2), some 20, some (19, true), false⟩, ⟨.bin 21 .eql (.t 20) (.k (.v (.int .i64 0))), some 21, some (19, true), false⟩, ⟨.pick 22 (.t 19) (.t 21) (.k (.v (.bool false))), some 22, some (14, false), false⟩, gi 23 (.pick 23 (.t 14) (.k (.v (.bool true))) (.t 22))]
def r_spec_planWidth_3 : List GI := [gi 6 (.mov 6 (.k (.v (.int .i64 0))))]
def r_spec_planWidth_4 : List GI := [gi 8 (.mov 8 (.k (.v (.int .i64 0))))]
def r_spec_planWidth_5 : List GI := [gi 24 (.mov 24 (.t 8)), gi 25 (.fad 25 3 4), gi 26 (.lod 26 25 none), gi 27 (.len 27 (.t 26)), gi 28 (.bin 28 .lss (.t 24) (.t 27))]
def r_spec_planWidth_6 : List GI := [gi 31 (.fad 31 3 4), gi 32 (.lod 32 31 none), gi 33 (.mov 33 (.t 8)), gi 34 (.iad 34 32 (.t 33) 5), gi 35 (.lod 35 34 (some 5)), gi 36 (.mov 36 (.t 1)), gi 37 (.mov 37 (.t 2)), gi 38 (.bin 38 .sub (.t 37) (.k (.v (.int .i64 1)))), ⟨.call 39 54 [.t 35, .t 36, .t 38], some 39, none, true⟩, gi 9 (.mov 9 (.t 39))]
def r_spec_planWidth_7 : List GI := [gi 40 (.mov 40 (.t 9)), gi 41 (.bin 41 .eql (.t 40) (.k (.v (.int .i64 0))))]
def r_spec_planWidth_8 : List GI := [gi 6 (.mov 6 (.k (.v (.int .i64 0))))]
def r_spec_planWidth_9 : List GI := [gi 42 (.mov 42 (.t 7)), gi 43 (.mov 43 (.t 9)), gi 44 (.bsl 44 1 none [.v (.int .i64 0)] [(0, .t 43)]), gi 45 (.app 45 2000045 (.t 42) (.t 44) 1 8), gi 7 (.mov 7 (.t 45))]
def r_spec_planWidth_10 : List GI := [gi 29 (.mov 29 (.t 8)), gi 30 (.bin 30 .add (.t 29) (.k (.v (.int .i64 1)))), gi 8 (.mov 8 (.t 30))]
def r_spec_planWidth_11 : List GI := [gi 46 (.fad 46 3 0), gi 47 (.lod 47 46 none)]
def r_spec_planWidth_12 : List GI := [gi 49 (.bin 49 .eql (.t 47) (.k (.v (.int .i64 1)))), gi 48 (.mov 48 (.t 49))]
def r_spec_planWidth_13 : List GI := [gi 50 (.fad 50 3 1), gi 51 (.lod 51 50 none), gi 52 (.mov 52 (.t 1)), gi 53 (.len 53 (.t 52)), gi 54 (.bin 54 .sub (.t 53) (.k (.v (.int .i64 1)))), ⟨.call 55 79 [.t 51, .k (.v (.int .i64 0)), .t 54], some 55, none, true⟩]
def r_spec_planWidth_14 : List GI := [gi 56 (.mov 56 (.t 1)), gi 57 (.fad 57 3 1), gi 58 (.lod 58 57 none), gi 59 (.iad 59 56 (.t 58) 1), gi 60 (.lod 60 59 none), gi 6 (.mov 6 (.t 60))]
def r_spec_planWidth_15 : List GI := [gi 62 (.bin 62 .eql (.t 47) (.k (.v (.int .i64 2)))), gi 61 (.mov 61 (.t 62))]
def r_spec_planWidth_16 : List GI := [gi 63 (.fad 63 3 2), gi 64 (.lod 64 63 none), gi 65 (.iad 65 64 (.k (.v (.int .i64 0))) 5), gi 66 (.lod 66 65 (some 5)), gi 67 (.mov 67 (.t 7)), gi 68 (.iad 68 67 (.k (.v (.int .i64 0))) 1), gi 69 (.lod 69 68 none), ⟨.call 70 81 [.t 66, .t 69], some 70, none, true⟩]
def r_spec_planWidth_17 : List GI := [gi 71 (.mov 71 (.t 7)), gi 72 (.iad 72 71 (.k (.v (.int .i64 0))) 1), gi 73 (.lod 73 72 none), gi 6 (.mov 6 (.t 73))]
def r_spec_planWidth_18 : List GI := [gi 75 (.bin 75 .eql (.t 47) (.k (.v (.int .i64 3)))), gi 74 (.mov 74 (.t 75))]
def r_spec_planWidth_19 : List GI := [gi 76 (.fad 76 3 2), gi 77 (.lod 77 76 none), gi 78 (.mov 78 (.t 7)), gi 79 (.iad 79 78 (.k (.v (.int .i64 0))) 1), gi 80 (.lod 80 79 none), ⟨.call 81 82 [.t 77, .t 80], some 81, none, true⟩, gi 6 (.mov 6 (.t 81))]
def r_spec_planWidth_20 : List GI := [gi 83 (.bin 83 .eql (.t 47) (.k (.v (.int .i64 4)))), gi 82 (.mov 82 (.t 83))]
def r_spec_planWidth_21 : List GI := [gi 84 (.bin 84 .eql (.t 47) (.k (.v (.int .i64 5)))), gi 82 (.mov 82 (.t 84))]
def r_spec_planWidth_22 : List GI := [gi 85 (.mov 85 (.t 7)), gi 86 (.iad 86 85 (.k (.v (.int .i64 0))) 1), gi 87 (.lod 87 86 none), gi 88 (.mov 88 (.t 7)), gi 89 (.iad 89 88 (.k (.v (.int .i64 1))) 1), gi 90 (.lod 90 89 none), gi 91 (.bin 91 .add (.t 87) (.t 90)), gi 92 (.bin 92 .leq (.t 91) (.k (.v (.int .i64 6)))), gi 93 (.mov 93 (.t 92)), ⟨.fad 94 3 2, some 94, some (93, true), false⟩, ⟨.lod 95 94 none, some 95, some (93, true), false⟩, ⟨.iad 96 95 (.k (.v (.int .i64 0))) 5, some 96, some (93, true), false⟩, ⟨.lod 97 96 (some 5), some 97, some (93, true), false⟩, ⟨.mov 98 (.t 7), some 98, some (93, true), false⟩, ⟨.iad 99 98 (.k (.v (.int .i64 0))) 1, some 99, some (93, true), false⟩, ⟨.lod 100 99 none, some 100, some (93, true), false⟩, ⟨.mov 101 (.t 7), some 101, some (93, true), false⟩, ⟨.iad 102 101 (.k (.v (.int .i64 1))) 1, some 102, some (93, true), false⟩, ⟨.lod 103 102 none, some 103, some (93, true), false⟩, ⟨.bin 104 .add (.t 100) (.t 103), some 104, some (93, true), false⟩, ⟨.call 105 81 [.t 97, .t 104], some 105, some (93, true), true⟩, gi 106 (.pick 106 (.t 93) (.t 105) (.k (.v (.bool false))))]
def r_spec_planWidth_23 : List GI := [gi 107 (.mov 107 (.t 7)), gi 108 (.iad 108 107 (.k (.v (.int .i64 0))) 1), gi 109 (.lod 109 108 none), gi 110 (.mov 110 (.t 7)), gi 111 (.iad 111 110 (.k (.v (.int .i64 1))) 1), gi 112 (.lod 112 111 none), gi 113 (.bin 113 .add (.t 109) (.t 112)), gi 6 (.mov 6 (.t 113))]
def r_spec_planWidth_24 : List GI := [gi 115 (.bin 115 .eql (.t 47) (.k (.v (.int .i64 6)))), gi 114 (.mov 114 (.t 115))]
def r_spec_planWidth_25 : List GI := [gi 116 (.mov 116 (.t 7)), gi 117 (.iad 117 116 (.k (.v (.int .i64 0))) 1), gi 118 (.lod 118 117 none), gi 119 (.mov 119 (.t 7)), gi 120 (.iad 120 119 (.k (.v (.int .i64 1))) 1), gi 121 (.lod 121 120 none), gi 122 (.bin 122 .eql (.t 118) (.t 121))]
def r_spec_planWidth_26 : List GI := [gi 123 (.mov 123 (.t 7)), gi 124 (.iad 124 123 (.k (.v (.int .i64 0))) 1), gi 125 (.lod 125 124 none), gi 6 (.mov 6 (.t 125))]
def r_spec_planWidth_27 : List GI := [gi 127 (.bin 127 .eql (.t 47) (.k (.v (.int .i64 7)))), gi 126 (.mov 126 (.t 127))]
def r_spec_planWidth_28 : List GI := [gi 128 (.mov 128 (.t 7)), gi 129 (.iad 129 128 (.k (.v (.int .i64 0))) 1), gi 130 (.lod 130 129 none), gi 6 (.mov 6 (.t 130))]
def r_spec_planWidth_29 : List GI := [gi 132 (.bin 132 .eql (.t 47) (.k (.v (.int .i64 8)))), gi 131 (.mov 131 (.t 132))]
def r_spec_planWidth_30 : List GI := [gi 133 (.fad 133 3 3), gi 134 (.lod 134 133 none), gi 135 (.mov 135 (.t 7)), gi 136 (.iad 136 135 (.k (.v (.int .i64 0))) 1), gi 137 (.lod 137 136 none), ⟨.call 138 83 [.t 134, .t 137], some 138, none, true⟩, gi 139 (.mov 139 (.t 138)), ⟨.fad 140 3 3, some 140, some (139, true), false⟩, ⟨.lod 141 140 none, some 141, some (139, true), false⟩, ⟨.len 142 (.t 141), some 142, some (139, true), false⟩, ⟨.bin 143 .lss (.t 142) (.k (.v (.int .i64 6))), some 143, some (139, true), false⟩, gi 144 (.pick 144 (.t 139) (.t 143) (.k (.v (.bool false))))]
def r_spec_planWidth_31 : List GI := [gi 145 (.fad 145 3 3), gi 146 (.lod 146 145 none), gi 147 (.len 147 (.t 146)), gi 148 (.bin 148 .add (.t 147) (.k (.v (.int .i64 1)))), gi 6 (.mov 6 (.t 148))]
def r_spec_planWidth_32 : List GI := [gi 6 (.mov 6 (.k (.v (.int .i64 0))))]
def dc_spec_planWidth : DC := .seq (.reg r_spec_planWidth_0 none) (.seq (.reg r_spec_planWidth_1 none) (.seq (.seq (.reg r_spec_planWidth_2 none) (.cond (.t 23) (.seq (.reg r_spec_planWidth_3 none) .ret) .skip)) (.seq (.seq (.reg r_spec_planWidth_4 none) (.block 0 (.loop (.seq (.seq (.reg r_spec_planWidth_5 none) (.cond (.t 28) .skip (.exit 0))) (.seq (.block 1 (.seq (.reg r_spec_planWidth_6 none) (.seq (.seq (.reg r_spec_planWidth_7 none) (.cond (.t 41) (.seq (.reg r_spec_planWidth_8 none) .ret) .skip)) (.reg r_spec_planWidth_9 none)))) (.reg r_spec_planWidth_10 none)))))) (.seq (.seq (.reg r_spec_planWidth_11 none) (.block 2 (.seq (.reg r_spec_planWidth_12 none) (.cond (.t 48) (.seq (.reg r_spec_planWidth_13 none) (.cond (.t 55) (.seq (.reg r_spec_planWidth_14 none) .ret) .skip)) (.seq (.reg r_spec_planWidth_15 none) (.cond (.t 61) (.seq (.reg r_spec_planWidth_16 (some [0, 1, 3, 7, 0, 16, 48, 127])) (.cond (.t 70) (.seq (.reg r_spec_planWidth_17 none) .ret) .skip)) (.seq (.reg r_spec_planWidth_18 none) (.cond (.t 74) (.seq (.reg r_spec_planWidth_19 (some [0, 1, 0, 4, 12, 31, 63])) .ret) (.seq (.seq (.reg r_spec_planWidth_20 none) (.cond (.t 82) .skip (.reg r_spec_planWidth_21 none))) (.cond (.t 82) (.seq (.reg r_spec_planWidth_22 (some [0, 1, 3, 0, 8, 24, 63, 127, 255, 511, 1023, 2047, 4095, 511, 8703, 25087, 511, 66047, 197119, 516607, 1048575, 2097151])) (.cond (.t 106) (.seq (.reg r_spec_planWidth_23 (some [0, 1, 3, 0, 8, 24, 63, 127])) .ret) .skip)) (.seq (.reg r_spec_planWidth_24 none) (.cond (.t 114) (.seq (.reg r_spec_planWidth_25 (some [0, 1, 3, 0, 8, 24, 63])) (.cond (.t 122) (.seq (.reg r_spec_planWidth_26 none) .ret) .skip)) (.seq (.reg r_spec_planWidth_27 none) (.cond (.t 126) (.seq (.reg r_spec_planWidth_28 none) .ret) (.seq (.reg r_spec_planWidth_29 none) (.cond (.t 131) (.seq (.reg r_spec_planWidth_30 (some [0, 1, 0, 4, 12, 31, 63, 127, 255, 511, 1023, 2047])) (.cond (.t 144) (.seq (.reg r_spec_planWidth_31 none) .ret) .skip)) .skip)))))))))))))))) (.seq (.reg r_spec_planWidth_32 none) .ret)))))
theorem c_spec_planWidth : cfun Try.prog [] 54 = some (149, dc_spec_planWidth, [(Res.tmp 6)]) := by kernel_rfl
end
end Go.Proofs.Ytpfedjaedlfdfaa
namespace Go.Proofs.Ytpfedjaedlfdfaa
open Go.RowKit
noncomputable section
def r_impl_fitsKids_0 : List GI := [gi 2 (.box 2 2000002 (.t 0) (some 5)), gi 4 (.mov 4 (.k (.v (.bool false))))]
def r_impl_fitsKids_1 : List GI := [gi 7 (.fad 7 2 0), gi 8 (.lod 8 7 none)]
def r_impl_fitsKids_2 : List GI := [gi 10 (.bin 10 .eql (.t 8) (.k (.v (.int .i64 6)))), gi 9 (.mov 9 (.t 10))]
def r_impl_fitsKids_3 : List GI := [gi 11 (.mov 11 (.t 1)), gi 12 (.iad 12 11 (.k (.v (.int .i64 0))) 1), gi 13 (.lod 13 12 none), gi 14 (.mov 14 (.t 1)), gi 15 (.iad 15 14 (.k (.v (.int .i64 1))) 1), gi 16 (.lod 16 15 none), gi 17 (.bin 17 .eql (.t 13) (.t 16)), gi 4 (.mov 4 (.t 17))]
def r_impl_fitsKids_4 : List GI := [gi 19 (.bin 19 .eql (.t 8) (.k (.v (.int .i64 8)))), gi 18 (.mov 18 (.t 19))]
def r_impl_fitsKids_5 : List GI := [gi 20 (.fad 20 2 3), gi 21 (.lod 21 20 none), gi 22 (.mov 22 (.t 1)), gi 23 (.iad 23 22 (.k (.v (.int .i64 0))) 1), gi 24 (.lod 24 23 none), ⟨.call 25 85 [.t 21, .t 24], some 25, none, true⟩, gi 4 (.mov 4 (.t 25))]
def r_impl_fitsKids_6 : List GI := [gi 26 (.fad 26 2 2), gi 27 (.lod 27 26 none), gi 28 (.len 28 (.t 27)), gi 29 (.mov 29 (.k (.v (.int .i64 0))))]
def r_impl_fitsKids_7 : List GI := [gi 30 (.bin 30 .lss (.t 29) (.t 28))]
def r_impl_fitsKids_8 : List GI := [gi 31 (.iad 31 27 (.t 29) 5), gi 32 (.lod 32 31 (some 5)), gi 6 (.alloc 6 2000006 [.v (.int .i64 0), .v (.int .i64 0), .v (.bool false), .v (.int .i64 0), .nul]), g0 (.sto 6 (.t 32) (some 5))]
def r_impl_fitsKids_9 : List GI := [gi 33 (.lod 33 6 (some 5)), gi 34 (.mov 34 (.t 1)), ⟨.call 35 87 [.t 34], some 35, none, true⟩, ⟨.call 36 86 [.t 33, .t 35], some 36, none, true⟩, gi 37 (.un 37 UnOp.not (.t 36))]
def r_impl_fitsKids_10 : List GI := [gi 4 (.mov 4 (.k (.v (.bool false))))]
def r_impl_fitsKids_11 : List GI := [gi 38 (.bin 38 .add (.t 29) (.k (.v (.int .i64 1)))), gi 29 (.mov 29 (.t 38))]
def r_impl_fitsKids_12 : List GI := [gi 4 (.mov 4 (.k (.v (.bool true))))]
def dc_impl_fitsKids : DC := .seq (.reg r_impl_fitsKids_0 none) (.seq (.seq (.reg r_impl_fitsKids_1 none) (.block 0 (.seq (.reg r_impl_fitsKids_2 none) (.cond (.t 9) (.seq (.reg r_impl_fitsKids_3 (some [0, 1, 3, 0, 8, 24, 63, 127])) .ret) (.seq (.reg r_impl_fitsKids_4 none) (.cond (.t 18) (.seq (.reg r_impl_fitsKids_5 (some [0, 1, 0, 4, 12, 31, 63])) .ret) .skip)))))) (.seq (.seq (.reg r_impl_fitsKids_6 none) (.block 1 (.loop (.seq (.reg r_impl_fitsKids_7 none) (.seq (.cond (.t 30) .skip (.exit 1)) (.seq (.block 2 (.seq (.reg r_impl_fitsKids_8 none) (.seq (.reg r_impl_fitsKids_9 (some [0, 0, 2, 7, 15])) (.cond (.t 37) (.seq (.reg r_impl_fitsKids_10 none) .ret) .skip)))) (.reg r_impl_fitsKids_11 none))))))) (.seq (.reg r_impl_fitsKids_12 none) .ret)))
theorem c_impl_fitsKids : cfun Try.prog [] 57 = some (39, dc_impl_fitsKids, [(Res.tmp 4)]) := by kernel_rfl
def r_impl_sumOf_0 : List GI := [gi 2 (.mov 2 (.k (.v (.int .i64 0))))]
def r_impl_sumOf_1 : List GI := [gi 3 (.mov 3 (.k (.v (.int .i64 0))))]
def r_impl_sumOf_2 : List GI := [gi 6 (.mov 6 (.t 0)), gi 7 (.len 7 (.t 6)), gi 8 (.mov 8 (.k (.v (.int .i64 0))))]
def r_impl_sumOf_3 : List GI := [gi 9 (.bin 9 .lss (.t 8) (.t 7))]
def r_impl_sumOf_4 : List GI := [gi 10 (.iad 10 6 (.t 8) 1), gi 11 (.lod 11 10 none), gi 5 (.mov 5 (.t 11))]
def r_impl_sumOf_5 : List GI := [gi 12 (.mov 12 (.t 3)), gi 13 (.mov 13 (.t 5)), gi 14 (.bin 14 .add (.t 12) (.t 13)), gi 3 (.mov 3 (.t 14))]
def r_impl_sumOf_6 : List GI := [gi 15 (.bin 15 .add (.t 8) (.k (.v (.int .i64 1)))), gi 8 (.mov 8 (.t 15))]
def r_impl_sumOf_7 : List GI := [gi 16 (.mov 16 (.t 3)), gi 2 (.mov 2 (.t 16))]
def dc_impl_sumOf : DC := .seq (.reg r_impl_sumOf_0 none) (.seq (.reg r_impl_sumOf_1 none) (.seq (.seq (.reg r_impl_sumOf_2 none) (.block 0 (.loop (.seq (.reg r_impl_sumOf_3 none) (.seq (.cond (.t 9) .skip (.exit 0)) (.seq (.block 1 (.seq (.reg r_impl_sumOf_4 none) (.reg r_impl_sumOf_5 none))) (.reg r_impl_sumOf_6 none))))))) (.seq (.reg r_impl_sumOf_7 none) .ret)))
theorem c_impl_sumOf : cfun Try.prog [] 87 = some (17, dc_impl_sumOf, [(Res.tmp 2)]) := by kernel_rfl
def r_impl_widthFrom_0 : List GI := [gi 2 (.box 2 2000002 (.t 0) (some 5)), gi 4 (.mov 4 (.k (.v (.int .i64 0))))]
def r_impl_widthFrom_1 : List GI := [gi 5 (.fad 5 2 0), gi 6 (.lod 6 5 none)]
def r_impl_widthFrom_2 : List GI := [gi 8 (.bin 8 .eql (.t 6) (.k (.v (.int .i64 3)))), gi 7 (.mov 7 (.t 8))]
def r_impl_widthFrom_3 : List GI := [gi 9 (.fad 9 2 2), gi 10 (.lod 10 9 none), gi 11 (.len 11 (.t 10)), gi 4 (.mov 4 (.t 11))]
def r_impl_widthFrom_4 : List GI := [gi 13 (.bin 13 .eql (.t 6) (.k (.v (.int .i64 4)))), gi 12 (.mov 12 (.t 13))]
def r_impl_widthFrom_5 : List GI := [gi 14 (.bin 14 .eql (.t 6) (.k (.v (.int .i64 5)))), gi 12 (.mov 12 (.t 14))]
def r_impl_widthFrom_6 : List GI := [gi 15 (.mov 15 (.t 1)), ⟨.call 16 87 [.t 15], some 16, none, true⟩, gi 4 (.mov 4 (.t 16))]
def r_impl_widthFrom_7 : List GI := [gi 18 (.bin 18 .eql (.t 6) (.k (.v (.int .i64 8)))), gi 17 (.mov 17 (.t 18))]
def r_impl_widthFrom_8 : List GI := [gi 19 (.fad 19 2 3), gi 20 (.lod 20 19 none), gi 21 (.len 21 (.t 20)), gi 22 (.bin 22 .add (.t 21) (.k (.v (.int .i64 1)))), gi 4 (.mov 4 (.t 22))]
def r_impl_widthFrom_9 : List GI := [gi 23 (.mov 23 (.t 1)), gi 24 (.iad 24 23 (.k (.v (.int .i64 0))) 1), gi 25 (.lod 25 24 none), gi 4 (.mov 4 (.t 25))]
def dc_impl_widthFrom : DC := .seq (.reg r_impl_widthFrom_0 none) (.seq (.seq (.reg r_impl_widthFrom_1 none) (.block 0 (.seq (.reg r_impl_widthFrom_2 none) (.cond (.t 7) (.seq (.reg r_impl_widthFrom_3 none) .ret) (.seq (.seq (.reg r_impl_widthFrom_4 none) (.cond (.t 12) .skip (.reg r_impl_widthFrom_5 none))) (.cond (.t 12) (.seq (.reg r_impl_widthFrom_6 none) .ret) (.seq (.reg r_impl_widthFrom_7 none) (.cond (.t 17) (.seq (.reg r_impl_widthFrom_8 none) .ret) .skip)))))))) (.seq (.reg r_impl_widthFrom_9 none) .ret))
theorem c_impl_widthFrom : cfun Try.prog [] 58 = some (26, dc_impl_widthFrom, [(Res.tmp 4)]) := by kernel_rfl
end
end Go.Proofs.Ytpfedjaedlfdfaa

/-
  Functions of the program read as code on plain data. Closed facts of the program alone.
-/
import Derived.Test.YtikbhimnniapdaaRows
import Derived.Test.YtikbhimnniapdaaVLib
import Derived.KernelRfl
namespace Go.Proofs.Ytikbhimnniapdaa
open Go.RowKit
noncomputable section
def r_laws_szValueS_0 : List GI := [(GI.mk (In.mov 4 (Opd.k (D.v (Value.int IntKind.i64 0)))) (some 4) none false)]
def r_laws_szValueS_1 : List GI := [(GI.mk (In.mov 5 (Opd.t 1)) (some 5) none false), (GI.mk (In.mov 6 (Opd.t 0)) (some 6) none false), (GI.mk (In.len 7 (Opd.t 6)) (some 7) none false), (GI.mk (In.bin 8 BinOp.sub (Opd.t 5) (Opd.t 7)) (some 8) none false), (GI.mk (In.mov 1 (Opd.t 8)) (some 1) none false)]
def r_laws_szValueS_2 : List GI := [(GI.mk (In.mov 9 (Opd.t 1)) (some 9) none false), (GI.mk (In.bin 10 BinOp.lss (Opd.t 9) (Opd.k (D.v (Value.int IntKind.i64 0)))) (some 10) none false)]
def r_laws_szValueS_3 : List GI := [(GI.mk (In.mov 4 (Opd.k (D.v (Value.int IntKind.i64 (-1))))) (some 4) none false)]
def r_laws_szValueS_4 : List GI := [(GI.mk (In.mov 11 (Opd.t 1)) (some 11) none false), (GI.mk (In.mov 4 (Opd.t 11)) (some 4) none false)]
def dc_laws_szValueS : DC := (DC.seq (DC.reg r_laws_szValueS_0 none) (DC.seq (DC.reg r_laws_szValueS_1 none) (DC.seq (DC.seq (DC.reg r_laws_szValueS_2 none) (DC.cond (Opd.t 10) (DC.seq (DC.reg r_laws_szValueS_3 none) DC.ret) DC.skip)) (DC.seq (DC.reg r_laws_szValueS_4 none) DC.ret))))
theorem c_laws_szValueS : cfun Try.prog [] 15 = some (12, dc_laws_szValueS, [(Res.tmp 4)]) := by kernel_rfl
def r_laws_toValueS_0 : List GI := [(GI.mk (In.mov 2 (Opd.k D.nul)) (some 2) none false)]
def r_laws_toValueS_1 : List GI := [(GI.mk (In.mov 5 (Opd.t 0)) (some 5) none false), (GI.mk (In.len 6 (Opd.t 5)) (some 6) none false), (GI.mk (In.mks 7 2000007 (Opd.t 6) 2 16 (D.agg [(D.v (Value.bool false)), (D.v (Value.int IntKind.i64 0))])) (some 7) none false), (GI.mk (In.mov 3 (Opd.t 7)) (some 3) none false)]
def r_laws_toValueS_2 : List GI := [(GI.mk (In.mov 4 (Opd.k (D.v (Value.int IntKind.i64 0)))) (some 4) none false)]
def r_laws_toValueS_3 : List GI := [(GI.mk (In.mov 8 (Opd.t 4)) (some 8) none false), (GI.mk (In.mov 9 (Opd.t 0)) (some 9) none false), (GI.mk (In.len 10 (Opd.t 9)) (some 10) none false), (GI.mk (In.bin 11 BinOp.lss (Opd.t 8) (Opd.t 10)) (some 11) none false)]
def r_laws_toValueS_4 : List GI := [(GI.mk (In.mov 14 (Opd.t 3)) (some 14) none false), (GI.mk (In.mov 15 (Opd.t 4)) (some 15) none false), (GI.mk (In.mov 16 (Opd.t 0)) (some 16) none false), (GI.mk (In.mov 17 (Opd.t 4)) (some 17) none false), (GI.mk (In.iad 18 16 (Opd.t 17) 2) (some 18) none false), (GI.mk (In.lod 19 18 (some 2)) (some 19) none false), (GI.mk (In.call 20 19 [(Opd.t 19)]) (some 20) none true), (GI.mk (In.iad 21 14 (Opd.t 15) 2) (some 21) none false), (GI.mk (In.sto 21 (Opd.t 20) (some 2)) none none false)]
def r_laws_toValueS_5 : List GI := [(GI.mk (In.mov 12 (Opd.t 4)) (some 12) none false), (GI.mk (In.bin 13 BinOp.add (Opd.t 12) (Opd.k (D.v (Value.int IntKind.i64 1)))) (some 13) none false), (GI.mk (In.mov 4 (Opd.t 13)) (some 4) none false)]
def r_laws_toValueS_6 : List GI := [(GI.mk (In.mov 22 (Opd.t 3)) (some 22) none false), (GI.mk (In.mov 2 (Opd.t 22)) (some 2) none false)]
def dc_laws_toValueS : DC := (DC.seq (DC.reg r_laws_toValueS_0 none) (DC.seq (DC.reg r_laws_toValueS_1 none) (DC.seq (DC.seq (DC.reg r_laws_toValueS_2 none) (DC.block 0 (DC.loop (DC.seq (DC.seq (DC.reg r_laws_toValueS_3 none) (DC.cond (Opd.t 11) DC.skip (DC.exit 0))) (DC.seq (DC.block 1 (DC.reg r_laws_toValueS_4 none)) (DC.reg r_laws_toValueS_5 none)))))) (DC.seq (DC.reg r_laws_toValueS_6 none) DC.ret))))
theorem c_laws_toValueS : cfun Try.prog [] 16 = some (23, dc_laws_toValueS, [(Res.tmp 2)]) := by kernel_rfl
def r_laws_eqValue_0 : List GI := [(GI.mk (In.box 2 2000002 (Opd.t 0) (some 2)) (some 2) none false), (GI.mk (In.box 3 2000003 (Opd.t 1) (some 2)) (some 3) none false), (GI.mk (In.mov 4 (Opd.k (D.v (Value.bool false)))) (some 4) none false)]
def r_laws_eqValue_1 : List GI := [(GI.mk (In.fad 5 2 0) (some 5) none false), (GI.mk (In.lod 6 5 none) (some 6) none false), (GI.mk (In.fad 7 3 0) (some 7) none false), (GI.mk (In.lod 8 7 none) (some 8) none false), (GI.mk (In.beq 9 true (Opd.t 6) (Opd.t 8)) (some 9) none false)]
def r_laws_eqValue_2 : List GI := [(GI.mk (In.mov 4 (Opd.k (D.v (Value.bool false)))) (some 4) none false)]
def r_laws_eqValue_3 : List GI := [(GI.mk (In.fad 10 2 1) (some 10) none false), (GI.mk (In.lod 11 10 none) (some 11) none false), (GI.mk (In.fad 12 3 1) (some 12) none false), (GI.mk (In.lod 13 12 none) (some 13) none false), (GI.mk (In.bin 14 BinOp.neq (Opd.t 11) (Opd.t 13)) (some 14) none false)]
def r_laws_eqValue_4 : List GI := [(GI.mk (In.mov 4 (Opd.k (D.v (Value.bool false)))) (some 4) none false)]
def r_laws_eqValue_5 : List GI := [(GI.mk (In.mov 4 (Opd.k (D.v (Value.bool true)))) (some 4) none false)]
def dc_laws_eqValue : DC := (DC.seq (DC.reg r_laws_eqValue_0 none) (DC.seq (DC.seq (DC.reg r_laws_eqValue_1 none) (DC.cond (Opd.t 9) (DC.seq (DC.reg r_laws_eqValue_2 none) DC.ret) DC.skip)) (DC.seq (DC.seq (DC.reg r_laws_eqValue_3 none) (DC.cond (Opd.t 14) (DC.seq (DC.reg r_laws_eqValue_4 none) DC.ret) DC.skip)) (DC.seq (DC.reg r_laws_eqValue_5 none) DC.ret))))
theorem c_laws_eqValue : cfun Try.prog [] 17 = some (15, dc_laws_eqValue, [(Res.tmp 4)]) := by kernel_rfl
def r_laws_eqValueS_0 : List GI := [(GI.mk (In.mov 4 (Opd.k (D.v (Value.bool false)))) (some 4) none false)]
def r_laws_eqValueS_1 : List GI := [(GI.mk (In.mov 6 (Opd.t 0)) (some 6) none false), (GI.mk (In.len 7 (Opd.t 6)) (some 7) none false), (GI.mk (In.mov 8 (Opd.t 1)) (some 8) none false), (GI.mk (In.len 9 (Opd.t 8)) (some 9) none false), (GI.mk (In.bin 10 BinOp.neq (Opd.t 7) (Opd.t 9)) (some 10) none false)]
def r_laws_eqValueS_2 : List GI := [(GI.mk (In.mov 4 (Opd.k (D.v (Value.bool false)))) (some 4) none false)]
def r_laws_eqValueS_3 : List GI := [(GI.mk (In.mov 5 (Opd.k (D.v (Value.int IntKind.i64 0)))) (some 5) none false)]
def r_laws_eqValueS_4 : List GI := [(GI.mk (In.mov 11 (Opd.t 5)) (some 11) none false), (GI.mk (In.mov 12 (Opd.t 0)) (some 12) none false), (GI.mk (In.len 13 (Opd.t 12)) (some 13) none false), (GI.mk (In.bin 14 BinOp.lss (Opd.t 11) (Opd.t 13)) (some 14) none false)]
def r_laws_eqValueS_5 : List GI := [(GI.mk (In.mov 17 (Opd.t 0)) (some 17) none false), (GI.mk (In.mov 18 (Opd.t 5)) (some 18) none false), (GI.mk (In.iad 19 17 (Opd.t 18) 2) (some 19) none false), (GI.mk (In.lod 20 19 (some 2)) (some 20) none false), (GI.mk (In.mov 21 (Opd.t 1)) (some 21) none false), (GI.mk (In.mov 22 (Opd.t 5)) (some 22) none false), (GI.mk (In.iad 23 21 (Opd.t 22) 2) (some 23) none false), (GI.mk (In.lod 24 23 (some 2)) (some 24) none false), (GI.mk (In.call 25 17 [(Opd.t 20), (Opd.t 24)]) (some 25) none true), (GI.mk (In.un 26 UnOp.not (Opd.t 25)) (some 26) none false)]
def r_laws_eqValueS_6 : List GI := [(GI.mk (In.mov 4 (Opd.k (D.v (Value.bool false)))) (some 4) none false)]
def r_laws_eqValueS_7 : List GI := [(GI.mk (In.mov 15 (Opd.t 5)) (some 15) none false), (GI.mk (In.bin 16 BinOp.add (Opd.t 15) (Opd.k (D.v (Value.int IntKind.i64 1)))) (some 16) none false), (GI.mk (In.mov 5 (Opd.t 16)) (some 5) none false)]
def r_laws_eqValueS_8 : List GI := [(GI.mk (In.mov 4 (Opd.k (D.v (Value.bool true)))) (some 4) none false)]
def dc_laws_eqValueS : DC := (DC.seq (DC.reg r_laws_eqValueS_0 none) (DC.seq (DC.seq (DC.reg r_laws_eqValueS_1 none) (DC.cond (Opd.t 10) (DC.seq (DC.reg r_laws_eqValueS_2 none) DC.ret) DC.skip)) (DC.seq (DC.seq (DC.reg r_laws_eqValueS_3 none) (DC.block 0 (DC.loop (DC.seq (DC.seq (DC.reg r_laws_eqValueS_4 none) (DC.cond (Opd.t 14) DC.skip (DC.exit 0))) (DC.seq (DC.block 1 (DC.seq (DC.reg r_laws_eqValueS_5 (some [0, 0, 3, 7, 0, 0, 48, 112, 255, 511])) (DC.cond (Opd.t 26) (DC.seq (DC.reg r_laws_eqValueS_6 none) DC.ret) DC.skip))) (DC.reg r_laws_eqValueS_7 none)))))) (DC.seq (DC.reg r_laws_eqValueS_8 none) DC.ret))))
theorem c_laws_eqValueS : cfun Try.prog [] 18 = some (27, dc_laws_eqValueS, [(Res.tmp 4)]) := by kernel_rfl
def r_laws_toValue_0 : List GI := [(GI.mk (In.box 1 2000001 (Opd.t 0) (some 2)) (some 1) none false), (GI.mk (In.alloc 2 2000002 [(D.v (Value.bool false)), (D.v (Value.int IntKind.i64 0))]) (some 2) none false)]
def r_laws_toValue_1 : List GI := [(GI.mk (In.alloc 3 2000003 [(D.v (Value.bool false)), (D.v (Value.int IntKind.i64 0))]) (some 3) none false)]
def r_laws_toValue_2 : List GI := [(GI.mk (In.fad 4 1 0) (some 4) none false), (GI.mk (In.lod 5 4 none) (some 5) none false), (GI.mk (In.fad 6 3 0) (some 6) none false), (GI.mk (In.sto 6 (Opd.t 5) none) none none false)]
def r_laws_toValue_3 : List GI := [(GI.mk (In.fad 7 1 1) (some 7) none false), (GI.mk (In.lod 8 7 none) (some 8) none false), (GI.mk (In.fad 9 3 1) (some 9) none false), (GI.mk (In.sto 9 (Opd.t 8) none) none none false)]
def r_laws_toValue_4 : List GI := [(GI.mk (In.lod 10 3 (some 2)) (some 10) none false), (GI.mk (In.sto 2 (Opd.t 10) (some 2)) none none false)]
def dc_laws_toValue : DC := (DC.seq (DC.reg r_laws_toValue_0 none) (DC.seq (DC.reg r_laws_toValue_1 none) (DC.seq (DC.reg r_laws_toValue_2 none) (DC.seq (DC.reg r_laws_toValue_3 none) (DC.seq (DC.reg r_laws_toValue_4 none) DC.ret)))))
theorem c_laws_toValue : cfun Try.prog [] 19 = some (11, dc_laws_toValue, [(Res.cell 2 (some 2))]) := by kernel_rfl
end
end Go.Proofs.Ytikbhimnniapdaa

/-
  Functions of the program read as code on plain data. Closed facts of the program alone.
-/
import Derived.Test.YtpmmagnphfcdnaaRows
import Derived.Test.YtpmmagnphfcdnaaVLib
import Derived.KernelRfl
namespace Go.Proofs.Ytpmmagnphfcdnaa
open Go.RowKit
noncomputable section
def r_impl_pconstantNumberer_next_0 : List GI := [⟨.mov 2 (.k (.v (.int .i64 0))), some 2, none, false⟩]
def r_impl_pconstantNumberer_next_1 : List GI := [⟨.mov 3 (.t 0), some 3, none, false⟩, ⟨.nilc 4 3, some 4, none, false⟩, ⟨.fad 5 4 0, some 5, none, false⟩, ⟨.lod 6 5 none, some 6, none, false⟩, ⟨.mov 7 (.t 0), some 7, none, false⟩, ⟨.nilc 8 7, some 8, none, false⟩, ⟨.fad 9 8 1, some 9, none, false⟩, ⟨.lod 10 9 none, some 10, none, false⟩, ⟨.len 11 (.t 10), some 11, none, false⟩, ⟨.bin 12 .add (.t 6) (.t 11), some 12, none, false⟩, ⟨.mov 2 (.t 12), some 2, none, false⟩]
def dc_impl_pconstantNumberer_next : DC := .seq (.reg r_impl_pconstantNumberer_next_0 none) (.seq (.reg r_impl_pconstantNumberer_next_1 (some [0, 1, 3, 7, 0, 16, 48, 112, 240, 511, 1023])) .ret)
theorem c_impl_pconstantNumberer_next : cfun Try.prog [] 25 = some (13, dc_impl_pconstantNumberer_next, [(Res.tmp 2)]) := by kernel_rfl
def r_impl_pconstantNumberer_visit_0 : List GI := [⟨.box 3 2000003 (.t 1) (some 5), some 3, none, false⟩, ⟨.alloc 4 2000004 [.v (.int .i64 0), .v (.int .i64 0), .v (.bool false), .v (.int .i64 0), .nul], some 4, none, false⟩]
def r_impl_pconstantNumberer_visit_1 : List GI := [⟨.fad 6 3 0, some 6, none, false⟩, ⟨.lod 7 6 none, some 7, none, false⟩, ⟨.bin 8 .neq (.t 7) (.k (.v (.int .i64 2))), some 8, none, false⟩]
def r_impl_pconstantNumberer_visit_2 : List GI := [⟨.lod 9 3 (some 5), some 9, none, false⟩, ⟨.sto 4 (.t 9) (some 5), none, none, false⟩]
def r_impl_pconstantNumberer_visit_3 : List GI := [⟨.mov 10 (.t 0), some 10, none, false⟩, ⟨.call 11 25 [.t 10], some 11, none, true⟩, ⟨.build 12 [.v (.int .i64 0), .v (.int .i64 0), .v (.bool false), .v (.int .i64 0), .nul] [(0, (none, .k (.v (.int .i64 1)))), (1, (none, .t 11))], some 12, none, false⟩, ⟨.alloc 5 2000005 [.v (.int .i64 0), .v (.int .i64 0), .v (.bool false), .v (.int .i64 0), .nul], some 5, none, false⟩, ⟨.sto 5 (.t 12) (some 5), none, none, false⟩]
def r_impl_pconstantNumberer_visit_4 : List GI := [⟨.mov 13 (.t 0), some 13, none, false⟩, ⟨.mov 14 (.t 0), some 14, none, false⟩, ⟨.nilc 15 14, some 15, none, false⟩, ⟨.fad 16 15 1, some 16, none, false⟩, ⟨.lod 17 16 none, some 17, none, false⟩, ⟨.fad 18 3 2, some 18, none, false⟩, ⟨.lod 19 18 (some 2), some 19, none, false⟩, ⟨.bsl 20 2 (some 2) [.agg [.v (.bool false), .v (.int .i64 0)]] [(0, .t 19)], some 20, none, false⟩, ⟨.app 21 2000021 (.t 17) (.t 20) 2 16, some 21, none, false⟩, ⟨.nilc 22 13, some 22, none, false⟩, ⟨.fad 23 22 1, some 23, none, false⟩, ⟨.sto 23 (.t 21) none, none, none, false⟩]
def r_impl_pconstantNumberer_visit_5 : List GI := [⟨.lod 24 5 (some 5), some 24, none, false⟩, ⟨.sto 4 (.t 24) (some 5), none, none, false⟩]
def dc_impl_pconstantNumberer_visit : DC := .seq (.reg r_impl_pconstantNumberer_visit_0 none) (.seq (.seq (.reg r_impl_pconstantNumberer_visit_1 none) (.cond (.t 8) (.seq (.reg r_impl_pconstantNumberer_visit_2 none) .ret) .skip)) (.seq (.reg r_impl_pconstantNumberer_visit_3 none) (.seq (.reg r_impl_pconstantNumberer_visit_4 (some [0, 0, 2, 6, 14, 0, 32, 96, 254, 511, 1023, 2047])) (.seq (.reg r_impl_pconstantNumberer_visit_5 none) .ret))))
theorem c_impl_pconstantNumberer_visit : cfun Try.prog [] 70 = some (25, dc_impl_pconstantNumberer_visit, [(Res.cell 4 (some 5))]) := by kernel_rfl
end
end Go.Proofs.Ytpmmagnphfcdnaa

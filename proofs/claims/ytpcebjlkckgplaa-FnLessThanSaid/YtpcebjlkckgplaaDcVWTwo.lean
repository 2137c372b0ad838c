/-
  Functions of the program read as code on plain data. Closed facts of the program alone.
-/
import Derived.Test.YtpcebjlkckgplaaRows
import Derived.Test.YtpcebjlkckgplaaVLib
import Derived.KernelRfl
namespace Go.Proofs.Ytpcebjlkckgplaa
open Go.RowKit
noncomputable section
def r_laws_not_0 : List GI := [⟨.box 1 2000001 (.t 0) (some 5), some 1, none, false⟩, ⟨.alloc 2 2000002 [.v (.int .i64 0), .v (.int .i64 0), .v (.bool false), .v (.int .i64 0), .nul], some 2, none, false⟩]
def r_laws_not_1 : List GI := [⟨.lod 3 1 (some 5), some 3, none, false⟩, ⟨.bsl 4 5 (some 5) [.agg [.v (.int .i64 0), .v (.int .i64 0), .v (.bool false), .v (.int .i64 0), .nul]] [(0, .t 3)], some 4, none, false⟩, ⟨.build 5 [.v (.int .i64 0), .v (.int .i64 0), .v (.bool false), .v (.int .i64 0), .nul] [(0, (none, .k (.v (.int .i64 10)))), (4, (none, .t 4))], some 5, none, false⟩, ⟨.sto 2 (.t 5) (some 5), none, none, false⟩]
def dc_laws_not : DC := .seq (.reg r_laws_not_0 none) (.seq (.reg r_laws_not_1 none) .ret)
theorem c_laws_not : cfun Try.prog [] 19 = some (6, dc_laws_not, [(Res.cell 2 (some 5))]) := by kernel_rfl
def r_laws_two_0 : List GI := [⟨.box 4 2000004 (.t 1) (some 5), some 4, none, false⟩, ⟨.box 5 2000005 (.t 2) (some 5), some 5, none, false⟩, ⟨.alloc 6 2000006 [.v (.int .i64 0), .v (.int .i64 0), .v (.bool false), .v (.int .i64 0), .nul], some 6, none, false⟩]
def r_laws_two_1 : List GI := [⟨.mov 7 (.t 0), some 7, none, false⟩, ⟨.lod 8 4 (some 5), some 8, none, false⟩, ⟨.lod 9 5 (some 5), some 9, none, false⟩, ⟨.bsl 10 5 (some 5) [.agg [.v (.int .i64 0), .v (.int .i64 0), .v (.bool false), .v (.int .i64 0), .nul], .agg [.v (.int .i64 0), .v (.int .i64 0), .v (.bool false), .v (.int .i64 0), .nul]] [(0, .t 8), (1, .t 9)], some 10, none, false⟩, ⟨.build 11 [.v (.int .i64 0), .v (.int .i64 0), .v (.bool false), .v (.int .i64 0), .nul] [(0, (none, .t 7)), (4, (none, .t 10))], some 11, none, false⟩, ⟨.sto 6 (.t 11) (some 5), none, none, false⟩]
def dc_laws_two : DC := .seq (.reg r_laws_two_0 none) (.seq (.reg r_laws_two_1 none) .ret)
theorem c_laws_two : cfun Try.prog [] 18 = some (12, dc_laws_two, [(Res.cell 6 (some 5))]) := by kernel_rfl
end
end Go.Proofs.Ytpcebjlkckgplaa

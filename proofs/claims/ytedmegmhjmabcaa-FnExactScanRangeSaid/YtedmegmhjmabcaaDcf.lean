/-
  Functions of the program read as code on plain data. Closed facts of the program alone.
-/
import Derived.Test.YtedmegmhjmabcaaRows
import Derived.Test.YtedmegmhjmabcaaVLib
import Derived.KernelRfl
namespace Go.Proofs.Ytedmegmhjmabcaa
open Go.RowKit
noncomputable section
def r_laws_toRange_0 : List GI := [⟨.box 1 2000001 (.t 0) (some 2), some 1, none, false⟩, ⟨.alloc 2 2000002 [.v (.int .i64 0), .v (.int .i64 0)], some 2, none, false⟩]
def r_laws_toRange_1 : List GI := [⟨.alloc 3 2000003 [.v (.int .i64 0), .v (.int .i64 0)], some 3, none, false⟩]
def r_laws_toRange_2 : List GI := [⟨.fad 4 1 0, some 4, none, false⟩, ⟨.lod 5 4 none, some 5, none, false⟩, ⟨.fad 6 3 0, some 6, none, false⟩, ⟨.sto 6 (.t 5) none, none, none, false⟩]
def r_laws_toRange_3 : List GI := [⟨.fad 7 1 1, some 7, none, false⟩, ⟨.lod 8 7 none, some 8, none, false⟩, ⟨.fad 9 3 1, some 9, none, false⟩, ⟨.sto 9 (.t 8) none, none, none, false⟩]
def r_laws_toRange_4 : List GI := [⟨.lod 10 3 (some 2), some 10, none, false⟩, ⟨.sto 2 (.t 10) (some 2), none, none, false⟩]
def dc_laws_toRange : DC := .seq (.reg r_laws_toRange_0 none) (.seq (.reg r_laws_toRange_1 none) (.seq (.reg r_laws_toRange_2 none) (.seq (.reg r_laws_toRange_3 none) (.seq (.reg r_laws_toRange_4 none) .ret))))
theorem c_laws_toRange : cfun Try.prog [] 25 = some (11, dc_laws_toRange, [(Res.cell 2 (some 2))]) := by kernel_rfl
end
end Go.Proofs.Ytedmegmhjmabcaa

/-
  Drawn tables. No condition.
-/
import Derived.Test.YtedmegmhjmabcaaKSVDrawTb
set_option maxHeartbeats 4000000
set_option maxRecDepth 100000
set_option linter.unusedVariables false
set_option linter.unusedSimpArgs false
namespace Go.Proofs.Ytedmegmhjmabcaa
open Go.RowKit
theorem rsz_le {k : Nat} : ∀ l : List (List V),(∀ r,r ∈ l → r.length ≤ k) → rsz l ≤ l.length * (k + 1)
 | [],_=>Nat.zero_le _
 | a :: l,h=>by
  have h1:=h a (List.mem_cons_self ..)
  have h2:=rsz_le l (fun r hr=>h r (List.mem_cons_of_mem _ hr))
  rw [rsz,List.length_cons,Nat.add_mul]
  omega
structure NearT (w m : Nat) (t : Ta) : Prop where
 len : t.rows.length ≤ m + 1
 row : ∀ r,r ∈ t.rows → r.length ≤ w + 7
theorem NearT.sz {w m : Nat} {t : Ta} (h : NearT w m t) (hw : w ≤ 100) (hm : m ≤ 100) : rsz t.rows ≤ 20000:=by
 have h1:=rsz_le t.rows h.row
 have h2:=h.len
 have h3 : t.rows.length * (w + 7 + 1) ≤ 101 * 108:=Nat.mul_le_mul (by omega) (by omega)
 omega
end Go.Proofs.Ytedmegmhjmabcaa

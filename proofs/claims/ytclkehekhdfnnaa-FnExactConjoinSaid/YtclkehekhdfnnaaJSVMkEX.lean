/-
  Lists of expressions copied by the laws, marked and looked at. No condition.
-/
import Derived.Test.YtclkehekhdfnnaaKSVMkH
import Derived.Test.YtclkehekhdfnnaaKSVMix
import Derived.Test.YtclkehekhdfnnaaKSDca
import Derived.Test.YtclkehekhdfnnaaKSDcd
import Derived.Test.YtclkehekhdfnnaaKSVLend
import Derived.Test.YtclkehekhdfnnaaJSVInt
import Derived.Test.YtclkehekhdfnnaaJSVSzW
import Derived.Test.YtclkehekhdfnnaaJSVBit
import Derived.Test.YtclkehekhdfnnaaJSVLib
import Derived.Test.YtclkehekhdfnnaaKSVLawX
import Derived.Test.YtclkehekhdfnnaaKSVMkX
import Derived.Test.YtclkehekhdfnnaaKSVGtE
import Derived.Test.YtclkehekhdfnnaaKSVClN
set_option maxHeartbeats 4000000
set_option maxRecDepth 100000
set_option linter.unusedVariables false
set_option linter.unusedSimpArgs false
namespace Go.Proofs.Ytclkehekhdfnnaa
open Go.RowKit
theorem toExprS_rcG (l : List E) (hl : eszL l ≤ 1048576) : RCalls Try.prog 19 [] [.sl 5 (l.map eD)] [⟨0,5,l.map eD⟩] (nE l) (kD 0 5 (l.map eD)):=by
 by_cases h0 : l = []
 ·subst h0
  exact rcalls_nil (toExprS_ok [] (by decide) (fun x hx=>(by cases hx))) rfl rfl (fun it hit=>by obtain rfl:=List.mem_singleton.1 hit; rfl)
 ·have h:=toExprS_rc l hl h0 (fun x hx=>toExpr_rc x (by have:=eszL_mem hx; omega))
  unfold nE
  rw [if_neg h0]
  exact h
theorem markExprS_rcG (l : List E) (k : Int) (hk : 0 ≤ k ∧ k + 4 * eszL l ≤ 1099511627776) (hl : eszL l ≤ 1048576) : RCalls Try.prog 22 [⟨0,5,l.map eD⟩] [kD 0 5 (l.map eD),I k] [⟨0,5,(mkEL l k).map eD⟩] 1 (I (k + 4 * eszL l)):=by
 by_cases h0 : l = []
 ·subst h0
  have h:=rcalls_nilP (pre:=[⟨0,5,[]⟩]) (post:=[⟨0,5,[]⟩]) (markExprS_nil k) rfl rfl (fun it hit=>by obtain rfl:=List.mem_singleton.1 hit; rfl)
  rw [show k + 4 * ((eszL [] : Nat) : Int) = k by rw [eszL]; omega]
  exact h
 ·have hm0 : l.map eD ≠ []:=fun h=>h0 (List.map_eq_nil_iff.1 h)
  have hkD : kD 0 5 (l.map eD) = .kow 0 5 l.length:=by unfold kD; rw [if_neg hm0,List.length_map]
  rw [hkD]
  refine markExprS_rcS l h0 k hk hl (fun x hx k hk hx0=>markExprS_rc x hx0 k hk ?_) (fun k _=>markExprS_nil k)
  have h1:=eszL_mem hx
  have h2:=esz_eq x
  omega
end Go.Proofs.Ytclkehekhdfnnaa
set_option maxHeartbeats 4000000
set_option maxRecDepth 100000
set_option linter.unusedVariables false
set_option linter.unusedSimpArgs false
namespace Go.Proofs.Ytclkehekhdfnnaa
open Go.RowKit
theorem eK_lent {its : List It} {κ : Nat} {e : E} (h : ⟨κ,5,e.ks.map eD⟩ ∈ its) : LentK its (eK κ e) (.agg [I e.k,I e.c,Bo e.v.b,I e.v.n,.sl 5 (e.ks.map eD)]):=by
 exact LentK.aggL ⟨.same _ rfl,.same _ rfl,.same _ rfl,.same _ rfl,LentK.kD h,trivial⟩
theorem eK_lentM {its : List It} {κ : Nat} {e : E} {k : Int} (h : ⟨κ,5,(mkEL e.ks k).map eD⟩ ∈ its) : LentK its (eK κ e) (.agg [I e.k,I e.c,Bo e.v.b,I e.v.n,.sl 5 ((mkEL e.ks k).map eD)]):=by
 unfold eK
 rw [← kD_lenE (es:=(mkEL e.ks k).map eD) (es':=e.ks.map eD) (by rw [List.length_map,List.length_map,mkEL_len]) κ 5]
 exact LentK.aggL ⟨.same _ rfl,.same _ rfl,.same _ rfl,.same _ rfl,LentK.kD h,trivial⟩
theorem eA_pur (e : E) : (D.agg [I e.k,I e.c,Bo e.v.b,I e.v.n,.sl 5 (e.ks.map eD)]).pur = true:=rfl
theorem esPur (l : List E) : (D.sl 5 (l.map eD)).pur = true:=rfl
theorem eqExpr_okA (e : E) (h : esz e ≤ 1048577) : Does Try.prog 13 [] [.agg [I e.k,I e.c,Bo e.v.b,I e.v.n,.sl 5 (e.ks.map eD)],.agg [I e.k,I e.c,Bo e.v.b,I e.v.n,.sl 5 (e.ks.map eD)]] (Bo true) []:=by
 have:=eqExpr_ok e h
 rwa [eD_eq] at this
theorem eK_scal (κ : Nat) (e : E) : (eK κ e).scalK = true:=by
 unfold eK
 simp only [D.scalK,D.scalKL,kD_scalK]
 rfl
end Go.Proofs.Ytclkehekhdfnnaa

/-
  Expressions copied by the laws: trees of one's own. No condition.
-/
import Derived.Test.YtedmegmhjmabcaaKSVRen
import Derived.Test.YtedmegmhjmabcaaKSVRegL
import Derived.Test.YtedmegmhjmabcaaKSVRegF
import Derived.Test.YtedmegmhjmabcaaKSVSem
import Derived.Test.YtedmegmhjmabcaaJSVTb
import Derived.Test.YtedmegmhjmabcaaKSVSzV
import Derived.Test.YtedmegmhjmabcaaJSVSzW
import Derived.Test.YtedmegmhjmabcaaJSVLib
set_option maxHeartbeats 4000000
set_option maxRecDepth 100000
set_option linter.unusedVariables false
set_option linter.unusedSimpArgs false
namespace Go.Proofs.Ytedmegmhjmabcaa
open Go.RowKit
theorem fin_RC {σ : Env} {rs : List Res} {r : D} {fm : Fm} {p k1 : Nat} {m0 : Names} (hgh : hold (σ gh) = .gho 0 [.fam (famOf fm p m0)] 0 k1) (hok : hold (resOk σ rs)) (hres : hold (resD σ rs) = r) : FinRC rs r fm p m0 k1 σ:=⟨σ,Wk.refl 0 σ,hgh,hok,hres⟩
theorem fin_RCw {σ τ : Env} {rs : List Res} {r : D} {fm : Fm} {p k1 : Nat} {m0 : Names} (hw : Wk 0 σ τ) (h : FinRC rs r fm p m0 k1 (hold τ)) : FinRC rs r fm p m0 k1 σ:=by
 obtain ⟨τ',hw',hf⟩:=h
 exact ⟨τ',hw.trans hw',hf⟩
theorem kD_low (κ s : Nat) (es : List D) : (kD κ s es).low = true:=by unfold kD; split <;> rfl
theorem kD_rk (ρ : Nat → Nat) (κ s : Nat) (es : List D) : (kD κ s es).rk ρ = kD (ρ κ) s es:=by unfold kD; split <;> rfl
theorem kD_rnk (L : List Nat) (κ s : Nat) (es : List D) : (kD κ s es).rnk L = kD κ s es:=rnk_low L _ (kD_low κ s es)
theorem kD_cells (κ s : Nat) (es : List D) : (kD κ s es).cells = [kD κ s es]:=by unfold kD; split <;> rfl
theorem kD_one (κ s : Nat) (es : List D) : (kD κ s es).one = true:=by unfold kD; split <;> rfl
attribute [go_sem] kD_low kD_rk kD_rnk kD_cells kD_one D.low D.lowL D.rk D.rkL
attribute [go_sem ↓ high] kD_one
def filK (f : Nat → D) (z : D) (n i : Nat) : List D:=(List.range n).map fun j=>if j < i then f j else z
theorem filK_len (f : Nat → D) (z : D) (n i : Nat) : (filK f z n i).length = n:=by unfold filK; rw [List.length_map,List.length_range]
theorem filK_at (f : Nat → D) (z : D) {n i j : Nat} (h : j < n) : (filK f z n i)[j]? = some (if j < i then f j else z):=by unfold filK; rw [List.getElem?_map,List.getElem?_range h]; rfl
theorem filK_zero (f : Nat → D) (z : D) (n : Nat) : List.replicate n z = filK f z n 0:=by
 apply List.ext_getElem?
 intro j
 by_cases h : j < n
 ·rw [filK_at f z h,if_neg (by omega),List.getElem?_replicate,if_pos h]
 ·rw [List.getElem?_eq_none (by rw [List.length_replicate]; omega),List.getElem?_eq_none (by rw [filK_len]; omega)]
theorem filK_set (f : Nat → D) (z : D) {n i : Nat} (h : i < n) : (filK f z n i).set i (f i) = filK f z n (i + 1):=by
 apply List.ext_getElem?
 intro j
 by_cases hj : j < n
 ·rw [filK_at f z hj,List.getElem?_set]
  by_cases e : i = j
  ·subst e
   rw [if_pos rfl,if_pos (by rw [filK_len]; exact hj),if_pos (by omega)]
  ·rw [if_neg e,filK_at f z hj]
   by_cases h2 : j < i
   ·rw [if_pos h2,if_pos (by omega)]
   ·rw [if_neg h2,if_neg (by omega)]
 ·rw [List.getElem?_eq_none (by rw [List.length_set,filK_len]; omega),List.getElem?_eq_none (by rw [filK_len]; omega)]
theorem filK_low (f : Nat → D) (z : D) (hf : ∀ j,(f j).low = true) (hz : z.low = true) (n i : Nat) : D.lowL (filK f z n i) = true:=D.lowL_iff.2 fun d hd=>by
 obtain ⟨j,_,rfl⟩:=List.mem_map.1 hd
 split
 ·exact hf j
 ·exact hz
end Go.Proofs.Ytedmegmhjmabcaa

/-
  Calls on rows of one's own, told of trees under keys. No condition.
-/
import Derived.Test.YtclkehekhdfnnaaKSVRegL
import Derived.Test.YtclkehekhdfnnaaJSVVa
import Derived.Test.YtclkehekhdfnnaaJSVBit
import Derived.Test.YtclkehekhdfnnaaJSVLib
import Derived.Test.YtclkehekhdfnnaaKSDca
import Derived.Test.YtclkehekhdfnnaaKSDcc
import Derived.Test.YtclkehekhdfnnaaKSDcb
import Derived.Test.YtclkehekhdfnnaaKSVEvI
import Derived.Test.YtclkehekhdfnnaaKSVVal
import Derived.Test.YtclkehekhdfnnaaSVGo
import Derived.Test.YtclkehekhdfnnaaJSVCpE
import Derived.Test.YtclkehekhdfnnaaJSFactsC
import Derived.Test.YtclkehekhdfnnaaJSVCall
set_option maxHeartbeats 4000000
set_option maxRecDepth 100000
set_option linter.unusedVariables false
set_option linter.unusedSimpArgs false
namespace Go.Proofs.Ytclkehekhdfnnaa
open Go.RowKit
theorem RCalls.does {P : Program} {f : FuncId} {ds : List D} {post : List It} {top : Nat} {r : D} (h : RCalls P f [] ds post top r) (hr : r.scal = true) : Does P f [] ds r []:=by
 intro w F m xs hxl _ hwf hfz _ hmn _
 refine (h w F m noBlocks xs hwf (fun _ h=>h) (fun _ _ h=>h.elim) (fun κ _=>hmn κ (by show κ < nb ∨ nb + 0 ≤ κ; omega)) hxl hfz).mono ?_
 rintro e w' ⟨x,F',m',B',rfl,c,wf',_,_,_,_,hx,_⟩
 exact ⟨x,F',noNames,rfl,c.mono (fun b hb=>hb.elim),wf',fun i hi=>by simp at hi,fun _ _=>rfl,hx.scal hr noNames,fun i d hd=>by simp at hd,fun i j b d d' hd=>by simp at hd,fun i d b hd=>by simp at hd⟩
end Go.Proofs.Ytclkehekhdfnnaa
set_option maxHeartbeats 4000000
set_option maxRecDepth 100000
set_option linter.unusedVariables false
set_option linter.unusedSimpArgs false
namespace Go.Proofs.Ytclkehekhdfnnaa
open Go.RowKit
structure De where
 f : Int
 t : Int
def deOk (w : Int) (d : De) : Prop:=sOk w d.f ∧ sOk w d.t
def dsOk (w : Int) (l : List De) : Prop:=(1 ≤ w ∧ w ≤ 6) ∧ l.length ≤ 8 ∧ ∀ d,d ∈ l → deOk w d
noncomputable instance deOkDec (w : Int) (d : De) : Decidable (deOk w d):=Classical.propDecidable _
noncomputable instance dsOkDec (w : Int) (l : List De) : Decidable (dsOk w l):=Classical.propDecidable _
instance sOkDec (w s : Int) : Decidable (sOk w s):=inferInstanceAs (Decidable (_ ∧ _))
def fires (d : De) (s : Int) : Prop:=sub d.f s ∧ ¬ sub d.t s
noncomputable instance firesDec (d : De) (s : Int) : Decidable (fires d s):=Classical.propDecidable _
noncomputable def stp (s : Int) (d : De) : Int:=if fires d s then bor s d.t else s
noncomputable def fold (l : List De) (s : Int) : Int:=l.foldl stp s
section
variable {w : Int} {l : List De} {s : Int} (hw : 1 ≤ w ∧ w ≤ 6)
include hw
end
end Go.Proofs.Ytclkehekhdfnnaa
set_option maxHeartbeats 4000000
set_option maxRecDepth 100000
namespace Go.Proofs.Ytclkehekhdfnnaa
open Go.RowKit
theorem eOk_mono {w : Int} : ∀ (e : E) (d d' : Nat),d ≤ d' → eOk e w d → eOk e w d':=by
 refine E.ind (fun e ih d d' hd h=>?_)
 rw [eOk_iff] at h ⊢
 exact ⟨h.1,fun h0=>by have:=h.2.1 h0; omega,fun x hx=>ih x hx (d - 1) (d' - 1) (by omega) (h.2.2.1 x hx),h.2.2.2⟩
end Go.Proofs.Ytclkehekhdfnnaa

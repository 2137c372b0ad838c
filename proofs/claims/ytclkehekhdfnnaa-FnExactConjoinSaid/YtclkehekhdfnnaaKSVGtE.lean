/-
  Lists of expressions that come in, as plain data; what the laws do with them. No condition.
-/
import Derived.Test.YtclkehekhdfnnaaJSVCols
import Derived.Test.YtclkehekhdfnnaaKSVSzE
set_option maxHeartbeats 4000000
set_option maxRecDepth 100000
set_option linter.unusedVariables false
set_option linter.unusedSimpArgs false
namespace Go.Proofs.Ytclkehekhdfnnaa
open Go.RowKit
def MostL (l : List E) : Prop:=l.length ≤ big ∧ ∀ x,x ∈ l → Most x
section
open Go.ChangeShapes Go.WideShapes Go.ChangeAt Go.Joins Go.Deep
variable {H : Type} {enc : TypeId × Value → H} {W : World} {base b0 : Nat} {held : Bool} {r : Reach} {v : Value} {d : DataW H} {p : List MemPlace}
def IsEs (w : World) (v : Value) (l : List E) : Prop:=MostL l ∧ Fz w (allOf w) noNames (.sl 5 (l.map eD)) v
set_option maxRecDepth 100000 in
theorem trod_Es {fuel : Nat} {cs : List Value} {x : DataW H × List MemPlace} (h : DataW.trod enc Try.prog W base (fun _=>true) held fuel 24 cs = some x) :
  ∃ l : List E,MostL l ∧ CellsOK W (allOf W) noNames [.sl 5 (l.map eD)] cs:=by
 obtain ⟨l,hm,hlen,q⟩:=slice_fz Try.underlying24 cells_LE (by decide) eD Most h (fun n' _ cs' x' h'=>by
  obtain ⟨e,ho,hm⟩:=trod_Ex n' cs' x' h'
  exact ⟨e,by rw [eD_eq]; rfl,ho,hm⟩)
 exact ⟨l,⟨hlen,hm⟩,q⟩
set_option maxRecDepth 100000 in
theorem open_pEs (hv : Value.okWide Try.prog W r b0 24 v) (h : DataW.Trod enc Try.prog W base (fun _=>true) held 24 v d p) (_lt : ∀ x ∈ p,x.block < W.heap.size) :
  ∃ l : List E,IsEs W v l:=by
 obtain ⟨a0,len0,cap0,rfl⟩:=okWide_slice Try.underlying24 hv
 obtain ⟨fuel,hf⟩:=h
 obtain ⟨l,hm,q⟩:=trod_Es hf
 exact ⟨l,hm,CellsOK.fz1 q⟩
end
theorem esz_le1 {e : E} (h : eszL e.ks ≤ 1048576) : esz e ≤ 1048577:=by rw [esz_eq]; omega
theorem szExprS_okG (l : List E) (hm : MostL l) (left : Int) (h0 : 0 ≤ left) (h1 : left ≤ 1048576) : Does Try.prog 17 [] [.sl 5 (l.map eD),I left] (I (szV (eszL l) left)) []:=szExprS_ok l hm.1 left h0 h1 (fun x hx=>szExpr_ok x (hm.2 x hx))
theorem toExprS_okG (l : List E) (h : eszL l ≤ 1048576) : Does Try.prog 19 [] [.sl 5 (l.map eD)] (.sl 5 (l.map eD)) []:=toExprS_ok l h (fun x hx=>toExpr_ok x (by have:=eszL_mem hx; omega))
theorem eqExprS_okG (l : List E) (h : eszL l ≤ 1048576) : Does Try.prog 21 [] [.sl 5 (l.map eD),.sl 5 (l.map eD)] (Bo true) []:=eqExprS_ok l (fun x hx=>eqExpr_ok x (by have:=eszL_mem hx; omega)) h
end Go.Proofs.Ytclkehekhdfnnaa

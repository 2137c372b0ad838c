/-
  Tables compared by the laws. No condition.
-/
import Derived.Test.YtedmegmhjmabcaaJSVGateV
import Derived.Test.YtedmegmhjmabcaaJSVDraw
import Derived.Test.YtedmegmhjmabcaaJSVLend
import Derived.Test.YtedmegmhjmabcaaKSDca
import Derived.Test.YtedmegmhjmabcaaKSDcb
import Derived.Test.YtedmegmhjmabcaaKSVVa
import Derived.Test.YtedmegmhjmabcaaJSVGo
import Derived.Test.YtedmegmhjmabcaaJSVTbW
set_option maxHeartbeats 4000000
set_option maxRecDepth 100000
set_option linter.unusedVariables false
set_option linter.unusedSimpArgs false
namespace Go.Proofs.Ytedmegmhjmabcaa
open Go.RowKit
noncomputable instance rowsDec : DecidableEq (List (List V)):=fun a b=>Classical.propDecidable _
noncomputable instance taDec : DecidableEq Ta:=fun a b=>Classical.propDecidable _
end Go.Proofs.Ytedmegmhjmabcaa
set_option maxHeartbeats 4000000
set_option maxRecDepth 100000
namespace Go.Proofs.Ytedmegmhjmabcaa
open Go.ChangeShapes Go.WideShapes Go.ChangeAt Go.RowKit Go.Joins Go.Deep
inductive Most : E → Prop
 | mk {k c : Int} {v : V} {ks : List E} (h : ks.length ≤ big) (hk : ∀ x,x ∈ ks → Most x) : Most (.mk k c v ks)
theorem Most.len {e : E} (h : Most e) : e.ks.length ≤ big:=by cases h; assumption
section
variable {H : Type} {enc : TypeId × Value → H} {W : World} {base b0 : Nat} {held : Bool} {r : Reach} {v : Value} {d : DataW H} {p : List MemPlace}
end
end Go.Proofs.Ytedmegmhjmabcaa
set_option maxHeartbeats 4000000
set_option maxRecDepth 100000
namespace Go.Proofs.Ytedmegmhjmabcaa
open Go.ChangeShapes Go.WideShapes Go.ChangeAt Go.RowKit Go.Joins Go.Deep
def mostR (rs : List (List V)) : Prop:=rs.length ≤ big ∧ ∀ r,r ∈ rs → r.length ≤ big
theorem cells_LVS : Try.prog.cellsOf 114 = 1:=by kernel_rfl
theorem cells_LT : Try.prog.cellsOf 24 = 2:=by kernel_rfl
section
variable {H : Type} {enc : TypeId × Value → H} {W : World} {base b0 : Nat} {held : Bool} {r : Reach} {v : Value} {d : DataW H} {p : List MemPlace}
set_option maxRecDepth 100000 in
theorem trod_row {fuel : Nat} {cs : List Value} {x : DataW H × List MemPlace} (h : DataW.trod enc Try.prog W base (fun _=>true) held fuel 114 cs = some x) :
  ∃ l : List V,l.length ≤ big ∧ CellsOK W (allOf W) noNames [rowD l] cs:=by
 obtain ⟨l,_,hlen,q⟩:=slice_fz Try.underlying114 cells_LV (by decide) vD (fun _=>True) h (fun n' _ cs' x' h'=>by
  obtain ⟨m,hm⟩:=trod_Vx h'
  exact ⟨m,rfl,hm,trivial⟩)
 exact ⟨l,hlen,q⟩
set_option maxRecDepth 100000 in
theorem trod_rows {fuel : Nat} {cs : List Value} {x : DataW H × List MemPlace} (h : DataW.trod enc Try.prog W base (fun _=>true) held fuel 22 cs = some x) :
  ∃ l : List (List V),mostR l ∧ CellsOK W (allOf W) noNames [rowsD l] cs:=by
 obtain ⟨l,hq,hlen,q⟩:=slice_fz Try.underlying22 cells_LVS (by decide) rowD (fun r=>r.length ≤ big) h (fun n' _ cs' x' h'=>by
  obtain ⟨m,hl,hm⟩:=trod_row h'
  exact ⟨m,rfl,hm,hl⟩)
 exact ⟨l,⟨hlen,hq⟩,q⟩
def IsTa (w : World) (v : Value) (t : Ta) : Prop:=mostR t.rows ∧ Fz w (allOf w) noNames (taD t) v
set_option maxRecDepth 100000 in
theorem open_pT (hv : Value.okWide Try.prog W r b0 24 v) (h : DataW.Trod enc Try.prog W base (fun _=>true) held 24 v d p) (_lt : ∀ x ∈ p,x.block < W.heap.size) :
  ∃ t : Ta,IsTa W v t:=by
 obtain ⟨cs,rfl,_⟩:=okWide_struct Try.underlying24 hv
 obtain ⟨fuel,hf⟩:=h
 obtain ⟨y0,y1,n,_,hl,h0,h1⟩:=trod_struct2 Try.underlying24 hf
 rw [cells_LT] at hl
 have e1 : (Try.prog.cellsOf 22) = 1:=by kernel_rfl
 generalize hcc : (Value.agg cs).cells.toList = cc at hl h0 h1
 match cc,hl with
 | [c0,c1],_=>
  simp only [cells_int,e1,List.drop_zero,List.drop_succ_cons,List.take_succ_cons,List.take_zero] at h0 h1
  obtain ⟨k,q0⟩:=int_fz Try.underlying3 h0
  obtain ⟨rs,hm,q1⟩:=trod_rows h1
  refine ⟨⟨k,rs⟩,hm,agg_fz ?_⟩
  have hcs : cs.toList = [c0,c1]:=hcc
  rw [hcs]
  exact q0.append q1
end
end Go.Proofs.Ytedmegmhjmabcaa
set_option maxHeartbeats 4000000
set_option maxRecDepth 100000
namespace Go.Proofs.Ytedmegmhjmabcaa
open Go.RowKit
def rowAt (t : Ta) (i : Nat) (r : List V) : Prop:=(rowOk r ∧ (r.length : Int) = t.w) ∧ ∀ q,0 < i → t.rows[i - 1]? = some q → cmpR q r ≤ 0
def tOk (t : Ta) : Prop:=((1 ≤ t.w ∧ t.w ≤ 6) ∧ t.rows.length ≤ 400) ∧ ∀ (i : Nat) (r : List V),t.rows[i]? = some r → rowAt t i r
noncomputable instance tOkDec (t : Ta) : Decidable (tOk t):=Classical.propDecidable _
theorem nextR {t : Ta} {i : Nat} {x : List V} {P : Nat → List V → Prop} (hx : t.rows[i]? = some x) (h : P i x) (hJ : ∀ (j : Nat) (y : List V),j < i → t.rows[j]? = some y → P j y) : ∀ (j : Nat) (y : List V),j < i + 1 → t.rows[j]? = some y → P j y:=by
 intro j y hj hy
 by_cases hji : j = i
 ·subst hji
  rw [hx] at hy
  cases hy
  exact h
 ·exact hJ j y (by omega) hy
theorem validTable_ok (t : Ta) (hl : rsz t.rows ≤ 1048576) : Does Try.prog 57 [] [taD t] (Bo (decide (tOk t))) []:=by
 have hlen:=rsz_len t.rows
 refine Bg c_Z31 mixed (go1 trivial ?_)
 refine dw_for (c:=1) (l:=fun i=>[(1,.ref 1000000 0),(3,I i),(1000000,.obj [I t.w,rowsD t.rows])]) t.rows.length (fun i=>∀ (j : Nat) (r : List V),j < i → t.rows[j]? = some r → rowAt t j r) 0 (fun j r hj=>by omega) (Wk.list [2000001] rfl rfl ?_) (fun i hi hJ=>?_) (Nat.zero_le _)
 ·repeat' (first|(conv in hold _=>simp (disch:=omega) only [go_sem])|exact trivial|exact Sub.refl _|omega)
  exact rfl
 ·rcases at_or_end hi with ⟨x,hx,hlt⟩ | rfl
  ·have hxs:=rsz_mem (List.mem_of_getElem? hx)
   have hv:=validRow_ok x (by omega)
   by_cases h1 : rowOk x
   ·rw [decide_eq_true h1] at hv
    by_cases h2 : (x.length : Int) = t.w
    ·by_cases hi0 : i = 0
     ·refine go1 @hx ?_
      refine Uc @hx (hv) (go1 @hx ?_)
      refine ⟨hlt,nextR (P:=rowAt t) hx ⟨⟨h1,h2⟩,fun q h0=>by omega⟩ hJ,Wk.list [1000000] rfl rfl ?_⟩
      repeat' (first|(conv in hold _=>simp (disch:=omega) only [go_sem])|exact trivial|exact Sub.refl _|omega)
     ·obtain ⟨q,hq⟩ : ∃ q,t.rows[i - 1]? = some q:=⟨_,List.getElem?_eq_getElem (by omega)⟩
      have hqs:=rsz_mem (List.mem_of_getElem? hq)
      have hii : ((i : Int) - 1).toNat = i - 1:=by omega
      have hc:=compareRows_spec q x (by omega) (by omega)
      by_cases h3 : cmpR q x ≤ 0
      ·refine go1 (cj3 @hx @hq @hii) ?_
       refine Uc (cj3 @hx @hq @hii) (hv) (go1 (cj3 @hx @hq @hii) ?_)
       refine Uc trivial (hc) (go1 trivial ?_)
       refine ⟨hlt,nextR (P:=rowAt t) hx ⟨⟨h1,h2⟩,fun q' _ hq'=>by rw [hq] at hq'; cases hq'; exact h3⟩ hJ,Wk.list [1000000] rfl rfl ?_⟩
       repeat' (first|(conv in hold _=>simp (disch:=omega) only [go_sem])|exact trivial|exact Sub.refl _|omega)
      ·refine go1 (cj3 @hx @hq @hii) ?_
       refine Uc (cj3 @hx @hq @hii) (hv) (go1 (cj3 @hx @hq @hii) ?_)
       refine Uc trivial (hc) (go1 trivial ?_)
       exact sub_f (fun h=>h3 ((h.2 i x hx).2 q (by omega) hq))
    ·refine go1 @hx ?_
     refine Uc @hx (hv) (go1 @hx ?_)
     exact sub_f (fun h=>h2 (h.2 i x hx).1.2)
   ·rw [decide_eq_false h1] at hv
    refine go1 @hx ?_
    refine Uc trivial (hv) (go1 trivial ?_)
    exact sub_f (fun h=>h1 (h.2 i x hx).1.1)
  ·have hr:=inRange_ok t.w 1 6
   by_cases hw : 1 ≤ t.w ∧ t.w ≤ 6
   ·rw [decide_eq_true hw] at hr
    refine go1 trivial ?_
    refine Uc trivial (hr) (go1 trivial ?_)
    exact sub_iff (by rw [decide_eq_true_iff]; exact ⟨fun h=>⟨⟨hw,by omega⟩,fun j r hj=>hJ j r (List.getElem?_eq_some_iff.1 hj).1 hj⟩,fun h=>by have:=h.1.2; omega⟩)
   ·rw [decide_eq_false hw] at hr
    refine go1 trivial ?_
    refine Uc trivial (hr) (go1 trivial ?_)
    exact sub_f (fun h=>hw h.1.1)
def rOk (t : Ta) : Prop:=((1 ≤ t.w ∧ t.w ≤ 6) ∧ t.rows.length ≤ 400) ∧ ∀ (i : Nat) (r : List V),t.rows[i]? = some r → rowOk r ∧ (r.length : Int) = t.w
noncomputable instance rOkDec (t : Ta) : Decidable (rOk t):=Classical.propDecidable _
theorem validRows_ok (t : Ta) (hl : rsz t.rows ≤ 1048576) : Does Try.prog 94 [] [rowsD t.rows,I t.w] (Bo (decide (rOk t))) []:=by
 have hlen:=rsz_len t.rows
 have hr:=validWidth_ok t.w
 by_cases hw : 1 ≤ t.w ∧ t.w ≤ 6
 ·rw [decide_eq_true hw] at hr
  by_cases h4 : t.rows.length ≤ 400
  ·refine Bg c_Z36 mixed (go1 trivial ?_)
   refine Uc trivial (hr) (go1 trivial ?_)
   refine dw_for (c:=0) (l:=fun i=>[(1,I t.w),(15,rowsD t.rows),(16,I t.rows.length),(17,I i)]) t.rows.length (fun i=>∀ (j : Nat) (r : List V),j < i → t.rows[j]? = some r → rowOk r ∧ (r.length : Int) = t.w) 0 (fun j r hj=>by omega) (Wk.list [] rfl rfl ?_) (fun i hi hJ=>?_) (Nat.zero_le _)
   ·repeat' (first|(conv in hold _=>simp (disch:=omega) only [go_sem])|exact trivial|exact Sub.refl _|omega)
    exact rfl
   ·rcases at_or_end hi with ⟨x,hx,hlt⟩ | rfl
    ·have hxs:=rsz_mem (List.mem_of_getElem? hx)
     have hv:=implValidRow_ok x (by omega)
     by_cases h2 : (x.length : Int) = t.w
     ·by_cases h1 : rowOk x
      ·rw [decide_eq_true h1] at hv
       refine go1 @hx ?_
       refine Uc trivial (hv) (go1 trivial ?_)
       refine ⟨hlt,nextR (P:=fun _ r=>rowOk r ∧ (r.length : Int) = t.w) hx ⟨h1,h2⟩ hJ,Wk.list [] rfl rfl ?_⟩
       repeat' (first|(conv in hold _=>simp (disch:=omega) only [go_sem])|exact trivial|exact Sub.refl _|omega)
      ·rw [decide_eq_false h1] at hv
       refine go1 @hx ?_
       refine Uc trivial (hv) (go1 trivial ?_)
       exact sub_f (fun h=>h1 (h.2 i x hx).1)
     ·refine go1 @hx ?_
      exact sub_f (fun h=>h2 (h.2 i x hx).2)
    ·refine go1 trivial ?_
     exact sub_iff ⟨fun _=>⟨⟨hw,h4⟩,fun j r hj=>hJ j r (List.getElem?_eq_some_iff.1 hj).1 hj⟩,fun _=>rfl⟩
  ·refine Bg c_Z36 mixed (go1 trivial ?_)
   refine Uc trivial (hr) (go1 trivial ?_)
   exact sub_f (fun h=>h4 h.1.2)
 ·rw [decide_eq_false hw] at hr
  refine Bg c_Z36 mixed (go1 trivial ?_)
  refine Uc trivial (hr) (go1 trivial ?_)
  exact sub_f (fun h=>hw h.1.1)
end Go.Proofs.Ytedmegmhjmabcaa

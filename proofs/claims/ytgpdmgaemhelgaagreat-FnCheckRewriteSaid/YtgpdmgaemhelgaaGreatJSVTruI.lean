/-
  Expressions and plans compared by the model. No condition.
-/
import Derived.Test.YtgpdmgaemhelgaaGreatKSDca
import Derived.Test.YtgpdmgaemhelgaaGreatKSDcj
import Derived.Test.YtgpdmgaemhelgaaGreatJSVSm
import Derived.Test.YtgpdmgaemhelgaaGreatJSVCall
import Derived.Test.YtgpdmgaemhelgaaGreatJSDcVWid
import Derived.Test.YtgpdmgaemhelgaaGreatJSVTru
import Derived.Test.YtgpdmgaemhelgaaGreatJSVRead
set_option maxHeartbeats 4000000
set_option maxRecDepth 100000
set_option linter.unusedVariables false
set_option linter.unusedSimpArgs false
namespace Go.Proofs.YtgpdmgaemhelgaaGreat
open Go.RowKit
theorem Cmp.of {f : FuncId} {xs : List D} {P : Prop} (h : ∀ b : Bool,(P → b = true) → (¬ P → b = false) → Does Tryz.prog f [] xs (Bo b) []) : Cmp f xs P:=
 ⟨fun g=>h _ (fun _=>rfl) (fun h'=>absurd g h'),fun g=>h _ (fun h'=>absurd h' g) (fun _=>rfl)⟩
theorem upto_same {α : Type} {l m : List α} {i : Nat} {x y : α} (hx : l[i]? = some x) (hy : m[i]? = some y) (hxy : x = y) (hJ : ∀ (j : Nat) (x y : α),j < i → l[j]? = some x → m[j]? = some y → x = y) : ∀ (j : Nat) (x y : α),j < i + 1 → l[j]? = some x → m[j]? = some y → x = y:=by
 intro j x' y' hj h1 h2
 by_cases hji : j = i
 ·subst hji
  rw [hx] at h1
  rw [hy] at h2
  cases h1
  cases h2
  exact hxy
 ·exact hJ j x' y' (by omega) h1 h2
theorem not_same {α : Type} {l m : List α} {i : Nat} {x y : α} (hx : l[i]? = some x) (hy : m[i]? = some y) (hxy : ¬ x = y) : ¬ l = m:=fun h=>hxy (by subst h; rw [hx] at hy; exact Option.some.inj hy)
theorem equalExprs_ok : ∀ e : E,esz e ≤ 1048577 → ∀ f : E,esz f ≤ 1048577 → Cmp 115 [eD e,eD f] (e = f):=by
 refine E.ind (fun e ih he f hf=>?_)
 rw [esz_eq] at he hf
 have hle:=eszL_len e.ks
 have hlf:=eszL_len f.ks
 have hks:=fun x (hx : x ∈ e.ks) y (hy : y ∈ f.ks)=>ih x hx (by have:=eszL_mem hx; omega) y (by have:=eszL_mem hy; omega)
 obtain ⟨k,c,v,ks⟩:=e
 obtain ⟨k',c',v',ks'⟩:=f
 obtain ⟨vb,vn⟩:=v
 obtain ⟨vb',vn'⟩:=v'
 simp only [E.ks_mk] at hks he hf hle hlf
 clear ih
 by_cases h1 : k = k'
 ·subst h1
  by_cases h2 : c = c'
  ·subst h2
   by_cases h3 : vb = vb'
   ·subst h3
    by_cases h4 : vn = vn'
    ·subst h4
     by_cases hlen : ks.length = ks'.length
     ·refine Cmp.of fun b ht hff=>?_
      refine Bg c_Z81 mixed (go1 (cj2 @Bool.and_self @hlen) ?_)
      refine dw_for (c:=2) (l:=fun i=>[(2,.ref 1000000 0),(3,.ref 1000001 0),(5,I i),(1000000,.obj [I k,I c,Bo vb,I vn,.sl 5 (ks.map eD)]),(1000001,.obj [I k,I c,Bo vb,I vn,.sl 5 (ks'.map eD)])]) ks.length (fun i=>∀ (j : Nat) (x y : E),j < i → ks[j]? = some x → ks'[j]? = some y → x = y) 0 (fun j x y hj=>by omega) (Wk.list [2000002,2000003] rfl rfl ?_) (fun i hi hJ=>?_) (Nat.zero_le _)
      ·repeat' (first|(conv in hold _=>simp (disch:=omega) only [go_sem])|exact trivial|exact Sub.refl _|omega)
       (repeat' apply And.intro) <;> rfl
      ·rcases at_or_end hi with ⟨x,hx0,hlt⟩ | rfl
       ·obtain ⟨y,hy0⟩ : ∃ y,ks'[i]? = some y:=⟨_,List.getElem?_eq_getElem (by omega)⟩
        have hmi : i < ks'.length:=by omega
        have hix:=hks x (List.mem_of_getElem? hx0) y (List.mem_of_getElem? hy0)
        by_cases hxy : x = y
        ·have hix:=hix.1 hxy
         refine go1 (cj2 @hx0 @hy0) ?_
         refine Uc trivial (hix) (go1 trivial ?_)
         refine ⟨hlt,upto_same hx0 hy0 hxy hJ,Wk.list [1000000,1000001] rfl rfl ?_⟩
         repeat' (first|(conv in hold _=>simp (disch:=omega) only [go_sem])|exact trivial|exact Sub.refl _|omega)
        ·have hix:=hix.2 hxy
         rw [hff (fun h=>not_same hx0 hy0 hxy (by injection h))]
         refine go1 (cj2 @hx0 @hy0) ?_
         exact Uc trivial (hix) (go0 trivial)
       ·rw [ht (by rw [same_list hlen hJ])]
        exact go0 trivial
     ·refine ⟨fun h=>absurd (by injection h with _ _ _ h; rw [h]) hlen,fun _=>?_⟩
      exact Bg c_Z81 mixed (go0 @Bool.and_self)
    ·refine ⟨fun h=>absurd (by injection h with _ _ h _; injection h) h4,fun _=>?_⟩
     have hb : (vn == vn') = false:=beq_eq_false_iff_ne.2 h4
     exact Bg c_Z81 mixed (go0 (cj3 @hb @Bool.and_false @Bool.false_and))
   ·refine ⟨fun h=>absurd (by injection h with _ _ h _; injection h) h3,fun _=>?_⟩
    have hb : (vb == vb') = false:=beq_eq_false_iff_ne.2 h3
    exact Bg c_Z81 mixed (go0 (cj3 @hb @Bool.and_false @Bool.false_and))
  ·refine ⟨fun h=>absurd (by injection h) h2,fun _=>?_⟩
   exact Bg c_Z81 mixed (go0 trivial)
 ·refine ⟨fun h=>absurd (by injection h) h1,fun _=>?_⟩
  exact Bg c_Z81 mixed (go0 trivial)
theorem equalPlansS_ok : ∀ p : Pl,psz p ≤ 1048576 → ∀ q : Pl,psz q ≤ 1048576 → Cmp 67 [pD p,pD q] (p = q):=by
 refine Pl.indA (fun p ih hp q hq=>?_)
 rw [psz_eq] at hp hq
 have l1:=eszL_len p.es
 have l2:=eszL_len q.es
 have l3:=pszL_len p.ks
 have l4:=pszL_len q.ks
 have hes:=fun x (hx : x ∈ p.es) y (hy : y ∈ q.es)=>equalExprs_ok x (by have:=eszL_mem hx; omega) y (by have:=eszL_mem hy; omega)
 have hks:=fun x (hx : x ∈ p.ks) y (hy : y ∈ q.ks)=>ih x hx (by have:=pszL_mem hx; omega) y (by have:=pszL_mem hy; omega)
 obtain ⟨k,t,es,cs,ks⟩:=p
 obtain ⟨k',t',es',cs',ks'⟩:=q
 simp only [Pl.es_mk,Pl.cs_mk,Pl.ks_mk] at hes hks l1 l2 l3 l4 hp hq
 clear ih
 by_cases h1 : k = k'
 ·subst h1
  by_cases h2 : t = t'
  ·subst h2
   by_cases he : es.length = es'.length
   ·by_cases hc : cs.length = cs'.length
    ·by_cases hk : ks.length = ks'.length
     ·refine Cmp.of fun b ht hff=>?_
      refine Bg c_Z82 mixed (go1 (cj4 @he @hc @hk @intsD.eq_1) ?_)
      refine dw_for (c:=2) (l:=fun i=>[(2,.ref 1000000 0),(3,.ref 1000001 0),(5,I i),(1000000,.obj [I k,I t,.sl 5 (es.map eD),.sl 1 (cs.map I),.sl 5 (ks.map pD)]),(1000001,.obj [I k,I t,.sl 5 (es'.map eD),.sl 1 (cs'.map I),.sl 5 (ks'.map pD)])]) es.length (fun i=>∀ (j : Nat) (x y : E),j < i → es[j]? = some x → es'[j]? = some y → x = y) 0 (fun j x y hj=>by omega) (Wk.list [2000002,2000003] rfl rfl ?_) (fun i hi hJ=>?_) (Nat.zero_le _)
      ·repeat' (first|(conv in hold _=>simp (disch:=omega) only [go_sem])|exact trivial|exact Sub.refl _|omega)
       (repeat' apply And.intro) <;> rfl
      ·rcases at_or_end hi with ⟨x,hx0,hlt⟩ | rfl
       ·obtain ⟨y,hy0⟩ : ∃ y,es'[i]? = some y:=⟨_,List.getElem?_eq_getElem (by omega)⟩
        have hmi : i < es'.length:=by omega
        have hix:=hes x (List.mem_of_getElem? hx0) y (List.mem_of_getElem? hy0)
        by_cases hxy : x = y
        ·have hix:=hix.1 hxy
         refine go1 (cj2 @hx0 @hy0) ?_
         refine Uc trivial (hix) (go1 trivial ?_)
         refine ⟨hlt,upto_same hx0 hy0 hxy hJ,Wk.list [1000000,1000001] rfl rfl ?_⟩
         repeat' (first|(conv in hold _=>simp (disch:=omega) only [go_sem])|exact trivial|exact Sub.refl _|omega)
        ·have hix:=hix.2 hxy
         rw [hff (fun h=>not_same hx0 hy0 hxy (by injection h))]
         refine go1 (cj2 @hx0 @hy0) ?_
         exact Uc trivial (hix) (go0 trivial)
       ·have hee:=same_list he hJ
        refine go1 trivial ?_
        refine dw_for (c:=2) (l:=fun i=>[(2,.ref 1000000 0),(3,.ref 1000001 0),(6,I i),(1000000,.obj [I k,I t,.sl 5 (es.map eD),.sl 1 (cs.map I),.sl 5 (ks.map pD)]),(1000001,.obj [I k,I t,.sl 5 (es'.map eD),.sl 1 (cs'.map I),.sl 5 (ks'.map pD)])]) cs.length (fun i=>∀ (j : Nat) (x y : Int),j < i → cs[j]? = some x → cs'[j]? = some y → x = y) 0 (fun j x y hj=>by omega) (Wk.list [1000000,1000001] rfl rfl ?_) (fun i hi hJ2=>?_) (Nat.zero_le _)
        ·repeat' (first|(conv in hold _=>simp (disch:=omega) only [go_sem])|exact trivial|exact Sub.refl _|omega)
         (repeat' apply And.intro) <;> rfl
        ·rcases at_or_end hi with ⟨x,hx0,hlt⟩ | rfl
         ·obtain ⟨y,hy0⟩ : ∃ y,cs'[i]? = some y:=⟨_,List.getElem?_eq_getElem (by omega)⟩
          have hmi : i < cs'.length:=by omega
          by_cases hxy : x = y
          ·have hb : (x != y) = false:=bne_eq_false_iff_eq.2 hxy
           refine go1 (cj3 @hx0 @hy0 @hb) ?_
           refine ⟨hlt,upto_same hx0 hy0 hxy hJ2,Wk.list [1000000,1000001] rfl rfl ?_⟩
           repeat' (first|(conv in hold _=>simp (disch:=omega) only [go_sem])|exact trivial|exact Sub.refl _|omega)
          ·have hb : (x != y) = true:=bne_iff_ne.2 hxy
           rw [hff (fun h=>not_same hx0 hy0 hxy (by injection h))]
           exact go0 (cj3 @hx0 @hy0 @hb)
         ·have hcc:=same_list hc hJ2
          refine go1 trivial ?_
          refine dw_for (c:=2) (l:=fun i=>[(2,.ref 1000000 0),(3,.ref 1000001 0),(7,I i),(1000000,.obj [I k,I t,.sl 5 (es.map eD),.sl 1 (cs.map I),.sl 5 (ks.map pD)]),(1000001,.obj [I k,I t,.sl 5 (es'.map eD),.sl 1 (cs'.map I),.sl 5 (ks'.map pD)])]) ks.length (fun i=>∀ (j : Nat) (x y : Pl),j < i → ks[j]? = some x → ks'[j]? = some y → x = y) 0 (fun j x y hj=>by omega) (Wk.list [1000000,1000001] rfl rfl ?_) (fun i hi hJ3=>?_) (Nat.zero_le _)
          ·repeat' (first|(conv in hold _=>simp (disch:=omega) only [go_sem])|exact trivial|exact Sub.refl _|omega)
           (repeat' apply And.intro) <;> rfl
          ·rcases at_or_end hi with ⟨x,hx0,hlt⟩ | rfl
           ·obtain ⟨y,hy0⟩ : ∃ y,ks'[i]? = some y:=⟨_,List.getElem?_eq_getElem (by omega)⟩
            have hmi : i < ks'.length:=by omega
            have hix:=hks x (List.mem_of_getElem? hx0) y (List.mem_of_getElem? hy0)
            by_cases hxy : x = y
            ·have hix:=hix.1 hxy
             refine go1 (cj2 @hx0 @hy0) ?_
             refine Uc trivial (hix) (go1 trivial ?_)
             refine ⟨hlt,upto_same hx0 hy0 hxy hJ3,Wk.list [1000000,1000001] rfl rfl ?_⟩
             repeat' (first|(conv in hold _=>simp (disch:=omega) only [go_sem])|exact trivial|exact Sub.refl _|omega)
            ·have hix:=hix.2 hxy
             rw [hff (fun h=>not_same hx0 hy0 hxy (by injection h))]
             refine go1 (cj2 @hx0 @hy0) ?_
             exact Uc trivial (hix) (go0 trivial)
           ·rw [ht (by rw [same_list hk hJ3,hee,hcc])]
            exact go0 trivial
     ·refine ⟨fun h=>absurd (by injection h with _ _ _ _ h; rw [h]) hk,fun _=>?_⟩
      exact Bg c_Z82 mixed (go0 (cj3 @he @hc @intsD.eq_1))
    ·refine ⟨fun h=>absurd (by injection h with _ _ _ h _; rw [h]) hc,fun _=>?_⟩
     exact Bg c_Z82 mixed (go0 (cj2 @he @intsD.eq_1))
   ·refine ⟨fun h=>absurd (by injection h with _ _ h _ _; rw [h]) he,fun _=>?_⟩
    exact Bg c_Z82 mixed (go0 @intsD.eq_1)
  ·refine ⟨fun h=>absurd (by injection h) h2,fun _=>?_⟩
   exact Bg c_Z82 mixed (go0 trivial)
 ·refine ⟨fun h=>absurd (by injection h) h1,fun _=>?_⟩
  exact Bg c_Z82 mixed (go0 trivial)
end Go.Proofs.YtgpdmgaemhelgaaGreat
set_option maxHeartbeats 4000000
set_option maxRecDepth 100000
namespace Go.Proofs.YtgpdmgaemhelgaaGreat
open Go.RowKit
theorem sum_next {ns : List Int} {i : Nat} {x : Int} (h : ns[i]? = some x) : (ns.take (i + 1)).sum = (ns.take i).sum + x:=by
 rw [take_next h,List.sum_append,List.sum_cons,List.sum_nil]
 omega
theorem sumOf_ok (ns : List Int) (hl : ns.length ≤ 1000) (hn : ∀ (j : Nat) (x : Int),ns[j]? = some x → 0 ≤ x ∧ x ≤ 6) : Does Tryz.prog 147 [] [intsD ns] (I ns.sum) []:=by
 refine Bg c_Z150 mixed (go1 trivial ?_)
 refine dw_for (c:=0) (l:=fun i=>[(3,I (ns.take i).sum),(6,intsD ns),(7,I ns.length),(8,I i)]) ns.length (fun i=>0 ≤ (ns.take i).sum ∧ (ns.take i).sum ≤ 6 * i) 0 (by simp) (Wk.list [] rfl rfl ?_) (fun i hi hJ=>?_) (Nat.zero_le _)
 ·repeat' (first|(conv in hold _=>simp (disch:=omega) only [go_sem])|exact trivial|exact Sub.refl _|omega)
  exact ⟨rfl,rfl⟩
 ·rcases at_or_end hi with ⟨x,hx,hlt⟩ | rfl
  ·have h1:=hn i x hx
   have h2:=sum_next hx
   refine go1 @hx ?_
   refine ⟨hlt,by omega,Wk.list [] rfl rfl ?_⟩
   repeat' (first|(conv in hold _=>simp (disch:=omega) only [go_sem,h2])|exact trivial|exact Sub.refl _|omega)
  ·repeat' (first|with_reducible refine acc_none ?_ | (conv in hold _=>simp (disch:=omega) only [go_sem,List.take_length])|refine Stp.go ?_|(with_reducible first|refine it_pos rfl ?_|refine it_neg (by decide) ?_|refine st_nil rfl ?_|refine s_op ?_ ?_|exact trivial)|((with_reducible first|refine dw_reg0 ?_|refine dw_regB ?_);(conv=>arg 3;whnf))|(refine Spl.go (fun hq he=>?_) (fun hq he=>?_)<;>first|(exfalso;clear hq;omega)|((try first|(conv=>arg 8;simp only [hq])|(conv=>arg 4;simp only [hq]));clear hq))|((with_reducible first|refine c_split (fun hq=>?_) (fun hq=>?_)|refine q_split (fun hq=>?_) (fun hq=>?_))<;>(try first|(conv=>arg 8;simp only [hq])|(conv=>arg 4;simp only [hq])))|(with_reducible refine fin_0 ?_ (by first|rfl|(conv=>lhs;simp only [go_sem,List.take_length])) ?_)|exact Sub.refl _|omega)
def fitsV (p : Pl) (ns : List Int) : Prop:=if p.k = 6 then ns.getD 0 0 = ns.getD 1 0 else if p.k = 8 then p.cs.length < 6 ∧ colsOk p.cs (ns.getD 0 0) else ∀ (j : Nat) (e : E),p.es[j]? = some e → (1 ≤ ns.sum ∧ ns.sum ≤ 6) ∧ eOk e ns.sum 8
noncomputable instance fitsDec (p : Pl) (ns : List Int) : Decidable (fitsV p ns):=Classical.propDecidable _
theorem get_at {ns : List Int} {i : Nat} (h : i < ns.length) : ns[i]? = some (ns.getD i 0):=by
 rw [List.getD_eq_getElem?_getD,List.getElem?_eq_getElem h,Option.getD_some]
theorem get_ex {ns : List Int} {i : Nat} (h : i < ns.length) : ∃ n,ns[i]? = some n ∧ ns.getD i 0 = n:=⟨_,get_at h,rfl⟩
theorem fitsKids_ok (p : Pl) (ns : List Int) (hl : ns.length ≤ 1000) (hc : p.cs.length ≤ 1048576) (he : p.es.length ≤ 1048576) (hn : ∀ (j : Nat) (x : Int),ns[j]? = some x → 0 ≤ x ∧ x ≤ 6) (h0 : 0 < ns.length) (h1 : p.k = 6 → 1 < ns.length) : Does Tryz.prog 101 [] [pD p,intsD ns] (Bo (decide (fitsV p ns))) []:=by
 obtain ⟨n0,e0,g0⟩:=get_ex h0
 by_cases h6 : p.k = 6
 ·obtain ⟨n1,e1,g1⟩:=get_ex (h1 h6)
  rw [show decide (fitsV p ns) = decide (n0 = n1) from decide_eq_decide.2 (by unfold fitsV; rw [if_pos h6,g0,g1])]
  exact Bg c_Z113 mixed (go0 (cj2 @e0 @e1))
 ·by_cases h8 : p.k = 8
  ·rw [show decide (fitsV p ns) = decide (p.cs.length < 6 ∧ colsOk p.cs n0) from decide_eq_decide.2 (by unfold fitsV; rw [if_neg h6,if_pos h8,g0])]
   have hv:=validColumns_ok p.cs n0 hc
   refine Bg c_Z113 mixed (go1 @e0 ?_)
   exact Uc trivial (hv) (go0 trivial)
  ·have hs:=sumOf_ok ns hl hn
   have hfv : fitsV p ns ↔ ∀ (j : Nat) (e : E),p.es[j]? = some e → (1 ≤ ns.sum ∧ ns.sum ≤ 6) ∧ eOk e ns.sum 8:=by unfold fitsV; rw [if_neg h6,if_neg h8]
   refine Bg c_Z113 mixed (go1 trivial ?_)
   refine dw_for (c:=0) (l:=fun i=>[(1,intsD ns),(27,.sl 5 (p.es.map eD)),(28,I p.es.length),(29,I i)]) p.es.length (fun i=>∀ (j : Nat) (e : E),j < i → p.es[j]? = some e → (1 ≤ ns.sum ∧ ns.sum ≤ 6) ∧ eOk e ns.sum 8) 0 (fun j w hj=>by omega) (Wk.list [] rfl rfl ?_) (fun i hi hJ=>?_) (Nat.zero_le _)
   ·repeat' (first|(conv in hold _=>simp (disch:=omega) only [go_sem])|exact trivial|exact Sub.refl _|omega)
    exact rfl
   ·rcases at_or_end hi with ⟨x,hx,hlt⟩ | rfl
    ·have hr:=implValidExpr_ok x ns.sum
     by_cases hv : (1 ≤ ns.sum ∧ ns.sum ≤ 6) ∧ eOk x ns.sum 8
     ·rw [decide_eq_true hv] at hr
      refine go1 @hx ?_
      refine Uc trivial (hs) (go1 trivial ?_)
      refine Uc trivial (hr) (go1 trivial ?_)
      refine ⟨hlt,upto1 (P:=fun _ e=>(1 ≤ ns.sum ∧ ns.sum ≤ 6) ∧ eOk e ns.sum 8) hx hv hJ,Wk.list [] rfl rfl ?_⟩
      repeat' (first|(conv in hold _=>simp (disch:=omega) only [go_sem])|exact trivial|exact Sub.refl _|omega)
     ·rw [decide_eq_false hv] at hr
      refine go1 @hx ?_
      refine Uc trivial (hs) (go1 trivial ?_)
      refine Uc trivial (hr) (go1 trivial ?_)
      exact sub_f (fun h=>hv (hfv.1 h i x hx))
    ·refine go1 trivial ?_
     exact sub_iff ⟨fun _=>hfv.2 (upto0 (P:=fun _ e=>(1 ≤ ns.sum ∧ ns.sum ≤ 6) ∧ eOk e ns.sum 8) hJ),fun _=>rfl⟩
def fromV (p : Pl) (ns : List Int) : Int:=if p.k = 3 then p.es.length else if p.k = 4 ∨ p.k = 5 then ns.sum else if p.k = 8 then p.cs.length + 1 else ns.getD 0 0
theorem widthFrom_ok (p : Pl) (ns : List Int) (hl : ns.length ≤ 1000) (hc : p.cs.length ≤ 1048576) (hn : ∀ (j : Nat) (x : Int),ns[j]? = some x → 0 ≤ x ∧ x ≤ 6) (h0 : 0 < ns.length) : Does Tryz.prog 102 [] [pD p,intsD ns] (I (fromV p ns)) []:=by
 obtain ⟨n0,e0,g0⟩:=get_ex h0
 have hs:=sumOf_ok ns hl hn
 unfold fromV
 rw [g0]
 by_cases h3 : p.k = 3
 ·rw [if_pos h3]
  exact Bg c_Z97 mixed (go0 trivial)
 ·rw [if_neg h3]
  by_cases h4 : p.k = 4 ∨ p.k = 5
  ·rw [if_pos h4]
   refine does0 c_Z97 mixed (Nat.le_of_ble_eq_true rfl) ?_
   conv=>arg 3; whnf
   repeat' (first|with_reducible refine acc_none ?_ | (conv in hold _=>simp (disch:=omega) only [go_sem])|refine Stp.go ?_|(with_reducible first|refine it_pos rfl ?_|refine it_neg (by decide) ?_|refine st_nil rfl ?_|refine s_op ?_ ?_|exact trivial)|((with_reducible first|refine dw_reg0 ?_|refine dw_regB ?_);(conv=>arg 3;whnf))|(refine Spl.go (fun hq he=>?_) (fun hq he=>?_)<;>first|(exfalso;clear hq;omega)|((try first|(conv=>arg 8;simp only [hq])|(conv=>arg 4;simp only [hq]));clear hq))|((with_reducible first|refine c_split (fun hq=>?_) (fun hq=>?_)|refine q_split (fun hq=>?_) (fun hq=>?_))<;>(try first|(conv=>arg 8;simp only [hq])|(conv=>arg 4;simp only [hq])))|(with_reducible refine fin_0 ?_ (by first|rfl|(conv=>lhs;simp only [go_sem])) ?_)|exact Sub.refl _|omega)
   all_goals
    exact Uc trivial (hs) (go0 trivial)
  ·rw [if_neg h4]
   by_cases h8 : p.k = 8
   ·rw [if_pos h8]
    exact Bg c_Z97 mixed (go0 trivial)
   ·rw [if_neg h8]
    exact Bg c_Z97 mixed (go0 @e0)
end Go.Proofs.YtgpdmgaemhelgaaGreat
set_option maxHeartbeats 4000000
set_option maxRecDepth 100000
namespace Go.Proofs.YtgpdmgaemhelgaaGreat
open Go.RowKit
theorem truth_not_ok (n : Int) (h : 0 ≤ n ∧ n ≤ 2) : Does Tryz.prog 207 [] [I n] (I (2 - n)) []:=by
 refine does0 c_Z96 mixed (Nat.le_of_ble_eq_true rfl) ?_
 conv=>arg 3; whnf
 repeat' (first|with_reducible refine acc_none ?_ | (conv in hold _=>simp (disch:=omega) only [go_sem])|refine Stp.go ?_|(with_reducible first|refine it_pos rfl ?_|refine it_neg (by decide) ?_|refine st_nil rfl ?_|refine s_op ?_ ?_|exact trivial)|((with_reducible first|refine dw_reg0 ?_|refine dw_regB ?_);(conv=>arg 3;whnf))|(refine Spl.go (fun hq he=>?_) (fun hq he=>?_)<;>first|(exfalso;clear hq;omega)|((try first|(conv=>arg 8;simp only [hq])|(conv=>arg 4;simp only [hq]));clear hq))|((with_reducible first|refine c_split (fun hq=>?_) (fun hq=>?_)|refine q_split (fun hq=>?_) (fun hq=>?_))<;>(try first|(conv=>arg 8;simp only [hq])|(conv=>arg 4;simp only [hq])))|(with_reducible refine fin_0 ?_ (by first|rfl|(conv=>lhs;simp only [go_sem])) ?_)|exact Sub.refl _|omega)
theorem truth_value_ok (n : Int) : Does Tryz.prog 208 [] [I n] (vD (itv n)) []:=by
 refine does0 c_Z59 mixed (Nat.le_of_ble_eq_true rfl) ?_
 conv=>arg 3; whnf
 repeat' (first|with_reducible refine acc_none ?_ | (conv in hold _=>simp (disch:=omega) only [go_sem])|refine Stp.go ?_|(with_reducible first|refine it_pos rfl ?_|refine it_neg (by decide) ?_|refine st_nil rfl ?_|refine s_op ?_ ?_|exact trivial)|((with_reducible first|refine dw_reg0 ?_|refine dw_regB ?_);(conv=>arg 3;whnf))|(refine Spl.go (fun hq he=>?_) (fun hq he=>?_)<;>first|(exfalso;clear hq;omega)|((try first|(conv=>arg 8;simp only [hq])|(conv=>arg 4;simp only [hq]));clear hq))|((with_reducible first|refine c_split (fun hq=>?_) (fun hq=>?_)|refine q_split (fun hq=>?_) (fun hq=>?_))<;>(try first|(conv=>arg 8;simp only [hq])|(conv=>arg 4;simp only [hq])))|(with_reducible refine fin_0 ?_ (by first|rfl|(conv=>lhs;simp only [go_sem])) ?_)|exact Sub.refl _|omega)
 ·rw [show itv n = ⟨false,0⟩ from if_pos he]; exact Sub.refl _
 ·rw [show itv n = ⟨false,1⟩ by unfold itv; rw [if_neg (by omega),if_pos he]]; exact Sub.refl _
 ·rw [show itv n = ⟨true,0⟩ by unfold itv; rw [if_neg (by omega),if_neg he]]; exact Sub.refl _
end Go.Proofs.YtgpdmgaemhelgaaGreat

/-
  Two lists, expressions, plans compared by the program. No condition.
-/
import Derived.Test.YtgpdmgaemhelgaaGreatKSDca
import Derived.Test.YtgpdmgaemhelgaaGreatJSVLaw
import Derived.Test.YtgpdmgaemhelgaaGreatJSVCpE
import Derived.Test.YtgpdmgaemhelgaaGreatJSVBox
import Derived.Test.YtgpdmgaemhelgaaGreatJSVYld
import Derived.Test.YtgpdmgaemhelgaaGreatJSVEsz
import Derived.Test.YtgpdmgaemhelgaaGreatJSVCols
import Derived.Test.YtgpdmgaemhelgaaGreatJSVClA
set_option maxHeartbeats 4000000
set_option maxRecDepth 100000
set_option linter.unusedVariables false
set_option linter.unusedSimpArgs false
namespace Go.Proofs.YtgpdmgaemhelgaaGreat
open Go.RowKit
def Cmp (f : FuncId) (xs : List D) (P : Prop) : Prop:=(P → Does Tryz.prog f [] xs (Bo true) []) ∧ (¬ P → Does Tryz.prog f [] xs (Bo false) [])
theorem same_list {α : Type} {l m : List α} (hlen : l.length = m.length) (h : ∀ (j : Nat) (x y : α),j < l.length → l[j]? = some x → m[j]? = some y → x = y) : l = m:=by
 apply List.ext_getElem? 
 intro j
 by_cases hj : j < l.length
 ·have h1 : l[j]? = some l[j]:=List.getElem?_eq_getElem hj
  have h2 : m[j]? = some (m[j]'(by omega)):=List.getElem?_eq_getElem (by omega)
  rw [h1,h2,h j _ _ hj h1 h2]
 ·rw [List.getElem?_eq_none (by omega),List.getElem?_eq_none (by omega)]
theorem sameI_ok (l m : List Int) (hl : l.length < 2000000) (hm : m.length < 2000000) : Cmp 111 [intsD l,intsD m] (l = m):=by
 by_cases hlen : l.length = m.length
 ·suffices hh : ∀ b : Bool,(l = m → b = true) → (¬ l = m → b = false) → Does Tryz.prog 111 [] [intsD l,intsD m] (Bo b) [] from ⟨fun h=>hh _ (fun _=>rfl) (fun h'=>absurd h h'),fun h=>hh _ (fun h'=>absurd h' h) (fun _=>rfl)⟩
  intro b ht hf
  refine Bg c_Z17 mixed (go1 @hlen ?_)
  refine dw_for (c:=0) (l:=fun i=>[(0,intsD l),(1,intsD m),(12,I l.length),(13,I i)]) l.length (fun i=>∀ (j : Nat) (x y : Int),j < i → l[j]? = some x → m[j]? = some y → x = y) 0 (fun j x y hj=>by omega) (Wk.list [] rfl rfl ?_) (fun i hi hJ=>?_) (Nat.zero_le _)
  ·repeat' (first|(conv in hold _=>simp (disch:=omega) only [go_sem,hlen])|exact trivial|exact Sub.refl _|omega)
   (repeat' apply And.intro) <;> rfl
  ·rcases at_or_end hi with ⟨x,hx0,hlt⟩ | rfl
   ·obtain ⟨y,hy0⟩ : ∃ y,m[i]? = some y:=⟨_,List.getElem?_eq_getElem (by omega)⟩
    have hmi : i < m.length:=by omega
    by_cases hxy : x = y
    ·subst hxy
     refine go1 (cj2 @hx0 @hy0) ?_
     refine ⟨hlt,fun j x' y' hj h1 h2=>?_,Wk.list [] rfl rfl ?_⟩
     ·by_cases hji : j = i
      ·subst hji
       rw [hx0] at h1
       rw [hy0] at h2
       cases h1
       cases h2
       rfl
      ·exact hJ j x' y' (by omega) h1 h2
     ·repeat' (first|(conv in hold _=>simp (disch:=omega) only [go_sem])|exact trivial|exact Sub.refl _|omega)
    ·rw [hf (fun h=>hxy (by subst h; rw [hx0] at hy0; exact Option.some.inj hy0))]
     have hb : (x != y) = true:=bne_iff_ne.2 hxy
     exact go0 (cj3 @hx0 @hy0 @hb)
   ·rw [ht (same_list hlen hJ)]
    exact go0 trivial
 ·refine ⟨fun h=>absurd (by rw [h]) hlen,fun _=>?_⟩
  exact Bg c_Z17 mixed (go0 trivial)
theorem sameEs_ok {f : FuncId} (hf : enters Tryz.prog f = true) (l m : List E) (hl : l.length < 2000000) (hm : m.length < 2000000) (h : ∀ x,x ∈ l → ∀ y,y ∈ m → Cmp f [eD x,eD y] (x = y)) : Cmp 112 [.sl 5 (l.map eD),.sl 5 (m.map eD),.fn f []] (l = m):=by
 by_cases hlen : l.length = m.length
 ·suffices hh : ∀ b : Bool,(l = m → b = true) → (¬ l = m → b = false) → Does Tryz.prog 112 [] [.sl 5 (l.map eD),.sl 5 (m.map eD),.fn f []] (Bo b) [] from ⟨fun h=>hh _ (fun _=>rfl) (fun h'=>absurd h h'),fun h=>hh _ (fun h'=>absurd h' h) (fun _=>rfl)⟩
  intro b ht hff
  refine Bg c_Z0 mixed (go1 @hlen ?_)
  refine dw_for (c:=0) (l:=fun i=>[(1,.sl 5 (m.map eD)),(2,.fn f []),(15,.sl 5 (l.map eD)),(16,I l.length),(17,I i)]) l.length (fun i=>∀ (j : Nat) (x y : E),j < i → l[j]? = some x → m[j]? = some y → x = y) 0 (fun j x y hj=>by omega) (Wk.list [] rfl rfl ?_) (fun i hi hJ=>?_) (Nat.zero_le _)
  ·repeat' (first|(conv in hold _=>simp (disch:=omega) only [go_sem,hlen,List.length_map])|exact trivial|exact Sub.refl _|omega)
   (repeat' apply And.intro) <;> rfl
  ·rcases at_or_end hi with ⟨x,hx0,hlt⟩ | rfl
   ·obtain ⟨y,hy0⟩ : ∃ y,m[i]? = some y:=⟨_,List.getElem?_eq_getElem (by omega)⟩
    have hmi : i < m.length:=by omega
    have hix:=h x (List.mem_of_getElem? hx0) y (List.mem_of_getElem? hy0)
    by_cases hxy : x = y
    ·have hix:=hix.1 hxy
     refine go1 (cj2 @hx0 @hy0) ?_
     refine v_fn (hf) ?_
     refine Uc trivial (hix) (go1 trivial ?_)
     refine ⟨hlt,fun j x' y' hj h1 h2=>?_,Wk.list [] rfl rfl ?_⟩
     ·by_cases hji : j = i
      ·subst hji
       rw [hx0] at h1
       rw [hy0] at h2
       cases h1
       cases h2
       exact hxy
      ·exact hJ j x' y' (by omega) h1 h2
     ·repeat' (first|(conv in hold _=>simp (disch:=omega) only [go_sem])|exact trivial|exact Sub.refl _|omega)
    ·have hix:=hix.2 hxy
     rw [hff (fun h=>hxy (by subst h; rw [hx0] at hy0; exact Option.some.inj hy0))]
     refine go1 (cj2 @hx0 @hy0) ?_
     refine v_fn (hf) ?_
     exact Uc trivial (hix) (go0 trivial)
   ·rw [ht (same_list hlen hJ)]
    exact go0 trivial
 ·refine ⟨fun h=>absurd (by rw [h]) hlen,fun _=>?_⟩
  exact Bg c_Z0 mixed (go0 trivial)
theorem sameExpr_ok : ∀ e : E,esz e ≤ 1048577 → ∀ f : E,esz f ≤ 1048577 → Cmp 113 [eD e,eD f] (e = f):=by
 refine E.ind (fun e ih he f hf=>?_)
 rw [esz_eq] at he hf
 have hle:=eszL_len e.ks
 have hlf:=eszL_len f.ks
 have hks:=sameEs_ok (f:=113) (by kernel_rfl) e.ks f.ks (by omega) (by omega) (fun x hx y hy=>ih x hx (by have:=eszL_mem hx; omega) y (by have:=eszL_mem hy; omega))
 obtain ⟨k,c,v,ks⟩:=e
 obtain ⟨k',c',v',ks'⟩:=f
 obtain ⟨vb,vn⟩:=v
 obtain ⟨vb',vn'⟩:=v'
 simp only [E.ks_mk] at hks
 clear ih he hf hle hlf
 by_cases h1 : k = k'
 ·subst h1
  by_cases h2 : c = c'
  ·subst h2
   by_cases h3 : vb = vb'
   ·subst h3
    by_cases h4 : vn = vn'
    ·subst h4
     refine ⟨fun h=>?_,fun h=>?_⟩
     ·have hks:=hks.1 (by injection h)
      refine Bg c_Z129 mixed (go1 @Bool.and_self ?_)
      exact Uc trivial (hks) (go0 trivial)
     ·have hks:=hks.2 (fun g=>h (by rw [g]))
      refine Bg c_Z129 mixed (go1 @Bool.and_self ?_)
      exact Uc trivial (hks) (go0 trivial)
    ·refine ⟨fun h=>absurd (by injection h with _ _ h _; injection h) h4,fun _=>?_⟩
     have hb : (vn == vn') = false:=beq_eq_false_iff_ne.2 h4
     exact Bg c_Z129 mixed (go0 (cj3 @hb @Bool.and_false @Bool.false_and))
   ·refine ⟨fun h=>absurd (by injection h with _ _ h _; injection h) h3,fun _=>?_⟩
    have hb : (vb == vb') = false:=beq_eq_false_iff_ne.2 h3
    exact Bg c_Z129 mixed (go0 (cj3 @hb @Bool.and_false @Bool.false_and))
  ·refine ⟨fun h=>absurd (by injection h) h2,fun _=>?_⟩
   exact Bg c_Z129 mixed (go0 trivial)
 ·refine ⟨fun h=>absurd (by injection h) h1,fun _=>?_⟩
  exact Bg c_Z129 mixed (go0 trivial)
theorem samePs_ok {f : FuncId} (hf : enters Tryz.prog f = true) (l m : List Pl) (hl : l.length < 2000000) (hm : m.length < 2000000) (h : ∀ x,x ∈ l → ∀ y,y ∈ m → Cmp f [pD x,pD y] (x = y)) : Cmp 114 [.sl 5 (l.map pD),.sl 5 (m.map pD),.fn f []] (l = m):=by
 by_cases hlen : l.length = m.length
 ·suffices hh : ∀ b : Bool,(l = m → b = true) → (¬ l = m → b = false) → Does Tryz.prog 114 [] [.sl 5 (l.map pD),.sl 5 (m.map pD),.fn f []] (Bo b) [] from ⟨fun h=>hh _ (fun _=>rfl) (fun h'=>absurd h h'),fun h=>hh _ (fun h'=>absurd h' h) (fun _=>rfl)⟩
  intro b ht hff
  refine Bg c_Z1 mixed (go1 @hlen ?_)
  refine dw_for (c:=0) (l:=fun i=>[(1,.sl 5 (m.map pD)),(2,.fn f []),(15,.sl 5 (l.map pD)),(16,I l.length),(17,I i)]) l.length (fun i=>∀ (j : Nat) (x y : Pl),j < i → l[j]? = some x → m[j]? = some y → x = y) 0 (fun j x y hj=>by omega) (Wk.list [] rfl rfl ?_) (fun i hi hJ=>?_) (Nat.zero_le _)
  ·repeat' (first|(conv in hold _=>simp (disch:=omega) only [go_sem,hlen,List.length_map])|exact trivial|exact Sub.refl _|omega)
   (repeat' apply And.intro) <;> rfl
  ·rcases at_or_end hi with ⟨x,hx0,hlt⟩ | rfl
   ·obtain ⟨y,hy0⟩ : ∃ y,m[i]? = some y:=⟨_,List.getElem?_eq_getElem (by omega)⟩
    have hmi : i < m.length:=by omega
    have hix:=h x (List.mem_of_getElem? hx0) y (List.mem_of_getElem? hy0)
    by_cases hxy : x = y
    ·have hix:=hix.1 hxy
     refine go1 (cj2 @hx0 @hy0) ?_
     refine v_fn (hf) ?_
     refine Uc trivial (hix) (go1 trivial ?_)
     refine ⟨hlt,fun j x' y' hj h1 h2=>?_,Wk.list [] rfl rfl ?_⟩
     ·by_cases hji : j = i
      ·subst hji
       rw [hx0] at h1
       rw [hy0] at h2
       cases h1
       cases h2
       exact hxy
      ·exact hJ j x' y' (by omega) h1 h2
     ·repeat' (first|(conv in hold _=>simp (disch:=omega) only [go_sem])|exact trivial|exact Sub.refl _|omega)
    ·have hix:=hix.2 hxy
     rw [hff (fun h=>hxy (by subst h; rw [hx0] at hy0; exact Option.some.inj hy0))]
     refine go1 (cj2 @hx0 @hy0) ?_
     refine v_fn (hf) ?_
     exact Uc trivial (hix) (go0 trivial)
   ·rw [ht (same_list hlen hJ)]
    exact go0 trivial
 ·refine ⟨fun h=>absurd (by rw [h]) hlen,fun _=>?_⟩
  exact Bg c_Z1 mixed (go0 trivial)
theorem samePlan_ok : ∀ p : Pl,psz p ≤ 1048576 → ∀ q : Pl,psz q ≤ 1048576 → Cmp 66 [pD p,pD q] (p = q):=by
 refine Pl.indA (fun p ih hp q hq=>?_)
 rw [psz_eq] at hp hq
 have l1:=eszL_len p.es
 have l2:=eszL_len q.es
 have l3:=pszL_len p.ks
 have l4:=pszL_len q.ks
 have hes:=sameEs_ok (f:=113) (by kernel_rfl) p.es q.es (by omega) (by omega) (fun x hx y hy=>sameExpr_ok x (by have:=eszL_mem hx; omega) y (by have:=eszL_mem hy; omega))
 have hcs:=sameI_ok p.cs q.cs (by omega) (by omega)
 have hks:=samePs_ok (f:=66) (by kernel_rfl) p.ks q.ks (by omega) (by omega) (fun x hx y hy=>ih x hx (by have:=pszL_mem hx; omega) y (by have:=pszL_mem hy; omega))
 obtain ⟨k,t,es,cs,ks⟩:=p
 obtain ⟨k',t',es',cs',ks'⟩:=q
 simp only [Pl.es_mk,Pl.cs_mk,Pl.ks_mk] at hes hcs hks
 clear ih hp hq l1 l2 l3 l4
 by_cases h1 : k = k'
 ·subst h1
  by_cases h2 : t = t'
  ·subst h2
   by_cases h3 : cs = cs'
   ·have hcs:=hcs.1 h3
    subst h3
    by_cases h4 : es = es'
    ·have hes:=hes.1 h4
     subst h4
     refine ⟨fun h=>?_,fun h=>?_⟩
     ·have hks:=hks.1 (by injection h)
      refine Bg c_Z130 mixed (go1 trivial ?_)
      refine Uc trivial (hcs) (go1 trivial ?_)
      refine Uc trivial (hes) (go1 trivial ?_)
      exact Uc trivial (hks) (go0 trivial)
     ·have hks:=hks.2 (fun g=>h (by rw [g]))
      refine Bg c_Z130 mixed (go1 trivial ?_)
      refine Uc trivial (hcs) (go1 trivial ?_)
      refine Uc trivial (hes) (go1 trivial ?_)
      exact Uc trivial (hks) (go0 trivial)
    ·have hes:=hes.2 h4
     refine ⟨fun h=>absurd (by injection h) h4,fun _=>?_⟩
     refine Bg c_Z130 mixed (go1 trivial ?_)
     refine Uc trivial (hcs) (go1 trivial ?_)
     exact Uc trivial (hes) (go0 trivial)
   ·have hcs:=hcs.2 h3
    refine ⟨fun h=>absurd (by injection h) h3,fun _=>?_⟩
    refine Bg c_Z130 mixed (go1 trivial ?_)
    exact Uc trivial (hcs) (go0 trivial)
  ·refine ⟨fun h=>absurd (by injection h) h2,fun _=>?_⟩
   exact Bg c_Z130 mixed (go0 trivial)
 ·refine ⟨fun h=>absurd (by injection h) h1,fun _=>?_⟩
  exact Bg c_Z130 mixed (go0 trivial)
end Go.Proofs.YtgpdmgaemhelgaaGreat
set_option maxHeartbeats 4000000
set_option maxRecDepth 100000
set_option linter.unusedVariables false
set_option linter.unusedSimpArgs false
namespace Go.Proofs.YtgpdmgaemhelgaaGreat
open Go.RowKit
def tri {α : Type} (x y z : α) : Nat → α
 | 0=>x
 | 1=>y
 | _=>z
theorem tri_0 {α : Type} (x y z : α) : tri x y z 0 = x:=rfl
theorem tri_1 {α : Type} (x y z : α) : tri x y z 1 = y:=rfl
theorem tri_2 {α : Type} (x y z : α) : tri x y z 2 = z:=rfl
theorem cst0 : ((0 : Nat) : Int) = 0:=rfl
theorem growP_ok (n : Nat) (h0 : 0 < n) (hn : n ≤ 1000000) : Does Tryz.prog 204 [] [.nul,I n] (.own 1000000 1 0) [.row 1 (List.replicate n (I 0))]:=by
 have hp : D.renL [2000022] (List.replicate n (I 0)) = List.replicate n (I 0):=by rw [D.renL_map,List.map_replicate]; rfl
 refine Bk c_Z8 mixed 0 (go1 (cj3 @cst0 @Int.sub_self @Int.sub_zero) ?_)
 refine fin_L [2000022] ?_ ?_ rfl ?_
 all_goals exact Ag (cj4 @cst0 @Int.sub_self @Int.sub_zero @hp)
theorem concatP_own (a b : List Int) (h0 : 0 < a.length + b.length) (hl : a.length + b.length ≤ 1000000) : Does Tryz.prog 192 [] [.sl 1 [intsD a,intsD b]] (.own 1000000 1 (a.length + b.length)) [.row 1 ((a ++ b).map I)]:=by
 have hg:=growP_ok (a.length + b.length) h0 (by omega)
 have e0 : (List.replicate (a.length + b.length) (I 0)).take 0 = []:=rfl
 have ea:=take_all I a
 have hp : ∀ L,D.renL L (List.replicate (a.length + b.length) (I 0)) = List.replicate (a.length + b.length) (I 0):=fun L=>by rw [D.renL_map,List.map_replicate]; rfl
 have ec : (((a.length + b.length : Nat) : Int)) = (a.length : Int) + (b.length : Int):=by omega
 refine Bk c_Z6 mixed 0 (go1 trivial ?_)
 refine dw_for (c:=0) (l:=fun i=>[(0,.sl 1 [intsD a,intsD b]),(3,I (tri 0 (a.length : Int) (a.length + b.length : Nat) i)),(9,.sl 1 [intsD a,intsD b]),(10,I 2),(11,I (tri 0 1 2 i))]) 2 (fun _=>True) 0 trivial (Wk.list [] rfl rfl ?_) (fun i hi _=>?_) (by decide)
 ·repeat' (first|(conv in hold _=>simp (disch:=omega) only [go_sem,tri_0,Int.reduceAdd])|exact trivial|exact Sub.refl _|omega)
  first | exact rfl | exact ⟨rfl,rfl⟩
 ·have h3 : i = 0 ∨ i = 1 ∨ i = 2:=by omega
  rcases h3 with rfl | rfl | rfl
  ·refine go1 (cj2 @tri_0 @Int.zero_add) ?_
   refine ⟨by decide,trivial,Wk.list [] rfl rfl ?_⟩
   repeat' (first|(conv in hold _=>simp (disch:=omega) only [go_sem,tri_1,Nat.reduceAdd,Int.reduceAdd])|exact trivial|exact Sub.refl _|omega)
  ·refine go1 @tri_1 ?_
   refine ⟨by decide,trivial,Wk.list [] rfl rfl ?_⟩
   repeat' (first|(conv in hold _=>simp (disch:=omega) only [go_sem,tri_2,Nat.reduceAdd,Int.reduceAdd,ec])|exact trivial|exact Sub.refl _|omega)
  ·refine go1 @tri_2 ?_
   refine UcR [3000001] trivial (hg) (go1 trivial ?_)
   refine dw_for (c:=1) (l:=fun i=>[(6,.own 1000000 1 (tri 0 a.length (a.length + b.length) i)),(25,.sl 1 [intsD a,intsD b]),(26,I 2),(27,I (tri 0 1 2 i)),(1000000,.row 1 (tri (List.replicate (a.length + b.length) (I 0)) (a.map I) ((a ++ b).map I) i))]) 2 (fun _=>True) 0 trivial (Wk.list [3000001] rfl rfl ?_) (fun i hi _=>?_) (by decide)
   ·repeat' (first|(conv in hold _=>simp (disch:=omega) only [go_sem,tri_0,Int.reduceAdd,hp])|exact trivial|exact Sub.refl _|omega)
    first | exact rfl | exact ⟨rfl,rfl⟩
   ·have h3 : i = 0 ∨ i = 1 ∨ i = 2:=by omega
    rcases h3 with rfl | rfl | rfl
    ·refine go1 (cj2 @tri_0 @e0) ?_
     refine ⟨by decide,trivial,Wk.list [2000033] rfl rfl ?_⟩
     repeat' (first|(conv in hold _=>simp (disch:=omega) only [go_sem,tri_1,Nat.reduceAdd,Int.reduceAdd,e0])|exact trivial|exact Sub.refl _|omega)
    ·refine go1 (cj2 @tri_1 @ea) ?_
     refine ⟨by decide,trivial,Wk.list [2000033] rfl rfl ?_⟩
     repeat' (first|(conv in hold _=>simp (disch:=omega) only [go_sem,tri_2,Nat.reduceAdd,Int.reduceAdd,ea])|exact trivial|exact Sub.refl _|omega)
     rw [List.map_append]
    ·refine go1 @tri_2 ?_
     refine fin_L [1000000] ?_ ?_ rfl ?_
     all_goals exact Ag @tri_2
theorem below_ok (pre : List Int) (i : Nat) (hl : pre.length ≤ 900000) : Does Tryz.prog 177 [] [intsD pre,I i] (intsD (pre ++ [(i : Int)])) []:=by
 have hc:=concatP_own pre [(i : Int)] (by simp) (by simp; omega)
 have e1 : (pre ++ [(i : Int)]).length = pre.length + [(i : Int)].length:=List.length_append
 have hlm : ((pre ++ [(i : Int)]).map I).length = pre.length + [(i : Int)].length:=by rw [List.length_map,e1]
 have ht : ((pre ++ [(i : Int)]).map I).take (pre.length + [(i : Int)].length) = (pre ++ [(i : Int)]).map I:=List.take_of_length_le (by omega)
 have hpu : D.purL ((pre ++ [(i : Int)]).map I) = true:=ints_pur _
 unfold intsD at hc ⊢
 generalize (pre ++ [(i : Int)]).map I = rr at *
 have hrr:=fun L=>ren_pure.renL_pure L rr hpu
 generalize pre.length + [(i : Int)].length = n at *
 refine Bg c_Z32 mixed (go1F trivial ?_)
 refine UcR [3000001] trivial (hc) (go1F trivial ?_)
 refine fin_wk (wk_frz 4 3000001 (by decide) (by decide) rfl ?_) ?_
 rotate_left
 (conv in hold _=>simp (disch:=omega) only [go_sem,ht,hlm,hrr,Nat.le_refl])
 ·refine fin_L [] ?_ ?_ rfl ?_
  all_goals exact Ag (cj3 @ht @hlm @hrr)
 ·rw [hrr]; exact hpu
def tupP (x : List Int × Pl) : D:=.tup [intsD x.1,pD x.2]
theorem yieldParts_ok (i e : Nat) (L : List D) : ∀ p,psz p ≤ 600000 → ∀ (pre : List Int) (k k' : Nat) (b : Bool),pre.length + psz p ≤ 900000 → k ≤ e → (∀ j x,(ptP p pre)[j]? = some x → L[k + j]? = some (tupP x)) →
  k' = min (k + (ptP p pre).length) (e + 1) → b = decide (k + (ptP p pre).length ≤ e) → YCalls Tryz.prog 150 i L e [pD p,intsD pre,.v (.func (.yield i) #[] #[])] k (Bo b) k':=by
 refine Pl.indA (fun p ih hs pre k k' b hpre hk hL hk' hb=>?_)
 have hps:=psz_eq p
 have hlk:=pszL_len p.ks
 have hN : (ptP p pre).length = 1 + (ptL p.ks pre 0).length:=by rw [ptP_eq,List.length_cons]; omega
 have h0 : L[k]? = some (.tup [intsD pre,pD p]):=hL 0 (pre,p) (by rw [ptP_eq]; rfl)
 rw [pD_eq] at h0
 have htk:=ptL_take p.ks pre
 refine ycalls_of c_Z83 mixed (Nat.le_of_ble_eq_true rfl) rfl ?_
 conv=>arg 3; whnf
 refine go1 trivial ?_
 refine v_yld (by ((conv=>lhs; simp (disch:=omega) only [go_sem]); try rfl)) (hk) (h0) (by first | rfl | (simp only [go_sem])) ?_
 repeat' (first|with_reducible refine acc_none ?_ | (conv in hold _=>simp (disch:=omega) only [go_sem])|refine Stp.go ?_|(with_reducible first|refine it_pos rfl ?_|refine it_neg (by decide) ?_|refine st_nil rfl ?_|refine s_op ?_ ?_|exact trivial)|((with_reducible first|refine dw_reg0 ?_|refine dw_regB ?_);(conv=>arg 3;whnf))|(refine Spl.go (fun hq he=>?_) (fun hq he=>?_)<;>first|(exfalso;clear hq;omega)|((try first|(conv=>arg 8;simp only [hq])|(conv=>arg 4;simp only [hq]));clear hq))|((with_reducible first|refine c_split (fun hq=>?_) (fun hq=>?_)|refine q_split (fun hq=>?_) (fun hq=>?_))<;>(try first|(conv=>arg 8;simp only [hq])|(conv=>arg 4;simp only [hq])))|(with_reducible refine fin_0 ?_ (by first|rfl|(conv=>lhs;simp only [go_sem])) ?_)|exact Sub.refl _|omega)
 ·have hke : k = e:=Classical.byContradiction he
  obtain rfl : k' = k + 1:=by omega
  obtain rfl : b = false:=by rw [hb]; exact decide_eq_false (by omega)
  refine ⟨?_,?_,?_⟩
  ·((conv=>lhs; simp (disch:=omega) only [go_sem]); try rfl)
  ·first | exact True.intro | (repeat' apply And.intro) <;> exact True.intro
  ·((conv=>lhs; simp (disch:=omega) only [go_sem]); try rfl)
 ·have hke : k < e:=by omega
  refine dw_for (c:=1) (l:=fun j=>[(1,intsD pre),(2,.v (.func (.yield i) #[] #[])),(3,.ref 1000000 0),(15,.sl 5 (p.ks.map pD)),(16,I p.ks.length),(17,I j),(1000000,.obj [I p.k,I p.t,.sl 5 (p.es.map eD),intsD p.cs,.sl 5 (p.ks.map pD)]),(gh,.gho i L e (k + (1 + (ptL (p.ks.take j) pre 0).length)))]) p.ks.length (fun j=>k + (1 + (ptL (p.ks.take j) pre 0).length) ≤ e) 0 (by rw [List.take_zero,ptL]; show k + 1 ≤ e; omega) (Wk.list [2000003] rfl rfl ?_) (fun j hj hJ=>?_) (Nat.zero_le _)
  ·repeat' (first|(conv in hold _=>simp (disch:=omega) only [go_sem,List.take_zero,ptL])|exact trivial|exact Sub.refl _|omega)
   (repeat' apply And.intro) <;> rfl
  ·rcases at_or_end hj with ⟨x,hx0,hlt⟩ | rfl
   ·have hxs:=pszL_mem (List.mem_of_getElem? hx0)
    have hb1:=below_ok pre j (by omega)
    have hnx:=ptL_next (pre:=pre) hx0
    have hle:=htk (j + 1)
    rw [hnx,List.length_append] at hle
    have hcx:=fun (k1 : Nat) (b1 : Bool)=>ih x (List.mem_of_getElem? hx0) (by omega) (pre ++ [(j : Int)]) (k + (1 + (ptL (p.ks.take j) pre 0).length)) k1 b1 (by rw [List.length_append,List.length_singleton]; omega) hJ (fun j2 y hy=>by
     have:=hL (1 + (ptL (p.ks.take j) pre 0).length + j2) y (by
      rw [ptP_eq,show 1 + (ptL (p.ks.take j) pre 0).length + j2 = ((ptL (p.ks.take j) pre 0).length + j2) + 1 by omega,List.getElem?_cons_succ]
      have h1:=ptL_append (p.ks.take (j + 1)) (p.ks.drop (j + 1)) pre 0
      rw [List.take_append_drop,hnx,List.append_assoc] at h1
      rw [h1,List.getElem?_append_right (by omega),Nat.add_sub_cancel_left,List.getElem?_append_left (List.getElem?_eq_some_iff.1 hy).1]
      exact hy)
     rw [← Nat.add_assoc] at this
     exact this)
    rw [pD_eq x] at hcx
    rw [hnx,List.length_append]
    generalize (ptL (p.ks.take j) pre 0).length = c at *
    generalize (ptP x (pre ++ [(j : Int)])).length = cx at *
    unfold intsD at hb1 hcx
    by_cases hall : k + (1 + c) + cx ≤ e
    ·have hy:=hcx (k + (1 + c) + cx) true (by omega) (by rw [decide_eq_true hall])
     refine go1 (cj2 @hx0 @intsD.eq_1) ?_
     refine Uc trivial (hb1) (go1C trivial ?_)
     refine s_ycall (by ((conv=>lhs; simp (disch:=omega) only [go_sem]); try rfl)) (hy) (by ((conv=>lhs; simp (disch:=omega) only [go_sem]); try rfl)) (by first | rfl | (simp only [go_sem])) (by first | rfl | (simp only [go_sem])) ?_
     refine go1 trivial ?_
     refine ⟨hlt,by omega,Wk.list [1000000] rfl rfl ?_⟩
     repeat' (first|(conv in hold _=>simp (disch:=omega) only [go_sem,intsD])|exact trivial|exact Sub.refl _|omega)
     exact congrArg (fun n=>D.gho i L e n) (by omega)
    ·have hy:=hcx (e + 1) false (by omega) (by rw [decide_eq_false hall])
     obtain rfl : k' = e + 1:=by omega
     obtain rfl : b = false:=by rw [hb]; exact decide_eq_false (by omega)
     refine go1 (cj2 @hx0 @intsD.eq_1) ?_
     refine Uc trivial (hb1) (go1C trivial ?_)
     refine s_ycall (by ((conv=>lhs; simp (disch:=omega) only [go_sem]); try rfl)) (hy) (by ((conv=>lhs; simp (disch:=omega) only [go_sem]); try rfl)) (by first | rfl | (simp only [go_sem])) (by first | rfl | (simp only [go_sem])) ?_
     refine go1 trivial ?_
     refine ⟨?_,?_,?_⟩
     ·((conv=>lhs; simp (disch:=omega) only [go_sem]); try rfl)
     ·first | exact True.intro | (repeat' apply And.intro) <;> exact True.intro
     ·((conv=>lhs; simp (disch:=omega) only [go_sem]); try rfl)
   ·rw [List.take_length] at *
    obtain rfl : k' = k + (1 + (ptL p.ks pre 0).length):=by omega
    obtain rfl : b = true:=by rw [hb]; exact decide_eq_true (by omega)
    refine go1 trivial ?_
    refine ⟨?_,?_,?_⟩
    ·((conv=>lhs; simp (disch:=omega) only [go_sem]); try rfl)
    ·first | exact True.intro | (repeat' apply And.intro) <;> exact True.intro
    ·((conv=>lhs; simp (disch:=omega) only [go_sem]); try rfl)
theorem partsOf_yields (p : Pl) (hs : psz p ≤ 600000) : Yields Tryz.prog 149 [.ptr [I p.k,I p.t,.sl 5 (p.es.map eD),intsD p.cs,.sl 5 (p.ks.map pD)]] ((ptP p []).map tupP):=by
 have hy:=fun (i e : Nat)=>(yieldParts_ok i e ((ptP p []).map tupP) p hs [] 0 (min (0 + (ptP p []).length) (e + 1)) (decide (0 + (ptP p []).length ≤ e)) (by simp; omega) (Nat.zero_le _) (fun j x hx=>by rw [Nat.zero_add,List.getElem?_map,hx]; rfl) rfl rfl).weak (es:=[pD p,.nul,.v (.func (.yield i) #[] #[])]) ⟨Sub.refl _,Sub.nul 1,Sub.refl _,trivial⟩ (Sub.refl _)
 rw [pD_eq p] at hy
 simp only [Nat.zero_add] at hy
 unfold intsD at hy
 refine yields c_Z104 mixed (Nat.le_of_ble_eq_true rfl) (fun i e=>?_)
 conv=>arg 3; whnf
 refine go1C trivial ?_
 refine s_ycall (by ((conv=>lhs; simp (disch:=omega) only [go_sem]); try rfl)) ((hy i e)) (by ((conv=>lhs; simp (disch:=omega) only [go_sem]); try rfl)) (by first | rfl | (simp only [go_sem])) (by first | rfl | (simp only [go_sem])) ?_
 refine go1 trivial ?_
 refine ⟨(min (ptP p []).length (e + 1)),?_,?_⟩
 ·((conv=>lhs; simp (disch:=omega) only [go_sem]); try rfl)
 simp only [List.length_map]
 omega
theorem partsOf_ok (p : Pl) : Does Tryz.prog 107 [] [pD p] (.fn 149 [.ptr [I p.k,I p.t,.sl 5 (p.es.map eD),intsD p.cs,.sl 5 (p.ks.map pD)]]) []:=by
 refine Bg c_Z143 mixed (go1F trivial ?_)
 refine fin_wk (wk_fro 2 2000001 (by decide) (by decide) rfl ?_) ?_
 rotate_left
 (conv in hold _=>simp (disch:=omega) only [go_sem])
 ·refine fin_L [] ?_ ?_ rfl ?_
  all_goals exact Ag trivial
 ·rfl
end Go.Proofs.YtgpdmgaemhelgaaGreat

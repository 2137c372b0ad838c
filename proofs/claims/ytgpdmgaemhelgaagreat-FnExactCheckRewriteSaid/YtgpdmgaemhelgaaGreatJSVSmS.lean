/-
  The copy of a plan, off a stack: nodes, lists of numbers and of plans. No condition.
-/
import Derived.Test.YtgpdmgaemhelgaaGreatKSDca
import Derived.Test.YtgpdmgaemhelgaaGreatJSDck
import Derived.Test.YtgpdmgaemhelgaaGreatJSVEvS
import Derived.Test.YtgpdmgaemhelgaaGreatJSVOcc
import Derived.Test.YtgpdmgaemhelgaaGreatJSVGo
import Derived.Test.YtgpdmgaemhelgaaGreatJSVSzI
import Derived.Test.YtgpdmgaemhelgaaGreatJSVSzE
import Derived.Test.YtgpdmgaemhelgaaGreatKSDcj
import Derived.Test.YtgpdmgaemhelgaaGreatJSVWidA
set_option maxHeartbeats 4000000
set_option maxRecDepth 100000
set_option linter.unusedVariables false
set_option linter.unusedSimpArgs false
namespace Go.Proofs.YtgpdmgaemhelgaaGreat
open Go.RowKit
theorem clonePlans_ok (es : List Pl) (h0 : 0 < es.length) (hl : es.length < 1000000) : Does Tryz.prog 93 [] [.sl 5 (es.map pD)] (.own 1000000 5 es.length) [.row 5 (es.map pD)]:=by
 refine Bk c_Z3 mixed 0 (go1 trivial ?_)
 refine fin_L [2000007] ?_ ?_ rfl ?_
 repeat' (first|(conv in hold _=>simp (disch:=omega) only [go_sem])|exact trivial|exact Sub.refl _|omega)
end Go.Proofs.YtgpdmgaemhelgaaGreat
set_option linter.unusedVariables false
set_option linter.unusedSimpArgs false
namespace Go.Proofs.YtgpdmgaemhelgaaGreat
open Go.RowKit
def rbF (k : Int) : List Nat → Nat
 | []=>5
 | [a]=>a
 | a :: b :: _=>if k = 6 then a + b else a * (b + 1)
mutual
def rb : Pl → Nat
 | .mk k _ _ _ ks=>rbF k (rbL ks)
def rbL : List Pl → List Nat
 | []=>[]
 | p :: l=>rb p :: rbL l
end
def capB (a b : Nat) : Nat:=if a = 0 then (if b = 0 then 5 else 10) else (if b = 0 then 30 else 60)
end Go.Proofs.YtgpdmgaemhelgaaGreat
set_option maxHeartbeats 4000000
set_option maxRecDepth 100000
namespace Go.Proofs.YtgpdmgaemhelgaaGreat
open Go.RowKit
theorem szPlanS_ok (l : List Pl) (hl : l.length ≤ big) (left : Int) (h0 : 0 ≤ left) (h1 : left ≤ 1048576) (ih : ∀ x,x ∈ l → ∀ left : Int,0 ≤ left → left ≤ 1048576 → Does Tryz.prog 40 [] [pD x,I left] (I (szV (psz x) left)) []) :
  Does Tryz.prog 72 [] [.sl 5 (l.map pD),I left] (I (szV (pszL l) left)) []:=by
 unfold big at hl
 have hlen:=pszL_len l
 by_cases hfit : (l.length : Int) ≤ left
 ·refine Bg c_Z124 mixed (go1 trivial ?_)
  refine dw_for (c:=0) (l:=fun i=>[(0,.sl 5 (l.map pD)),(1,I (left - l.length - (pszL (l.take i) - i))),(5,I i)]) l.length (fun i=>0 ≤ left - l.length - ((pszL (l.take i) : Int) - i)) 0 (by rw [List.take_zero,pszL]; omega) (Wk.list [] rfl rfl ?_) (fun i hi hJ=>?_) (Nat.zero_le _)
  ·repeat' (first|(conv in hold _=>simp (disch:=omega) only [go_sem])|exact trivial|exact Sub.refl _|omega)
   rw [pszL]
   exact ⟨congrArg (fun n=>D.v (Value.int .i64 n)) (by omega),rfl⟩
  ·have hlow:=pszL_low l i hi
   rcases at_or_end hi with ⟨x,hx,hlt⟩ | rfl
   ·have hnx:=pszL_next hx
    have hrest:=pszL_rest l (i + 1)
    have hix:=ih x (List.mem_of_getElem? hx) (left - l.length - (pszL (l.take i) - i)) hJ (by omega)
    by_cases hx0 : (psz x : Int) ≤ left - l.length - (pszL (l.take i) - i)
    ·rw [szV_t hx0] at hix
     refine go1 @hx ?_
     refine Uc trivial (hix) (go1 trivial ?_)
     refine ⟨hlt,by omega,Wk.list [] rfl rfl ?_⟩
     repeat' (first|(conv in hold _=>simp (disch:=omega) only [go_sem])|exact trivial|exact Sub.refl _|omega)
     exact congrArg (fun n=>D.v (Value.int .i64 n)) (by omega)
    ·rw [szV_f hx0] at hix
     rw [szV_f (by omega)]
     refine go1 @hx ?_
     exact Uc trivial (hix) (go0 trivial)
   ·rw [List.take_length] at hJ hlow
    rw [szV_t (by omega)]
    repeat' (first|with_reducible refine acc_none ?_ | (conv in hold _=>simp (disch:=omega) only [go_sem,List.take_length])|refine Stp.go ?_|(with_reducible first|refine it_pos rfl ?_|refine it_neg (by decide) ?_|refine st_nil rfl ?_|refine s_op ?_ ?_|exact trivial)|((with_reducible first|refine dw_reg0 ?_|refine dw_regB ?_);(conv=>arg 3;whnf))|(refine Spl.go (fun hq he=>?_) (fun hq he=>?_)<;>first|(exfalso;clear hq;omega)|((try first|(conv=>arg 8;simp only [hq])|(conv=>arg 4;simp only [hq]));clear hq))|((with_reducible first|refine c_split (fun hq=>?_) (fun hq=>?_)|refine q_split (fun hq=>?_) (fun hq=>?_))<;>(try first|(conv=>arg 8;simp only [hq])|(conv=>arg 4;simp only [hq])))|(with_reducible refine fin_0 ?_ (by first|rfl|(conv=>lhs;simp only [go_sem,List.take_length])) ?_)|exact Sub.refl _|omega)
    exact Sub.of_eq (congrArg (fun n=>D.v (Value.int .i64 n)) (by omega))
 ·rw [szV_f (by omega)]
  exact Bg c_Z124 mixed (go0 trivial)
theorem szPlan_ok : ∀ (p : Pl),MostP p → ∀ left : Int,0 ≤ left → left ≤ 1048576 → Does Tryz.prog 40 [] [pD p,I left] (I (szV (psz p) left)) []:=by
 refine Pl.indA (fun p ih hm left h0 h1=>?_)
 rw [psz_eq]
 have h:=szExprS_ok p.es hm.lens.1 left h0 h1 (fun x hx=>szExpr_ok x (hm.expr hx))
 by_cases hf : (eszL p.es : Int) ≤ left
 ·rw [szV_t hf] at h
  have h':=szIntS_ok p.cs hm.lens.2.1 (left - eszL p.es) (by omega) (by omega)
  by_cases hg : (p.cs.length : Int) ≤ left - eszL p.es
  ·rw [szV_t hg] at h'
   have h'':=szPlanS_ok p.ks hm.lens.2.2 (left - eszL p.es - p.cs.length) (by omega) (by omega) (fun x hx=>ih x hx (hm.kid hx))
   by_cases hk : (pszL p.ks : Int) ≤ left - eszL p.es - p.cs.length
   ·rw [szV_t hk] at h''
    rw [szV_t (by omega)]
    refine Bg c_Z144 mixed (go1 trivial ?_)
    refine Uc trivial (h) (go1 trivial ?_)
    refine Uc trivial (h') (go1 trivial ?_)
    refine Uc trivial (h'') (go1 trivial ?_)
    exact Sub.of_eq (congrArg (fun n=>D.v (Value.int .i64 n)) (by omega))
   ·rw [szV_f hk] at h''
    rw [szV_f (by omega)]
    refine Bg c_Z144 mixed (go1 trivial ?_)
    refine Uc trivial (h) (go1 trivial ?_)
    refine Uc trivial (h') (go1 trivial ?_)
    exact Uc trivial (h'') (go0 trivial)
  ·rw [szV_f hg] at h'
   rw [szV_f (by omega)]
   refine Bg c_Z144 mixed (go1 trivial ?_)
   refine Uc trivial (h) (go1 trivial ?_)
   exact Uc trivial (h') (go0 trivial)
 ·rw [szV_f hf] at h
  rw [szV_f (by omega)]
  refine Bg c_Z144 mixed (go1 trivial ?_)
  exact Uc trivial (h) (go0 trivial)
def zPD : D:=.agg [I 0,I 0,.nul,.nul,.nul]
theorem pD_purS (p : Pl) : (pD p).pur = true:=by rw [pD_eq]; simp only [go_sem]
theorem toPlanS_ok (l : List Pl) (hl : pszL l ≤ 1048576) (ih : ∀ x,x ∈ l → Does Tryz.prog 42 [] [pD x] (pD x) []) : Does Tryz.prog 75 [] [.sl 5 (l.map pD)] (.sl 5 (l.map pD)) []:=by
 have hlen:=pszL_len l
 have hz:=fil_zero pD zPD l
 have hren:=fil_ren pD zPD pD_purS rfl l
 refine Bg c_Z127 mixed (go1 trivial ?_)
 refine dw_for (c:=1) (l:=fun i=>[(0,.sl 5 (l.map pD)),(3,.own 1000000 5 l.length),(4,I i),(1000000,.row 5 (fil pD zPD l i))]) l.length (fun _=>True) 0 trivial (Wk.list [2000007] rfl rfl ?_) (fun i hi _=>?_) (Nat.zero_le _)
 ·repeat' (first|(conv in hold _=>simp (disch:=omega) only [go_sem,hren])|exact trivial|exact Sub.refl _|omega)
  rw [hz]
  exact ⟨rfl,rfl⟩
 ·have hfl:=fil_len pD zPD l hi
  have hft:=fil_take pD zPD l hi
  rcases at_or_end hi with ⟨x,hx,hlt⟩ | rfl
  ·have hix:=ih x (List.mem_of_getElem? hx)
   have hst:=fil_set pD zPD hx
   rw [pD_eq,intsD] at hst
   have hgi : (fil pD zPD l i)[i]? = some (.agg [I 0,I 0,.nul,.nul,.nul]):=fil_get pD zPD hlt
   refine go1 (cj4 @hx @hfl @hft @hgi) ?_
   refine Uc (cj3 @hfl @hft @hgi) (hix) (go1 (cj3 @hfl @hft @hgi) ?_)
   refine ⟨hlt,trivial,Wk.list [1000000] rfl rfl ?_⟩
   repeat' (first|(conv in hold _=>simp (disch:=omega) only [go_sem,hst,hren])|exact trivial|exact Sub.refl _|omega)
  ·have he:=fil_end pD zPD l
   refine go1F @he ?_
   refine fin_wk (wk_frz 2 1000000 (by decide) (by decide) rfl ?_) ?_
   rotate_left
   (conv in hold _=>simp (disch:=omega) only [go_sem,hft,he,hfl])
   ·refine fin_L [] ?_ ?_ rfl ?_
    repeat' (first|(conv in hold _=>simp (disch:=omega) only [go_sem])|exact trivial|exact Sub.refl _|omega)
   ·exact plans_pur _
theorem toPlan_ok : ∀ p : Pl,psz p ≤ 1048576 → Does Tryz.prog 42 [] [pD p] (pD p) []:=by
 refine Pl.indA (fun p ih h=>?_)
 rw [psz_eq] at h
 have h1:=toExprS_ok p.es (by omega) (fun x hx=>toExpr_ok x (by have:=eszL_mem hx; omega))
 have h2:=toIntS_ok p.cs (by omega)
 have h3:=toPlanS_ok p.ks (by omega) (fun x hx=>ih x hx (by have:=pszL_mem hx; omega))
 refine Bg c_Z148 mixed (go1 trivial ?_)
 refine Uc trivial (h1) (go1 trivial ?_)
 refine Uc trivial (h2) (go1 trivial ?_)
 exact Uc trivial (h3) (go0 trivial)
theorem eqPlanS_ok (l : List Pl) (ih : ∀ x,x ∈ l → Does Tryz.prog 45 [] [pD x,pD x] (Bo true) []) (hl : pszL l ≤ 1048576) : Does Tryz.prog 78 [] [.sl 5 (l.map pD),.sl 5 (l.map pD)] (Bo true) []:=by
 have hlen:=pszL_len l
 refine Bg c_Z120 mixed (go1 trivial ?_)
 refine dw_for (c:=0) (l:=fun i=>[(0,.sl 5 (l.map pD)),(1,.sl 5 (l.map pD)),(5,I i)]) l.length (fun _=>True) 0 trivial (Wk.list [] rfl rfl ?_) (fun i hi _=>?_) (Nat.zero_le _)
 ·repeat' (first|(conv in hold _=>simp (disch:=omega) only [go_sem])|exact trivial|exact Sub.refl _|omega)
  exact rfl
 ·rcases at_or_end hi with ⟨x,hx,hlt⟩ | rfl
  ·have hix:=ih x (List.mem_of_getElem? hx)
   refine go1 @hx ?_
   refine Uc trivial (hix) (go1 trivial ?_)
   refine ⟨hlt,trivial,Wk.list [] rfl rfl ?_⟩
   repeat' (first|(conv in hold _=>simp (disch:=omega) only [go_sem])|exact trivial|exact Sub.refl _|omega)
  ·exact go0 trivial
theorem eqPlan_ok : ∀ p : Pl,psz p ≤ 1048576 → Does Tryz.prog 45 [] [pD p,pD p] (Bo true) []:=by
 refine Pl.indA (fun p ih h=>?_)
 rw [psz_eq] at h
 have h1:=eqExprS_ok p.es (fun x hx=>eqExpr_ok x (by have:=eszL_mem hx; omega)) (by omega)
 have h2:=eqIntS_ok p.cs (by omega)
 have h3:=eqPlanS_ok p.ks (fun x hx=>ih x hx (by have:=pszL_mem hx; omega)) (by omega)
 refine Bg c_Z140 mixed (go1 trivial ?_)
 refine Uc trivial (h1) (go1 trivial ?_)
 refine Uc trivial (h2) (go1 trivial ?_)
 exact Uc trivial (h3) (go0 trivial)
end Go.Proofs.YtgpdmgaemhelgaaGreat
set_option maxHeartbeats 4000000
set_option maxRecDepth 100000
set_option linter.unusedVariables false
set_option linter.unusedSimpArgs false
namespace Go.Proofs.YtgpdmgaemhelgaaGreat
open Go.RowKit
mutual
def ptP : Pl → List Int → List (List Int × Pl)
 | .mk k t es cs ks,pre=>(pre,.mk k t es cs ks) :: ptL ks pre 0
def ptL : List Pl → List Int → Nat → List (List Int × Pl)
 | [],_,_=>[]
 | p :: l,pre,i=>ptP p (pre ++ [(i : Int)]) ++ ptL l pre (i + 1)
end
theorem ptP_eq (p : Pl) (pre : List Int) : ptP p pre = (pre,p) :: ptL p.ks pre 0:=by cases p; rfl
theorem ptL_append : ∀ (l m : List Pl) (pre : List Int) (i : Nat),ptL (l ++ m) pre i = ptL l pre i ++ ptL m pre (i + l.length)
 | [],m,pre,i=>by rw [List.nil_append,ptL,List.nil_append]; rfl
 | p :: l,m,pre,i=>by
  rw [List.cons_append,ptL,ptL,ptL_append l m,List.append_assoc,List.length_cons]
  congr 3
  omega
theorem ptL_next {ks : List Pl} {pre : List Int} {i : Nat} {x : Pl} (h : ks[i]? = some x) : ptL (ks.take (i + 1)) pre 0 = ptL (ks.take i) pre 0 ++ ptP x (pre ++ [(i : Int)]):=by
 have hl:=(List.getElem?_eq_some_iff.1 h).1
 rw [take_next h,ptL_append,ptL,ptL,List.append_nil,Nat.zero_add,List.length_take,Nat.min_eq_left (by omega)]
theorem ptL_take (ks : List Pl) (pre : List Int) (i : Nat) : (ptL (ks.take i) pre 0).length ≤ (ptL ks pre 0).length:=by
 have h:=ptL_append (ks.take i) (ks.drop i) pre 0
 rw [List.take_append_drop] at h
 rw [h,List.length_append]
 omega
theorem ptL_mem : ∀ {l : List Pl} {pre : List Int} {i : Nat} {x : List Int × Pl},x ∈ ptL l pre i → ∃ (j : Nat) (p : Pl),l[j]? = some p ∧ x ∈ ptP p (pre ++ [((i + j : Nat) : Int)])
 | [],pre,i,x,h=>by cases h
 | p :: l,pre,i,x,h=>by
  rw [ptL,List.mem_append] at h
  rcases h with h | h
  ·exact ⟨0,p,rfl,h⟩
  ·obtain ⟨j,q,hq,hx⟩:=ptL_mem h
   exact ⟨j + 1,q,hq,by rw [show i + (j + 1) = i + 1 + j by omega]; exact hx⟩
end Go.Proofs.YtgpdmgaemhelgaaGreat
set_option maxHeartbeats 4000000
set_option maxRecDepth 100000
set_option linter.unusedVariables false
set_option linter.unusedSimpArgs false
namespace Go.Proofs.YtgpdmgaemhelgaaGreat
open Go.RowKit
theorem Cmp.of {f : FuncId} {xs : List D} {P : Prop} (h : ∀ b : Bool,(P → b = true) → (¬ P → b = false) → Does Tryz.prog f [] xs (Bo b) []) : Cmp f xs P:=
 ⟨fun g=>h _ (fun _=>rfl) (fun h'=>absurd g h'),fun g=>h _ (fun h'=>absurd h' g) (fun _=>rfl)⟩
theorem upto_same {α : Type} {l m : List α} {i : Nat} {x y : α} (hx : l[i]? = some x) (hy : m[i]? = some y) (hxy : x = y) (hJ : ∀ (j : Nat) (x y : α),j < i → l[j]? = some x → m[j]? = some y → x = y) : ∀ (j : Nat) (x y : α),j < i + 1 → l[j]? = some x → m[j]? = some y → x = y:=by
 intro j x' y' hj h1 h2
 by_cases hji : j = i
 ·subst hji
  rw [hx] at h1
  rw [hy] at h2
  cases h1
  cases h2
  exact hxy
 ·exact hJ j x' y' (by omega) h1 h2
theorem not_same {α : Type} {l m : List α} {i : Nat} {x y : α} (hx : l[i]? = some x) (hy : m[i]? = some y) (hxy : ¬ x = y) : ¬ l = m:=fun h=>hxy (by subst h; rw [hx] at hy; exact Option.some.inj hy)
theorem equalExprs_ok : ∀ e : E,esz e ≤ 1048577 → ∀ f : E,esz f ≤ 1048577 → Cmp 115 [eD e,eD f] (e = f):=by
 refine E.ind (fun e ih he f hf=>?_)
 rw [esz_eq] at he hf
 have hle:=eszL_len e.ks
 have hlf:=eszL_len f.ks
 have hks:=fun x (hx : x ∈ e.ks) y (hy : y ∈ f.ks)=>ih x hx (by have:=eszL_mem hx; omega) y (by have:=eszL_mem hy; omega)
 obtain ⟨k,c,v,ks⟩:=e
 obtain ⟨k',c',v',ks'⟩:=f
 obtain ⟨vb,vn⟩:=v
 obtain ⟨vb',vn'⟩:=v'
 simp only [E.ks_mk] at hks he hf hle hlf
 clear ih
 by_cases h1 : k = k'
 ·subst h1
  by_cases h2 : c = c'
  ·subst h2
   by_cases h3 : vb = vb'
   ·subst h3
    by_cases h4 : vn = vn'
    ·subst h4
     by_cases hlen : ks.length = ks'.length
     ·refine Cmp.of fun b ht hff=>?_
      refine Bg c_Z73 mixed (go1 (cj2 @Bool.and_self @hlen) ?_)
      refine dw_for (c:=2) (l:=fun i=>[(2,.ref 1000000 0),(3,.ref 1000001 0),(5,I i),(1000000,.obj [I k,I c,Bo vb,I vn,.sl 5 (ks.map eD)]),(1000001,.obj [I k,I c,Bo vb,I vn,.sl 5 (ks'.map eD)])]) ks.length (fun i=>∀ (j : Nat) (x y : E),j < i → ks[j]? = some x → ks'[j]? = some y → x = y) 0 (fun j x y hj=>by omega) (Wk.list [2000002,2000003] rfl rfl ?_) (fun i hi hJ=>?_) (Nat.zero_le _)
      ·repeat' (first|(conv in hold _=>simp (disch:=omega) only [go_sem])|exact trivial|exact Sub.refl _|omega)
       (repeat' apply And.intro) <;> rfl
      ·rcases at_or_end hi with ⟨x,hx0,hlt⟩ | rfl
       ·obtain ⟨y,hy0⟩ : ∃ y,ks'[i]? = some y:=⟨_,List.getElem?_eq_getElem (by omega)⟩
        have hmi : i < ks'.length:=by omega
        have hix:=hks x (List.mem_of_getElem? hx0) y (List.mem_of_getElem? hy0)
        by_cases hxy : x = y
        ·have hix:=hix.1 hxy
         refine go1 (cj2 @hx0 @hy0) ?_
         refine Uc trivial (hix) (go1 trivial ?_)
         refine ⟨hlt,upto_same hx0 hy0 hxy hJ,Wk.list [1000000,1000001] rfl rfl ?_⟩
         repeat' (first|(conv in hold _=>simp (disch:=omega) only [go_sem])|exact trivial|exact Sub.refl _|omega)
        ·have hix:=hix.2 hxy
         rw [hff (fun h=>not_same hx0 hy0 hxy (by injection h))]
         refine go1 (cj2 @hx0 @hy0) ?_
         exact Uc trivial (hix) (go0 trivial)
       ·rw [ht (by rw [same_list hlen hJ])]
        exact go0 trivial
     ·refine ⟨fun h=>absurd (by injection h with _ _ _ h; rw [h]) hlen,fun _=>?_⟩
      exact Bg c_Z73 mixed (go0 @Bool.and_self)
    ·refine ⟨fun h=>absurd (by injection h with _ _ h _; injection h) h4,fun _=>?_⟩
     have hb : (vn == vn') = false:=beq_eq_false_iff_ne.2 h4
     exact Bg c_Z73 mixed (go0 (cj3 @hb @Bool.and_false @Bool.false_and))
   ·refine ⟨fun h=>absurd (by injection h with _ _ h _; injection h) h3,fun _=>?_⟩
    have hb : (vb == vb') = false:=beq_eq_false_iff_ne.2 h3
    exact Bg c_Z73 mixed (go0 (cj3 @hb @Bool.and_false @Bool.false_and))
  ·refine ⟨fun h=>absurd (by injection h) h2,fun _=>?_⟩
   exact Bg c_Z73 mixed (go0 trivial)
 ·refine ⟨fun h=>absurd (by injection h) h1,fun _=>?_⟩
  exact Bg c_Z73 mixed (go0 trivial)
theorem equalPlansS_ok : ∀ p : Pl,psz p ≤ 1048576 → ∀ q : Pl,psz q ≤ 1048576 → Cmp 67 [pD p,pD q] (p = q):=by
 refine Pl.indA (fun p ih hp q hq=>?_)
 rw [psz_eq] at hp hq
 have l1:=eszL_len p.es
 have l2:=eszL_len q.es
 have l3:=pszL_len p.ks
 have l4:=pszL_len q.ks
 have hes:=fun x (hx : x ∈ p.es) y (hy : y ∈ q.es)=>equalExprs_ok x (by have:=eszL_mem hx; omega) y (by have:=eszL_mem hy; omega)
 have hks:=fun x (hx : x ∈ p.ks) y (hy : y ∈ q.ks)=>ih x hx (by have:=pszL_mem hx; omega) y (by have:=pszL_mem hy; omega)
 obtain ⟨k,t,es,cs,ks⟩:=p
 obtain ⟨k',t',es',cs',ks'⟩:=q
 simp only [Pl.es_mk,Pl.cs_mk,Pl.ks_mk] at hes hks l1 l2 l3 l4 hp hq
 clear ih
 by_cases h1 : k = k'
 ·subst h1
  by_cases h2 : t = t'
  ·subst h2
   by_cases he : es.length = es'.length
   ·by_cases hc : cs.length = cs'.length
    ·by_cases hk : ks.length = ks'.length
     ·refine Cmp.of fun b ht hff=>?_
      refine Bg c_Z74 mixed (go1 (cj4 @he @hc @hk @intsD.eq_1) ?_)
      refine dw_for (c:=2) (l:=fun i=>[(2,.ref 1000000 0),(3,.ref 1000001 0),(5,I i),(1000000,.obj [I k,I t,.sl 5 (es.map eD),.sl 1 (cs.map I),.sl 5 (ks.map pD)]),(1000001,.obj [I k,I t,.sl 5 (es'.map eD),.sl 1 (cs'.map I),.sl 5 (ks'.map pD)])]) es.length (fun i=>∀ (j : Nat) (x y : E),j < i → es[j]? = some x → es'[j]? = some y → x = y) 0 (fun j x y hj=>by omega) (Wk.list [2000002,2000003] rfl rfl ?_) (fun i hi hJ=>?_) (Nat.zero_le _)
      ·repeat' (first|(conv in hold _=>simp (disch:=omega) only [go_sem])|exact trivial|exact Sub.refl _|omega)
       (repeat' apply And.intro) <;> rfl
      ·rcases at_or_end hi with ⟨x,hx0,hlt⟩ | rfl
       ·obtain ⟨y,hy0⟩ : ∃ y,es'[i]? = some y:=⟨_,List.getElem?_eq_getElem (by omega)⟩
        have hmi : i < es'.length:=by omega
        have hix:=hes x (List.mem_of_getElem? hx0) y (List.mem_of_getElem? hy0)
        by_cases hxy : x = y
        ·have hix:=hix.1 hxy
         refine go1 (cj2 @hx0 @hy0) ?_
         refine Uc trivial (hix) (go1 trivial ?_)
         refine ⟨hlt,upto_same hx0 hy0 hxy hJ,Wk.list [1000000,1000001] rfl rfl ?_⟩
         repeat' (first|(conv in hold _=>simp (disch:=omega) only [go_sem])|exact trivial|exact Sub.refl _|omega)
        ·have hix:=hix.2 hxy
         rw [hff (fun h=>not_same hx0 hy0 hxy (by injection h))]
         refine go1 (cj2 @hx0 @hy0) ?_
         exact Uc trivial (hix) (go0 trivial)
       ·have hee:=same_list he hJ
        refine go1 trivial ?_
        refine dw_for (c:=2) (l:=fun i=>[(2,.ref 1000000 0),(3,.ref 1000001 0),(6,I i),(1000000,.obj [I k,I t,.sl 5 (es.map eD),.sl 1 (cs.map I),.sl 5 (ks.map pD)]),(1000001,.obj [I k,I t,.sl 5 (es'.map eD),.sl 1 (cs'.map I),.sl 5 (ks'.map pD)])]) cs.length (fun i=>∀ (j : Nat) (x y : Int),j < i → cs[j]? = some x → cs'[j]? = some y → x = y) 0 (fun j x y hj=>by omega) (Wk.list [1000000,1000001] rfl rfl ?_) (fun i hi hJ2=>?_) (Nat.zero_le _)
        ·repeat' (first|(conv in hold _=>simp (disch:=omega) only [go_sem])|exact trivial|exact Sub.refl _|omega)
         (repeat' apply And.intro) <;> rfl
        ·rcases at_or_end hi with ⟨x,hx0,hlt⟩ | rfl
         ·obtain ⟨y,hy0⟩ : ∃ y,cs'[i]? = some y:=⟨_,List.getElem?_eq_getElem (by omega)⟩
          have hmi : i < cs'.length:=by omega
          by_cases hxy : x = y
          ·have hb : (x != y) = false:=bne_eq_false_iff_eq.2 hxy
           refine go1 (cj3 @hx0 @hy0 @hb) ?_
           refine ⟨hlt,upto_same hx0 hy0 hxy hJ2,Wk.list [1000000,1000001] rfl rfl ?_⟩
           repeat' (first|(conv in hold _=>simp (disch:=omega) only [go_sem])|exact trivial|exact Sub.refl _|omega)
          ·have hb : (x != y) = true:=bne_iff_ne.2 hxy
           rw [hff (fun h=>not_same hx0 hy0 hxy (by injection h))]
           exact go0 (cj3 @hx0 @hy0 @hb)
         ·have hcc:=same_list hc hJ2
          refine go1 trivial ?_
          refine dw_for (c:=2) (l:=fun i=>[(2,.ref 1000000 0),(3,.ref 1000001 0),(7,I i),(1000000,.obj [I k,I t,.sl 5 (es.map eD),.sl 1 (cs.map I),.sl 5 (ks.map pD)]),(1000001,.obj [I k,I t,.sl 5 (es'.map eD),.sl 1 (cs'.map I),.sl 5 (ks'.map pD)])]) ks.length (fun i=>∀ (j : Nat) (x y : Pl),j < i → ks[j]? = some x → ks'[j]? = some y → x = y) 0 (fun j x y hj=>by omega) (Wk.list [1000000,1000001] rfl rfl ?_) (fun i hi hJ3=>?_) (Nat.zero_le _)
          ·repeat' (first|(conv in hold _=>simp (disch:=omega) only [go_sem])|exact trivial|exact Sub.refl _|omega)
           (repeat' apply And.intro) <;> rfl
          ·rcases at_or_end hi with ⟨x,hx0,hlt⟩ | rfl
           ·obtain ⟨y,hy0⟩ : ∃ y,ks'[i]? = some y:=⟨_,List.getElem?_eq_getElem (by omega)⟩
            have hmi : i < ks'.length:=by omega
            have hix:=hks x (List.mem_of_getElem? hx0) y (List.mem_of_getElem? hy0)
            by_cases hxy : x = y
            ·have hix:=hix.1 hxy
             refine go1 (cj2 @hx0 @hy0) ?_
             refine Uc trivial (hix) (go1 trivial ?_)
             refine ⟨hlt,upto_same hx0 hy0 hxy hJ3,Wk.list [1000000,1000001] rfl rfl ?_⟩
             repeat' (first|(conv in hold _=>simp (disch:=omega) only [go_sem])|exact trivial|exact Sub.refl _|omega)
            ·have hix:=hix.2 hxy
             rw [hff (fun h=>not_same hx0 hy0 hxy (by injection h))]
             refine go1 (cj2 @hx0 @hy0) ?_
             exact Uc trivial (hix) (go0 trivial)
           ·rw [ht (by rw [same_list hk hJ3,hee,hcc])]
            exact go0 trivial
     ·refine ⟨fun h=>absurd (by injection h with _ _ _ _ h; rw [h]) hk,fun _=>?_⟩
      exact Bg c_Z74 mixed (go0 (cj3 @he @hc @intsD.eq_1))
    ·refine ⟨fun h=>absurd (by injection h with _ _ _ h _; rw [h]) hc,fun _=>?_⟩
     exact Bg c_Z74 mixed (go0 (cj2 @he @intsD.eq_1))
   ·refine ⟨fun h=>absurd (by injection h with _ _ h _ _; rw [h]) he,fun _=>?_⟩
    exact Bg c_Z74 mixed (go0 @intsD.eq_1)
  ·refine ⟨fun h=>absurd (by injection h) h2,fun _=>?_⟩
   exact Bg c_Z74 mixed (go0 trivial)
 ·refine ⟨fun h=>absurd (by injection h) h1,fun _=>?_⟩
  exact Bg c_Z74 mixed (go0 trivial)
end Go.Proofs.YtgpdmgaemhelgaaGreat

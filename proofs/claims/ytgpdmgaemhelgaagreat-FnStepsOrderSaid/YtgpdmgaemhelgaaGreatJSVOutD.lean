/-
  The width of a plan, in both packages. No condition.
-/
import Derived.Test.YtgpdmgaemhelgaaGreatJSDcVWid
import Derived.Test.YtgpdmgaemhelgaaGreatKSDca
import Derived.Test.YtgpdmgaemhelgaaGreatJSVOutB
import Derived.Test.YtgpdmgaemhelgaaGreatJSVYld
import Derived.Test.YtgpdmgaemhelgaaGreatKSDcb
set_option maxHeartbeats 4000000
set_option maxRecDepth 100000
namespace Go.Proofs.YtgpdmgaemhelgaaGreat
open Go.RowKit
theorem list_of {α β : Type} {P : α → β → Prop} : ∀ l : List α,(∀ x,x ∈ l → ∃ y,P x y) → ∃ m : List β,m.length = l.length ∧ ∀ (i : Nat) (x : α) (y : β),l[i]? = some x → m[i]? = some y → P x y
 | [],_=>⟨[],rfl,fun i x y h=>by simp at h⟩
 | a :: l,h=>by
  obtain ⟨b,hb⟩:=h a (List.mem_cons_self ..)
  obtain ⟨m,hm,hp⟩:=list_of l (fun x hx=>h x (List.mem_cons_of_mem _ hx))
  refine ⟨b :: m,by rw [List.length_cons,List.length_cons,hm],fun i x y hx hy=>?_⟩
  rcases i with _ | i
  ·cases hx; cases hy; exact hb
  ·exact hp i x y (by simpa using hx) (by simpa using hy)
theorem resV_range (p : Pl) (ns : List Int) (hn : ∀ (j : Nat) (x : Int),ns[j]? = some x → 0 ≤ x ∧ x ≤ 6) : 0 ≤ resV p ns ∧ resV p ns ≤ 6:=by
 by_cases hz : zeroIn ns
 ·rw [resV_z hz]; decide
 ·by_cases hq : fieldsI p ∧ fitsV p ns
  ·rw [resV_t hz hq.1 hq.2]
   have hf:=hq.1
   have hv:=hq.2
   unfold fieldsI fields at hf
   unfold fromV
   by_cases h3 : p.k = 3
   ·rw [if_pos h3]; omega
   ·rw [if_neg h3]
    by_cases h4 : p.k = 4 ∨ p.k = 5
    ·rw [if_pos h4]
     unfold fitsV at hv
     rw [if_neg (by omega),if_neg (by omega)] at hv
     obtain ⟨x,hx⟩ : ∃ x,p.es[0]? = some x:=⟨_,List.getElem?_eq_getElem (by omega)⟩
     have:=(hv 0 x hx).1
     omega
    ·rw [if_neg h4]
     by_cases h8 : p.k = 8
     ·rw [if_pos h8]
      unfold fitsV at hv
      rw [if_neg (by omega),if_pos h8] at hv
      have:=hv.1
      omega
     ·rw [if_neg h8,List.getD_eq_getElem?_getD]
      cases h0 : ns[0]? with
      | none=>decide
      | some x=>exact hn 0 x h0
  ·rw [resV_f hq]; decide
theorem widthWithin_neg (p : Pl) (ws : List Int) : Does Tryz.prog 56 [] [pD p,intsD ws,I (-1)] (I 0) []:=by
 exact Bg c_Z64 mixed (go0 trivial)
theorem widthWithin_no (p : Pl) (ws : List Int) (d : Nat) (hf : ¬ fieldsI p) : Does Tryz.prog 56 [] [pD p,intsD ws,I d] (I 0) []:=by
 have ho:=hasOwnFields_ok p
 rw [decide_eq_false hf] at ho
 refine Bg c_Z64 mixed (go1 trivial ?_)
 exact Uc trivial (ho) (go0 trivial)
theorem planWidth_no (p : Pl) (ws : List Int) (d : Int) (hf : ¬ fields p) : Does Tryz.prog 95 [] [pD p,intsD ws,I d] (I 0) []:=by
 have ho:=onlyFields_ok p
 rw [decide_eq_false hf] at ho
 refine Bg c_Z104 mixed (go1 trivial ?_)
 exact Uc trivial (ho) (go0 trivial)
theorem planWidth_0 (p : Pl) (ws : List Int) (hf : fields p) (hk : 0 < p.ks.length) : Does Tryz.prog 95 [] [pD p,intsD ws,I 0] (I 0) []:=by
 have ho:=onlyFields_ok p
 rw [decide_eq_true hf] at ho
 refine Bg c_Z104 mixed (go1 trivial ?_)
 exact Uc trivial (ho) (go0 trivial)
def scanV (ws : List Int) (t : Int) : Int:=if 0 ≤ t ∧ t ≤ ws.length - 1 then ws.getD t.toNat 0 else 0
theorem scan_range {ws : List Int} (hw : wsOk ws) (t : Int) : 0 ≤ scanV ws t ∧ scanV ws t ≤ 6:=by
 unfold scanV
 split
 ·rw [List.getD_eq_getElem?_getD]
  cases h0 : ws[t.toNat]? with
  | none=>decide
  | some x=>have:=hw.2 _ x h0; exact ⟨by show (0 : Int) ≤ x; omega,by show x ≤ 6; omega⟩
 ·decide
theorem planWidth_scan (p : Pl) (ws : List Int) (hw : wsOk ws) (d : Int) (hf : fields p) (hk : p.k = 1) : Does Tryz.prog 95 [] [pD p,intsD ws,I d] (I (scanV ws p.t)) []:=by
 have ho:=onlyFields_ok p
 rw [decide_eq_true hf] at ho
 have hwl:=hw.1
 have hks : p.ks.length = 0:=by unfold fields at hf; omega
 have hr:=inRange_ok p.t 0 (ws.length - 1)
 refine Bg c_Z104 mixed (go1 trivial ?_)
 refine Uc trivial (ho) (go1 trivial ?_)
 refine dw_for (c:=1) (l:=fun i=>[(1,intsD ws),(3,.ref 1000000 0),(8,I i),(1000000,.obj [I p.k,I p.t,.sl 5 (p.es.map eD),intsD p.cs,.sl 5 (p.ks.map pD)])]) 0 (fun _=>True) 0 trivial (Wk.list [2000003] rfl rfl ?_) (fun i hi _=>?_) (Nat.zero_le _)
 ·repeat' (first|(conv in hold _=>simp (disch:=omega) only [go_sem])|exact trivial|exact Sub.refl _|omega)
  exact rfl
 ·obtain rfl : i = 0:=by omega
  by_cases ht : 0 ≤ p.t ∧ p.t ≤ ws.length - 1
  ·rw [decide_eq_true ht] at hr
   obtain ⟨n,h0,g0⟩:=get_ex (ns:=ws) (i:=p.t.toNat) (by omega)
   rw [show scanV ws p.t = n by unfold scanV; rw [if_pos ht,g0]]
   refine go1 @hks ?_
   exact Uc @h0 (hr) (go0 @h0)
  ·rw [decide_eq_false ht] at hr
   rw [show scanV ws p.t = 0 from if_neg ht]
   refine go1 @hks ?_
   exact Uc trivial (hr) (go0 trivial)
theorem widthWithin_scan (p : Pl) (ws : List Int) (hw : wsOk ws) (d : Nat) (hf : fields p) (hk : p.k = 1) : Does Tryz.prog 56 [] [pD p,intsD ws,I d] (I (scanV ws p.t)) []:=by
 have ho:=hasOwnFields_ok p
 rw [decide_eq_true (show fieldsI p from ⟨hf,by omega⟩)] at ho
 have hwl:=hw.1
 by_cases ht : 0 ≤ p.t ∧ p.t ≤ ws.length - 1
 ·obtain ⟨n,h0,g0⟩:=get_ex (ns:=ws) (i:=p.t.toNat) (by omega)
  rw [show scanV ws p.t = n by unfold scanV; rw [if_pos ht,g0]]
  refine Bg c_Z64 mixed (go1 @h0 ?_)
  exact Uc @h0 (ho) (go0 @h0)
 ·rw [show scanV ws p.t = 0 from if_neg ht]
  refine Bg c_Z64 mixed (go1 trivial ?_)
  exact Uc trivial (ho) (go0 trivial)
theorem width_ok {ws : List Int} (hw : wsOk ws) : ∀ (p : Pl),psz p ≤ 1048576 → ∀ d : Nat,d < 1000 → ∃ n : Int,(0 ≤ n ∧ n ≤ 6) ∧ Does Tryz.prog 95 [] [pD p,intsD ws,I d] (I n) [] ∧ Does Tryz.prog 56 [] [pD p,intsD ws,I d] (I n) []:=by
 refine Pl.indA (fun p ih hs d hd=>?_)
 rw [psz_eq] at hs
 have hce:=eszL_len p.es
 by_cases hf : fields p
 ·by_cases hk : p.k = 1
  ·exact ⟨_,scan_range hw p.t,planWidth_scan p ws hw d hf hk,widthWithin_scan p ws hw d hf hk⟩
  ·have hks : 1 ≤ p.ks.length:=by unfold fields at hf; omega
   by_cases hd0 : d = 0
   ·subst hd0
    refine ⟨0,by decide,planWidth_0 p ws hf (by omega),?_⟩
    by_cases hfi : fieldsI p
    ·have h:=widthWithin_main p ws 0 (by decide) hfi hk (by omega) (by omega) (List.replicate p.ks.length 0) (by rw [List.length_replicate]) (fun j x hj=>by have:=List.eq_of_mem_replicate (List.mem_of_getElem? hj); omega) (fun i x n hx hn=>by
      obtain rfl : n = 0:=List.eq_of_mem_replicate (List.mem_of_getElem? hn)
      exact widthWithin_neg x ws)
     rw [resV_z ⟨0,by rw [List.getElem?_replicate,if_pos (by omega)]⟩] at h
     exact h
    ·exact widthWithin_no p ws 0 hfi
   ·have hc1 : ((d - 1 : Nat) : Int) = (d : Int) - 1:=by omega
    obtain ⟨ns,hl,hp⟩:=list_of (P:=fun (x : Pl) (n : Int)=>(0 ≤ n ∧ n ≤ 6) ∧ Does Tryz.prog 95 [] [pD x,intsD ws,I ((d : Int) - 1)] (I n) [] ∧ Does Tryz.prog 56 [] [pD x,intsD ws,I ((d : Int) - 1)] (I n) []) p.ks (fun x hx=>by
     have:=ih x hx (by have:=pszL_mem hx; omega) (d - 1) (by omega)
     rw [hc1] at this
     exact this)
    have hn : ∀ (j : Nat) (x : Int),ns[j]? = some x → 0 ≤ x ∧ x ≤ 6:=fun j x hj=>by
     obtain ⟨y,hy⟩ : ∃ y,p.ks[j]? = some y:=⟨_,List.getElem?_eq_getElem (by have:=(List.getElem?_eq_some_iff.1 hj).1; omega)⟩
     exact (hp j y x hy hj).1
    refine ⟨resV p ns,resV_range p ns hn,planWidth_main p ws d hd (by omega) hf hk (by omega) (by omega) ns hl hn (fun i x n hx hn=>(hp i x n hx hn).2.1),?_⟩
    by_cases hfi : fieldsI p
    ·exact widthWithin_main p ws d hd hfi hk (by omega) (by omega) ns hl hn (fun i x n hx hn=>(hp i x n hx hn).2.2)
    ·rw [resV_f (fun h=>hfi h.1)]
     exact widthWithin_no p ws d hfi
 ·exact ⟨0,by decide,planWidth_no p ws d hf,widthWithin_no p ws d (fun h=>hf h.1)⟩
end Go.Proofs.YtgpdmgaemhelgaaGreat
set_option maxHeartbeats 4000000
set_option maxRecDepth 100000
namespace Go.Proofs.YtgpdmgaemhelgaaGreat
open Go.RowKit
theorem range8 {a : Int} (h : 0 ≤ a ∧ a ≤ 7) : a = 0 ∨ a = 1 ∨ a = 2 ∨ a = 3 ∨ a = 4 ∨ a = 5 ∨ a = 6 ∨ a = 7:=by omega
theorem min_ok (x y : Int) : Does Tryz.prog 197 [] [I x,I y] (I (min x y)) []:=by
 exact Bg c_Z71 mixed (go0 trivial)
theorem max_ok (x y : Int) : Does Tryz.prog 198 [] [I x,I y] (I (max x y)) []:=by
 exact Bg c_Z72 mixed (go0 trivial)
def notS (a : Int) : Int:=intBit .or .i64 (intBit .or .i64 (intBit .and .i64 a 4) (IntKind.i64.wrap (intBit .and .i64 a 1 * 2 ^ min 1 64))) ((intBit .and .i64 a 2).fdiv (2 ^ min 1 64))
def in7 (n : Int) : Bool:=decide (0 ≤ n ∧ n ≤ 7)
theorem in7_iff {n : Int} (h : in7 n = true) : 0 ≤ n ∧ n ≤ 7:=of_decide_eq_true h
theorem tab_not {a : Int} (h : 0 ≤ a ∧ a ≤ 7) : notS a = neg a ∧ in7 (neg a) = true:=by
 rcases range8 h with rfl | rfl | rfl | rfl | rfl | rfl | rfl | rfl
 all_goals exact ⟨by kernel_rfl,by kernel_rfl⟩
theorem tab_and {a b : Int} (h : 0 ≤ a ∧ a ≤ 7) (h' : 0 ≤ b ∧ b ≤ 7) : tsS 8 a b = tsI min a b ∧ in7 (tsI min a b) = true:=by
 rcases range8 h with rfl | rfl | rfl | rfl | rfl | rfl | rfl | rfl
 all_goals rcases range8 h' with rfl | rfl | rfl | rfl | rfl | rfl | rfl | rfl
 all_goals exact ⟨by kernel_rfl,by kernel_rfl⟩
theorem tab_or {a b : Int} (h : 0 ≤ a ∧ a ≤ 7) (h' : 0 ≤ b ∧ b ≤ 7) : tsS 9 a b = tsI max a b ∧ in7 (tsI max a b) = true:=by
 rcases range8 h with rfl | rfl | rfl | rfl | rfl | rfl | rfl | rfl
 all_goals rcases range8 h' with rfl | rfl | rfl | rfl | rfl | rfl | rfl | rfl
 all_goals exact ⟨by kernel_rfl,by kernel_rfl⟩
def r04 (a b : Int) : Bool:=intBit .and .i64 (intBit .or .i64 a b) 4 == 0 || intBit .and .i64 (intBit .or .i64 a b) 4 == 4
theorem tab_r {a b : Int} (h : 0 ≤ a ∧ a ≤ 7) (h' : 0 ≤ b ∧ b ≤ 7) : intBit .and .i64 (intBit .or .i64 a b) 4 = 0 ∨ intBit .and .i64 (intBit .or .i64 a b) 4 = 4:=by
 have h1 : r04 a b = true:=by
  rcases range8 h with rfl | rfl | rfl | rfl | rfl | rfl | rfl | rfl
  all_goals rcases range8 h' with rfl | rfl | rfl | rfl | rfl | rfl | rfl | rfl
  all_goals kernel_rfl
 unfold r04 at h1
 rw [Bool.or_eq_true,beq_iff_eq,beq_iff_eq] at h1
 exact h1
theorem o02 : intBit .or .i64 0 2 = 2:=by kernel_rfl
theorem o01 : intBit .or .i64 0 1 = 1:=by kernel_rfl
theorem o21 : intBit .or .i64 2 1 = 3:=by kernel_rfl
theorem o03 : intBit .or .i64 0 3 = 3:=by kernel_rfl
theorem o43 : intBit .or .i64 4 3 = 7:=by kernel_rfl
theorem o34 : intBit .or .i64 3 4 = 7:=by kernel_rfl
theorem o74 : intBit .or .i64 7 4 = 7:=by kernel_rfl
theorem a03 : intBit .and .i64 0 3 = 0:=by kernel_rfl
theorem a43 : intBit .and .i64 4 3 = 0:=by kernel_rfl
theorem a33 : intBit .and .i64 3 3 = 3:=by kernel_rfl
theorem a73 : intBit .and .i64 7 3 = 3:=by kernel_rfl
def ntV (a : Int) : Int:=if intBit .and .i64 a 4 = 0 then (if intBit .and .i64 a 3 = 0 then 0 else 1) else if intBit .and .i64 a 3 = 0 then 2 else 3
theorem ntV_range (a : Int) : 0 ≤ ntV a ∧ ntV a ≤ 7:=by
 unfold ntV
 repeat' split
 all_goals decide
theorem null_ok (a : Int) : Does Tryz.prog 195 [] [I a] (I (ntV a)) []:=by
 unfold ntV
 by_cases h4 : intBit .and .i64 a 4 = 0
 ·rw [if_pos h4]
  by_cases h3 : intBit .and .i64 a 3 = 0
  ·rw [if_pos h3]
   exact Bg c_Z24 mixed (go0 (cj3 @o02 @o01 @o21))
  ·rw [if_neg h3]
   exact Bg c_Z24 mixed (go0 (cj3 @o02 @o01 @o21))
 ·rw [if_neg h4]
  by_cases h3 : intBit .and .i64 a 3 = 0
  ·rw [if_pos h3]
   exact Bg c_Z24 mixed (go0 (cj3 @o02 @o01 @o21))
  ·rw [if_neg h3]
   exact Bg c_Z24 mixed (go0 (cj3 @o02 @o01 @o21))
def both (a b : Int) : Prop:=¬ intBit .and .i64 a 3 = 0 ∧ ¬ intBit .and .i64 b 3 = 0
noncomputable instance bothDec (a b : Int) : Decidable (both a b):=Classical.propDecidable _
theorem cmp_no {a b r : Int} (hr : intBit .and .i64 (intBit .or .i64 a b) 4 = r) (h : ¬ both a b) : Does Tryz.prog 199 [] [I a,I b] (I r) []:=by
 unfold both at h
 exact Bg c_Z18 mixed (go0 @hr)
theorem cmp_0 {a b : Int} (hr : intBit .and .i64 (intBit .or .i64 a b) 4 = 0) (h : both a b) : Does Tryz.prog 199 [] [I a,I b] (I 3) []:=by
 unfold both at h
 exact Bg c_Z18 mixed (go0 (cj2 @hr @o03))
theorem cmp_4 {a b : Int} (hr : intBit .and .i64 (intBit .or .i64 a b) 4 = 4) (h : both a b) : Does Tryz.prog 199 [] [I a,I b] (I 7) []:=by
 unfold both at h
 exact Bg c_Z18 mixed (go0 (cj2 @hr @o43))
theorem ari_0 {a b : Int} (h : Does Tryz.prog 199 [] [I a,I b] (I 0) []) : Does Tryz.prog 200 [] [I a,I b] (I 0) []:=by
 refine Bg c_Z17 mixed (go1 trivial ?_)
 exact Uc @a03 (h) (go0 @a03)
theorem ari_4 {a b : Int} (h : Does Tryz.prog 199 [] [I a,I b] (I 4) []) : Does Tryz.prog 200 [] [I a,I b] (I 4) []:=by
 refine Bg c_Z17 mixed (go1 trivial ?_)
 exact Uc @a43 (h) (go0 @a43)
theorem ari_3 {a b : Int} (h : Does Tryz.prog 199 [] [I a,I b] (I 3) []) : Does Tryz.prog 200 [] [I a,I b] (I 7) []:=by
 refine Bg c_Z17 mixed (go1 trivial ?_)
 exact Uc (cj2 @a33 @o34) (h) (go0 (cj2 @a33 @o34))
theorem ari_7 {a b : Int} (h : Does Tryz.prog 199 [] [I a,I b] (I 7) []) : Does Tryz.prog 200 [] [I a,I b] (I 7) []:=by
 refine Bg c_Z17 mixed (go1 trivial ?_)
 exact Uc (cj2 @a73 @o74) (h) (go0 (cj2 @a73 @o74))
end Go.Proofs.YtgpdmgaemhelgaaGreat
set_option maxHeartbeats 4000000
set_option maxRecDepth 100000
set_option linter.unusedVariables false
set_option linter.unusedSimpArgs false
namespace Go.Proofs.YtgpdmgaemhelgaaGreat
open Go.RowKit
inductive FineE (ws : List Int) : Pl → Prop
 | mk {p : Pl} (hf : fields p) (hs : p.k = 1 → 0 ≤ p.t ∧ p.t ≤ (ws.length : Int) - 1) (he : ∀ e,e ∈ p.es → ∃ w : Int,eOk e w 8)
   (hfil : p.k = 2 → ∀ x e,p.ks[0]? = some x → p.es[0]? = some e → x.k = 1 → eOk e (scanV ws x.t) 8) (hk : ∀ x,x ∈ p.ks → FineE ws x) : FineE ws p
theorem FineE.fields {ws : List Int} {p : Pl} (h : FineE ws p) : fields p:=by cases h with | mk h _ _ _ _=>exact h
theorem FineE.scan {ws : List Int} {p : Pl} (h : FineE ws p) : p.k = 1 → 0 ≤ p.t ∧ p.t ≤ (ws.length : Int) - 1:=by cases h with | mk _ h _ _ _=>exact h
theorem FineE.fil {ws : List Int} {p : Pl} (h : FineE ws p) : p.k = 2 → ∀ x e,p.ks[0]? = some x → p.es[0]? = some e → x.k = 1 → eOk e (scanV ws x.t) 8:=by cases h with | mk _ _ _ h _=>exact h
end Go.Proofs.YtgpdmgaemhelgaaGreat
set_option maxHeartbeats 4000000
set_option maxRecDepth 100000
set_option linter.unusedVariables false
set_option linter.unusedSimpArgs false
namespace Go.Proofs.YtgpdmgaemhelgaaGreat
open Go.RowKit
theorem stV_range (v : V) : 0 ≤ stV v ∧ stV v ≤ 7:=by
 unfold stV
 repeat' split
 all_goals decide
def anyN (a : Int) : Bool:=intBit .and .i64 a 3 != 0
def hasN (a b : Int) : Bool:=intBit .and .i64 (intBit .or .i64 a b) 4 != 0
def bnS (k a b : Int) : Int:=
 if k = 8 then tsI min a b else if k = 9 then tsI max a b else
 if anyN a && anyN b then (if 6 ≤ k then (if hasN a b then 7 else 3) else 7) else (if hasN a b then 4 else 0)
mutual
def oc : E → List Int → Int
 | .mk k c v ks,ss=>if k = 1 then ss.getD c.toNat 0 else if k = 2 then stV v else
  match ocL ks ss with
  | []=>0
  | a :: l=>if k = 10 then neg a else if k = 11 then ntV a else bnS k a (l.headD 0)
def ocL : List E → List Int → List Int
 | [],_=>[]
 | e :: l,ss=>oc e ss :: ocL l ss
end
theorem ocL_map : ∀ (l : List E) (ss : List Int),ocL l ss = l.map (fun e=>oc e ss)
 | [],_=>by rw [ocL]; rfl
 | e :: l,ss=>by rw [ocL,ocL_map l]; rfl
theorem oc_col {e : E} {ss : List Int} {s : Int} (h : e.k = 1) (hs : ss[e.c.toNat]? = some s) : oc e ss = s:=by
 cases e with
 | mk k c u ks=>
  have h : k = 1:=h
  rw [oc,if_pos h,List.getD_eq_getElem?_getD,show ss[c.toNat]? = some s from hs]
  rfl
theorem oc_const {e : E} {ss : List Int} (h : e.k = 2) : oc e ss = stV e.v:=by
 cases e with
 | mk k c u ks=>
  have h : k = 2:=h
  rw [oc,if_neg (by omega),if_pos h]
  rfl
theorem oc_not {e a : E} {ss : List Int} (h : e.k = 10) (hk : e.ks = [a]) : oc e ss = neg (oc a ss):=by
 cases e with
 | mk k c u ks=>
  have h : k = 10:=h
  have hk : ks = [a]:=hk
  subst hk
  rw [oc,if_neg (by omega),if_neg (by omega),ocL_map]
  exact if_pos h
theorem oc_null {e a : E} {ss : List Int} (h : e.k = 11) (hk : e.ks = [a]) : oc e ss = ntV (oc a ss):=by
 cases e with
 | mk k c u ks=>
  have hk' : k = 11:=h
  have hk : ks = [a]:=hk
  subst hk
  rw [oc,if_neg (by omega),if_neg (by omega),ocL_map]
  show (if k = 10 then _ else if k = 11 then _ else _) = _
  rw [if_neg (by omega),if_pos hk']
theorem oc_two {e a b : E} {ss : List Int} (h1 : ¬ e.k = 1) (h2 : ¬ e.k = 2) (h10 : ¬ e.k = 10) (h11 : ¬ e.k = 11) (hk : e.ks = [a,b]) : oc e ss = bnS e.k (oc a ss) (oc b ss):=by
 cases e with
 | mk k c u ks=>
  have hk : ks = [a,b]:=hk
  subst hk
  have h1 : ¬ k = 1:=h1
  have h2 : ¬ k = 2:=h2
  have h10 : ¬ k = 10:=h10
  have h11 : ¬ k = 11:=h11
  rw [oc,if_neg h1,if_neg h2,ocL_map]
  show (if k = 10 then _ else if k = 11 then _ else _) = _
  rw [if_neg h10,if_neg h11]
  rfl
theorem hasN_0 {a b : Int} (h : intBit .and .i64 (intBit .or .i64 a b) 4 = 0) : hasN a b = false:=by unfold hasN; rw [h]; rfl
theorem hasN_4 {a b : Int} (h : intBit .and .i64 (intBit .or .i64 a b) 4 = 4) : hasN a b = true:=by unfold hasN; rw [h]; rfl
theorem any_both {a b : Int} (h : both a b) : (anyN a && anyN b) = true:=by unfold anyN; rw [Bool.and_eq_true,bne_iff_ne,bne_iff_ne]; exact h
theorem any_not {a b : Int} (h : ¬ both a b) : (anyN a && anyN b) = false:=by
 rw [Bool.eq_false_iff]
 unfold anyN
 rw [ne_eq,Bool.and_eq_true,bne_iff_ne,bne_iff_ne]
 exact h
theorem bnS_8 {k a b : Int} (h : k = 8) : bnS k a b = tsI min a b:=if_pos h
theorem bnS_9 {k a b : Int} (h : k = 9) : bnS k a b = tsI max a b:=by unfold bnS; rw [if_neg (by omega),if_pos h]
theorem bnS_b0 {k a b : Int} (h8 : ¬ k = 8) (h9 : ¬ k = 9) (hb : both a b) (h6 : 6 ≤ k) (hr : intBit .and .i64 (intBit .or .i64 a b) 4 = 0) : bnS k a b = 3:=by
 unfold bnS
 rw [if_neg h8,if_neg h9,any_both hb,if_pos rfl,if_pos h6,hasN_0 hr]
 rfl
theorem bnS_b4 {k a b : Int} (h8 : ¬ k = 8) (h9 : ¬ k = 9) (hb : both a b) (h6 : 6 ≤ k) (hr : intBit .and .i64 (intBit .or .i64 a b) 4 = 4) : bnS k a b = 7:=by
 unfold bnS
 rw [if_neg h8,if_neg h9,any_both hb,if_pos rfl,if_pos h6,hasN_4 hr]
 rfl
theorem bnS_ba {k a b : Int} (h8 : ¬ k = 8) (h9 : ¬ k = 9) (hb : both a b) (h6 : ¬ 6 ≤ k) : bnS k a b = 7:=by
 unfold bnS
 rw [if_neg h8,if_neg h9,any_both hb,if_pos rfl,if_neg h6]
theorem bnS_n0 {k a b : Int} (h8 : ¬ k = 8) (h9 : ¬ k = 9) (hb : ¬ both a b) (hr : intBit .and .i64 (intBit .or .i64 a b) 4 = 0) : bnS k a b = 0:=by
 unfold bnS
 rw [if_neg h8,if_neg h9,any_not hb,if_neg (by decide),hasN_0 hr]
 rfl
theorem bnS_n4 {k a b : Int} (h8 : ¬ k = 8) (h9 : ¬ k = 9) (hb : ¬ both a b) (hr : intBit .and .i64 (intBit .or .i64 a b) 4 = 4) : bnS k a b = 4:=by
 unfold bnS
 rw [if_neg h8,if_neg h9,any_not hb,if_neg (by decide),hasN_4 hr]
 rfl
theorem oc_ok {ss : List Int} (hs : ∀ (j : Nat) (s : Int),ss[j]? = some s → 1 ≤ s ∧ s ≤ 7) (hf1 : enters Tryz.prog 197 = true) (hf2 : enters Tryz.prog 198 = true) : ∀ (e : E) (d : Nat),eOk e ss.length d → (0 ≤ oc e ss ∧ oc e ss ≤ 7) ∧ Does Tryz.prog 187 [] [eD e,intsD ss] (I (oc e ss)) [] ∧ Does Tryz.prog 184 [] [eD e,intsD ss] (I (oc e ss)) []:=by
 refine E.ind (fun e ih d he=>?_)
 rcases eOk_kids he with ⟨h1,_⟩ | ⟨h1,a,hks,hao⟩ | ⟨h1,a,b,hks,hao,hbo⟩
 ·rcases h1 with h1 | h1
  ·have hlo:=((eOk_iff e _ d).1 he).2.2.2
   unfold leafOk at hlo
   rw [if_pos h1] at hlo
   have e0 : ss[e.c.toNat]? = some _:=List.getElem?_eq_getElem (show e.c.toNat < ss.length by omega)
   generalize ss[e.c.toNat]'(by omega) = s at e0
   have:=hs _ s e0
   rw [oc_col h1 e0]
   refine ⟨by omega,?_,?_⟩
   ·exact Bg c_Z126 mixed (go0 @e0)
   ·exact Bg c_Z114 mixed (go0 @e0)
  ·rw [oc_const h1]
   refine ⟨stV_range e.v,?_,?_⟩
   ·refine Bg c_Z126 mixed (go1 trivial ?_)
    exact Uc trivial (stateOf_spec e.v) (go0 trivial)
   ·refine Bg c_Z114 mixed (go1 trivial ?_)
    exact Uc trivial (stateOf_impl e.v) (go0 trivial)
 ·obtain ⟨hn,hA,hB⟩:=ih a (by rw [hks]; exact List.mem_cons_self ..) (d - 1) hao
  generalize hgn : oc a ss = n at hn hA hB
  rcases h1 with h1 | h1
  ·have ht:=tab_not hn
   have hneg:=negatedStates_ok n
   rw [oc_not h1 hks,hgn]
   refine ⟨in7_iff ht.2,?_,?_⟩
   ·refine Bg c_Z126 mixed (go1 @hks ?_)
    refine Uc trivial (hA) (go1 trivial ?_)
    exact Sub.of_eq (congrArg (fun n=>D.v (Value.int .i64 n)) ht.1)
   ·refine Bg c_Z114 mixed (go1 @hks ?_)
    refine Uc trivial (hB) (go1 trivial ?_)
    exact Uc trivial (hneg) (go0 trivial)
  ·have hnt:=null_ok n
   rw [oc_null h1 hks,hgn]
   refine ⟨ntV_range n,?_,?_⟩
   ·unfold ntV
    by_cases h4 : intBit .and .i64 n 4 = 0
    ·rw [if_pos h4]
     by_cases h3 : intBit .and .i64 n 3 = 0
     ·rw [if_pos h3]
      refine Bg c_Z126 mixed (go1 @hks ?_)
      exact Uc (cj3 @o02 @o01 @o21) (hA) (go0 (cj3 @o02 @o01 @o21))
     ·rw [if_neg h3]
      refine Bg c_Z126 mixed (go1 @hks ?_)
      exact Uc (cj3 @o02 @o01 @o21) (hA) (go0 (cj3 @o02 @o01 @o21))
    ·rw [if_neg h4]
     by_cases h3 : intBit .and .i64 n 3 = 0
     ·rw [if_pos h3]
      refine Bg c_Z126 mixed (go1 @hks ?_)
      exact Uc (cj3 @o02 @o01 @o21) (hA) (go0 (cj3 @o02 @o01 @o21))
     ·rw [if_neg h3]
      refine Bg c_Z126 mixed (go1 @hks ?_)
      exact Uc (cj3 @o02 @o01 @o21) (hA) (go0 (cj3 @o02 @o01 @o21))
   ·refine Bg c_Z114 mixed (go1 @hks ?_)
    refine Uc trivial (hB) (go1 trivial ?_)
    exact Uc trivial (hnt) (go0 trivial)
 ·obtain ⟨hn,hA,hB⟩:=ih a (by rw [hks]; exact List.mem_cons_self ..) (d - 1) hao
  obtain ⟨hm,hC,hD⟩:=ih b (by rw [hks]; exact List.mem_cons_of_mem _ (List.mem_cons_self ..)) (d - 1) hbo
  rw [oc_two (by omega) (by omega) (by omega) (by omega) hks]
  generalize oc a ss = n at hn hA hB ⊢
  generalize oc b ss = m at hm hC hD ⊢
  by_cases h8 : e.k = 8
  ·have ht:=tab_and hn hm
   have hts:=truthStates_spec 8 n m hn hm
   rw [ht.1] at hts
   have hti:=truthStates_impl n m hf1 min (fun x y _ _=>min_ok x y)
   rw [bnS_8 h8]
   refine ⟨in7_iff ht.2,?_,?_⟩
   ·refine Bg c_Z126 mixed (go1 (cj2 @hks @h8) ?_)
    refine Uc (cj2 @hks @h8) (hA) (go1 (cj2 @hks @h8) ?_)
    refine Uc @h8 (hC) (go1 @h8 ?_)
    exact Uc trivial (hts) (go0 trivial)
   ·refine Bg c_Z114 mixed (go1 @hks ?_)
    refine Uc @hks (hB) (go1 @hks ?_)
    refine Uc trivial (hD) (go1 trivial ?_)
    exact Uc trivial (hti) (go0 trivial)
  ·by_cases h9 : e.k = 9
   ·have ht:=tab_or hn hm
    have hts:=truthStates_spec 9 n m hn hm
    rw [ht.1] at hts
    have hti:=truthStates_impl n m hf2 max (fun x y _ _=>max_ok x y)
    rw [bnS_9 h9]
    refine ⟨in7_iff ht.2,?_,?_⟩
    ·refine Bg c_Z126 mixed (go1 (cj2 @hks @h9) ?_)
     refine Uc (cj2 @hks @h9) (hA) (go1 (cj2 @hks @h9) ?_)
     refine Uc @h9 (hC) (go1 @h9 ?_)
     exact Uc trivial (hts) (go0 trivial)
    ·refine Bg c_Z114 mixed (go1 @hks ?_)
     refine Uc @hks (hB) (go1 @hks ?_)
     refine Uc trivial (hD) (go1 trivial ?_)
     exact Uc trivial (hti) (go0 trivial)
   ·by_cases hbo : both n m
    ·have hbo':=hbo
     unfold both at hbo'
     by_cases h67 : 6 ≤ e.k
     ·rcases tab_r hn hm with hr | hr
      ·have hc:=cmp_0 hr hbo
       rw [bnS_b0 h8 h9 hbo h67 hr]
       refine ⟨by decide,?_,?_⟩
       ·refine Bg c_Z126 mixed (go1 @hks ?_)
        refine Uc @hks (hA) (go1 @hks ?_)
        exact Uc (cj2 @hr @o03) (hC) (go0 (cj2 @hr @o03))
       ·refine Bg c_Z114 mixed (go1 @hks ?_)
        refine Uc @hks (hB) (go1 @hks ?_)
        refine c_doesE (hD) ?_ ?_ ?_
        ·((try (conv=>rhs;simp (disch:=omega) only [go_sem])); try rfl)
        ·first|rfl|(conv=>lhs;simp only [go_sem])
        repeat' (first|with_reducible refine acc_none ?_ | (conv in hold _=>simp (disch:=omega) only [go_sem])|refine Stp.go ?_|(with_reducible first|refine it_pos rfl ?_|refine it_neg (by decide) ?_|refine st_nil rfl ?_|refine s_op ?_ ?_|exact trivial)|((with_reducible first|refine dw_reg0 ?_|refine dw_regB ?_);(conv=>arg 3;whnf))|(refine Spl.go (fun hq he=>?_) (fun hq he=>?_)<;>first|(exfalso;clear hq;omega)|((try first|(conv=>arg 8;simp only [hq])|(conv=>arg 4;simp only [hq]));clear hq))|((with_reducible first|refine c_split (fun hq=>?_) (fun hq=>?_)|refine q_split (fun hq=>?_) (fun hq=>?_))<;>(try first|(conv=>arg 8;simp only [hq])|(conv=>arg 4;simp only [hq])))|(with_reducible refine fin_0 ?_ (by first|rfl|(conv=>lhs;simp only [go_sem])) ?_)|exact Sub.refl _|omega)
        all_goals
         exact Uc trivial (hc) (go0 trivial)
      ·have hc:=cmp_4 hr hbo
       rw [bnS_b4 h8 h9 hbo h67 hr]
       refine ⟨by decide,?_,?_⟩
       ·refine Bg c_Z126 mixed (go1 @hks ?_)
        refine Uc @hks (hA) (go1 @hks ?_)
        exact Uc (cj2 @hr @o43) (hC) (go0 (cj2 @hr @o43))
       ·refine Bg c_Z114 mixed (go1 @hks ?_)
        refine Uc @hks (hB) (go1 @hks ?_)
        refine c_doesE (hD) ?_ ?_ ?_
        ·((try (conv=>rhs;simp (disch:=omega) only [go_sem])); try rfl)
        ·first|rfl|(conv=>lhs;simp only [go_sem])
        repeat' (first|with_reducible refine acc_none ?_ | (conv in hold _=>simp (disch:=omega) only [go_sem])|refine Stp.go ?_|(with_reducible first|refine it_pos rfl ?_|refine it_neg (by decide) ?_|refine st_nil rfl ?_|refine s_op ?_ ?_|exact trivial)|((with_reducible first|refine dw_reg0 ?_|refine dw_regB ?_);(conv=>arg 3;whnf))|(refine Spl.go (fun hq he=>?_) (fun hq he=>?_)<;>first|(exfalso;clear hq;omega)|((try first|(conv=>arg 8;simp only [hq])|(conv=>arg 4;simp only [hq]));clear hq))|((with_reducible first|refine c_split (fun hq=>?_) (fun hq=>?_)|refine q_split (fun hq=>?_) (fun hq=>?_))<;>(try first|(conv=>arg 8;simp only [hq])|(conv=>arg 4;simp only [hq])))|(with_reducible refine fin_0 ?_ (by first|rfl|(conv=>lhs;simp only [go_sem])) ?_)|exact Sub.refl _|omega)
        all_goals
         exact Uc trivial (hc) (go0 trivial)
     ·rw [bnS_ba h8 h9 hbo h67]
      refine ⟨by decide,?_,?_⟩
      ·rcases tab_r hn hm with hr | hr
       ·refine Bg c_Z126 mixed (go1 @hks ?_)
        refine Uc @hks (hA) (go1 @hks ?_)
        exact Uc (cj3 @hr @o03 @o34) (hC) (go0 (cj3 @hr @o03 @o34))
       ·refine Bg c_Z126 mixed (go1 @hks ?_)
        refine Uc @hks (hA) (go1 @hks ?_)
        exact Uc (cj3 @hr @o43 @o74) (hC) (go0 (cj3 @hr @o43 @o74))
      ·have hc : Does Tryz.prog 200 [] [I n,I m] (I 7) []:=by
        rcases tab_r hn hm with hr | hr
        ·exact ari_3 (cmp_0 hr hbo)
        ·exact ari_7 (cmp_4 hr hbo)
       refine Bg c_Z114 mixed (go1 @hks ?_)
       refine Uc @hks (hB) (go1 @hks ?_)
       refine Uc trivial (hD) (go1 trivial ?_)
       exact Uc trivial (hc) (go0 trivial)
    ·have hbo':=hbo
     unfold both at hbo'
     rcases tab_r hn hm with hr | hr
     ·have hc:=cmp_no hr hbo
      have ha:=ari_0 hc
      rw [bnS_n0 h8 h9 hbo hr]
      refine ⟨by decide,?_,?_⟩
      ·refine Bg c_Z126 mixed (go1 @hks ?_)
       refine Uc @hks (hA) (go1 @hks ?_)
       exact Uc @hr (hC) (go0 @hr)
      ·by_cases h67 : 6 ≤ e.k
       ·refine Bg c_Z114 mixed (go1 @hks ?_)
        refine Uc @hks (hB) (go1 @hks ?_)
        refine c_doesE (hD) ?_ ?_ ?_
        ·((try (conv=>rhs;simp (disch:=omega) only [go_sem])); try rfl)
        ·first|rfl|(conv=>lhs;simp only [go_sem])
        repeat' (first|with_reducible refine acc_none ?_ | (conv in hold _=>simp (disch:=omega) only [go_sem])|refine Stp.go ?_|(with_reducible first|refine it_pos rfl ?_|refine it_neg (by decide) ?_|refine st_nil rfl ?_|refine s_op ?_ ?_|exact trivial)|((with_reducible first|refine dw_reg0 ?_|refine dw_regB ?_);(conv=>arg 3;whnf))|(refine Spl.go (fun hq he=>?_) (fun hq he=>?_)<;>first|(exfalso;clear hq;omega)|((try first|(conv=>arg 8;simp only [hq])|(conv=>arg 4;simp only [hq]));clear hq))|((with_reducible first|refine c_split (fun hq=>?_) (fun hq=>?_)|refine q_split (fun hq=>?_) (fun hq=>?_))<;>(try first|(conv=>arg 8;simp only [hq])|(conv=>arg 4;simp only [hq])))|(with_reducible refine fin_0 ?_ (by first|rfl|(conv=>lhs;simp only [go_sem])) ?_)|exact Sub.refl _|omega)
        all_goals
         exact Uc trivial (hc) (go0 trivial)
       ·refine Bg c_Z114 mixed (go1 @hks ?_)
        refine Uc @hks (hB) (go1 @hks ?_)
        refine Uc trivial (hD) (go1 trivial ?_)
        exact Uc trivial (ha) (go0 trivial)
     ·have hc:=cmp_no hr hbo
      have ha:=ari_4 hc
      rw [bnS_n4 h8 h9 hbo hr]
      refine ⟨by decide,?_,?_⟩
      ·refine Bg c_Z126 mixed (go1 @hks ?_)
       refine Uc @hks (hA) (go1 @hks ?_)
       exact Uc @hr (hC) (go0 @hr)
      ·by_cases h67 : 6 ≤ e.k
       ·refine Bg c_Z114 mixed (go1 @hks ?_)
        refine Uc @hks (hB) (go1 @hks ?_)
        refine c_doesE (hD) ?_ ?_ ?_
        ·((try (conv=>rhs;simp (disch:=omega) only [go_sem])); try rfl)
        ·first|rfl|(conv=>lhs;simp only [go_sem])
        repeat' (first|with_reducible refine acc_none ?_ | (conv in hold _=>simp (disch:=omega) only [go_sem])|refine Stp.go ?_|(with_reducible first|refine it_pos rfl ?_|refine it_neg (by decide) ?_|refine st_nil rfl ?_|refine s_op ?_ ?_|exact trivial)|((with_reducible first|refine dw_reg0 ?_|refine dw_regB ?_);(conv=>arg 3;whnf))|(refine Spl.go (fun hq he=>?_) (fun hq he=>?_)<;>first|(exfalso;clear hq;omega)|((try first|(conv=>arg 8;simp only [hq])|(conv=>arg 4;simp only [hq]));clear hq))|((with_reducible first|refine c_split (fun hq=>?_) (fun hq=>?_)|refine q_split (fun hq=>?_) (fun hq=>?_))<;>(try first|(conv=>arg 8;simp only [hq])|(conv=>arg 4;simp only [hq])))|(with_reducible refine fin_0 ?_ (by first|rfl|(conv=>lhs;simp only [go_sem])) ?_)|exact Sub.refl _|omega)
        all_goals
         exact Uc trivial (hc) (go0 trivial)
       ·refine Bg c_Z114 mixed (go1 @hks ?_)
        refine Uc @hks (hB) (go1 @hks ?_)
        refine Uc trivial (hD) (go1 trivial ?_)
        exact Uc trivial (ha) (go0 trivial)
end Go.Proofs.YtgpdmgaemhelgaaGreat

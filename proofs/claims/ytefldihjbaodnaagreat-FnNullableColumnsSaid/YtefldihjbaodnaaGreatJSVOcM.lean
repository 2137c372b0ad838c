/-
  Drawn plans: the planner's other steps. No condition.
-/
import Derived.Test.YtefldihjbaodnaaGreatKSDca
import Derived.Test.YtefldihjbaodnaaGreatKSDch
import Derived.Test.YtefldihjbaodnaaGreatJSVPlan
import Derived.Test.YtefldihjbaodnaaGreatJSVGo
import Derived.Test.YtefldihjbaodnaaGreatJSVPiC
set_option maxHeartbeats 4000000
set_option maxRecDepth 100000
set_option linter.unusedVariables false
set_option linter.unusedSimpArgs false
namespace Go.Proofs.YtefldihjbaodnaaGreat
open Go.RowKit
variable {bs : List Nat} {ws : List Int} {p j u d : Nat} {x : Pl} {t k6 c n : Int} {q j1 u1 : Nat}
theorem plan_dist (h : Pre bs ws p j u d x t k6 c n q j1 u1) (hc : c = 8) : DPlan bs ws p j u ((d + 1 : Nat) : Int) (.mk 7 0 [] [] [x]) (q + 1) j1 u1:=by
 obtain ⟨hl,hd,h1,h2,h6,hk,hw,hn,h3,hj,hu⟩:=h
 subst hc
 have hs : Sub (.agg [I 7,I 0,.nul,.nul,.sl 5 [pD x]]) (pD (.mk 7 0 [] [] [x])):=plS (Sub.nul 5) (Sub.nul 1) (Sub.refl _)
 simp only [go_sem] at hs
 refine Bk c_Z76 mixed 3 (go1 trivial ?_)
 refine UcR [1000001] trivial (h1) (go1 trivial ?_)
 refine UcR [1000001] trivial (h2) (go1 trivial ?_)
 refine UcR [1000000,1000001,1000002] trivial (hk) (go1 trivial ?_)
 refine UcR [1000002] trivial (hw) (go1 trivial ?_)
 refine UcR [1000001] trivial (h3) (go1 trivial ?_)
 refine fin_L [1000000,1000001,1000002] ?_ ?_ rfl ?_
 repeat' (first|(conv in hold _=>simp (disch:=omega) only [go_sem])|exact trivial|exact Sub.refl _|omega)
 all_goals exact hs
theorem plan_grp (h : Pre bs ws p j u d x t k6 c n q j1 u1) (hc : c = 9) (hn1 : ¬ 1 < n) : DPlan bs ws p j u ((d + 1 : Nat) : Int) (.mk 8 0 [] [] [x]) (q + 1) j1 u1:=by
 obtain ⟨hl,hd,h1,h2,h6,hk,hw,hn,h3,hj,hu⟩:=h
 subst hc
 have hs : Sub (.agg [I 8,I 0,.nul,.nul,.sl 5 [pD x]]) (pD (.mk 8 0 [] [] [x])):=plS (Sub.nul 5) (Sub.nul 1) (Sub.refl _)
 simp only [go_sem] at hs
 refine Bk c_Z76 mixed 3 (go1 trivial ?_)
 refine UcR [1000001] trivial (h1) (go1 trivial ?_)
 refine UcR [1000001] trivial (h2) (go1 trivial ?_)
 refine UcR [1000000,1000001,1000002] trivial (hk) (go1 trivial ?_)
 refine UcR [1000002] trivial (hw) (go1 trivial ?_)
 refine UcR [1000001] trivial (h3) (go1 trivial ?_)
 refine fin_L [1000000,1000001,1000002] ?_ ?_ rfl ?_
 repeat' (first|(conv in hold _=>simp (disch:=omega) only [go_sem])|exact trivial|exact Sub.refl _|omega)
 all_goals exact hs
theorem plan_grpc (h : Pre bs ws p j u d x t k6 c n q j1 u1) (hc : c = 9) (hn1 : 1 < n) {g : Int} (hg : DPick bs (q + 1) n g) : DPlan bs ws p j u ((d + 1 : Nat) : Int) (.mk 8 0 [] [g] [x]) (q + 2) j1 u1:=by
 obtain ⟨hl,hd,h1,h2,h6,hk,hw,hn,h3,hj,hu⟩:=h
 subst hc
 have hs : Sub (.agg [I 8,I 0,.nul,.sl 1 [I g],.sl 5 [pD x]]) (pD (.mk 8 0 [] [g] [x])):=plS (Sub.nul 5) (Sub.refl _) (Sub.refl _)
 simp only [go_sem] at hs
 refine Bk c_Z76 mixed 3 (go1 trivial ?_)
 refine UcR [1000001] trivial (h1) (go1 trivial ?_)
 refine UcR [1000001] trivial (h2) (go1 trivial ?_)
 refine UcR [1000000,1000001,1000002] trivial (hk) (go1 trivial ?_)
 refine UcR [1000002] trivial (hw) (go1 trivial ?_)
 refine UcR [1000001] trivial (h3) (go1 trivial ?_)
 refine UcR [1000001] trivial (hg) (go1 trivial ?_)
 refine fin_L [1000000,1000001,1000002] ?_ ?_ rfl ?_
 repeat' (first|(conv in hold _=>simp (disch:=omega) only [go_sem])|exact trivial|exact Sub.refl _|omega)
 all_goals exact hs
theorem plan_uni (h : Pre bs ws p j u d x t k6 c n q j1 u1) (hc : c = 7) (hu1 : 0 < u1) (hsz : psz x ≤ 900000) {e : E} {q2 : Nat} (hce : DCond bs (q + 1) n e q2) : DPlan bs ws p j u ((d + 1 : Nat) : Int) (.mk 6 0 [] [] [x,.mk 2 0 [e] [] [x]]) q2 j1 (u1 - 1):=by
 obtain ⟨hl,hd,h1,h2,h6,hk,hw,hn,h3,hj,hu⟩:=h
 subst hc
 have hf:=filterOf_ok e x
 have hcp:=copyPlan_ok x hsz
 have hs : Sub (.agg [I 6,I 0,.nul,.nul,.sl 5 [pD x,pD (.mk 2 0 [e] [] [x])]]) (pD (.mk 6 0 [] [] [x,.mk 2 0 [e] [] [x]])):=plS (Sub.nul 5) (Sub.nul 1) (Sub.refl _)
 simp only [go_sem] at hs
 have hu2 : ((u1 - 1 : Nat) : Int) = (u1 : Int) - 1:=by omega
 refine Bk c_Z76 mixed 3 (go1 trivial ?_)
 refine UcR [1000001] trivial (h1) (go1 trivial ?_)
 refine UcR [1000001] trivial (h2) (go1 trivial ?_)
 refine UcR [1000000,1000001,1000002] trivial (hk) (go1 trivial ?_)
 refine UcR [1000002] trivial (hw) (go1 trivial ?_)
 refine UcR [1000001] trivial (h3) (go1 trivial ?_)
 refine UcR [1000001] trivial (hce) (go1 trivial ?_)
 refine Uc trivial (hcp) (go1 trivial ?_)
 refine Uc trivial (hf) (go1 trivial ?_)
 refine fin_L [1000000,1000001,1000002] ?_ ?_ rfl ?_
 repeat' (first|(conv in hold _=>simp (disch:=omega) only [go_sem,hu2])|exact trivial|exact Sub.refl _|omega)
 all_goals exact hs
theorem plan_join (h : Pre bs ws p j u d x t k6 c n q j1 u1) (hc : c = 5 ∨ c = 6) (hj0 : 0 < j1) (hn4 : n ≤ 4) {d2 : Int} (hd2 : DPick bs (q + 1) 2 d2) {y : Pl} {q2 j2 u2 : Nat} (hy : DPlan bs ws (q + 2) (j1 - 1) u1 d2 y q2 j2 u2) {m : Int} (hm : DWid ws y m) (hm0 : 0 ≤ m ∧ m ≤ 6) (hnm : n + m ≤ 6)
  {k : Int} (hkk : Does Tryz.prog 99 [rdD bs q2] [.ref 1000000 0,.sl 1 ([4,5].map I)] (I k) [rdD bs (q2 + 1)]) {e : E} {q3 : Nat} (hce : DCond bs (q2 + 1) (n + m) e q3) : DPlan bs ws p j u ((d + 1 : Nat) : Int) (.mk k 0 [e] [] [x,y]) q3 j2 u2:=by
 obtain ⟨hl,hd,h1,h2,h6,hk,hw,hn,h3,hj,hu⟩:=h
 have hs : Sub (.agg [I k,I 0,.sl 5 [eD e],.nul,.sl 5 [pD x,pD y]]) (pD (.mk k 0 [e] [] [x,y])):=plS (Sub.refl _) (Sub.nul 1) (Sub.refl _)
 simp only [go_sem] at hs
 have hj2 : ((j1 - 1 : Nat) : Int) = (j1 : Int) - 1:=by omega
 unfold DPlan gnD at hy
 rw [hj2] at hy
 rcases hc with rfl | rfl
 all_goals
  refine Bk c_Z76 mixed 3 (go1 trivial ?_)
  refine UcR [1000001] trivial (h1) (go1 trivial ?_)
  refine UcR [1000001] trivial (h2) (go1 trivial ?_)
  refine UcR [1000000,1000001,1000002] trivial (hk) (go1 trivial ?_)
  refine UcR [1000002] trivial (hw) (go1 trivial ?_)
  refine UcR [1000001] trivial (h3) (go1 trivial ?_)
  refine UcR [1000001] trivial (hd2) (go1 trivial ?_)
  refine UcR [1000000,1000001,1000002] trivial (hy) (go1 trivial ?_)
  refine UcR [1000002] trivial (hm) (go1 trivial ?_)
  refine UcR [1000001] trivial (hkk) (go1 trivial ?_)
  refine UcR [1000001] trivial (hce) (go1 trivial ?_)
  refine fin_L [1000000,1000001,1000002] ?_ ?_ rfl ?_
  repeat' (first|(conv in hold _=>simp (disch:=omega) only [go_sem])|exact trivial|exact Sub.refl _|omega)
 all_goals exact hs
theorem plan_wide (h : Pre bs ws p j u d x t k6 c n q j1 u1) (hc : c = 5 ∨ c = 6) (hj0 : 0 < j1) (hn4 : n ≤ 4) {d2 : Int} (hd2 : DPick bs (q + 1) 2 d2) {y : Pl} {q2 j2 u2 : Nat} (hy : DPlan bs ws (q + 2) (j1 - 1) u1 d2 y q2 j2 u2) {m : Int} (hm : DWid ws y m) (hm0 : 0 ≤ m ∧ m ≤ 6) (hnm : ¬ n + m ≤ 6)
  {e : E} {q3 : Nat} (hce : DCond bs q2 n e q3) : DPlan bs ws p j u ((d + 1 : Nat) : Int) (.mk 2 0 [e] [] [x]) q3 j2 u2:=by
 obtain ⟨hl,hd,h1,h2,h6,hk,hw,hn,h3,hj,hu⟩:=h
 have hf:=filterOf_ok e x
 have hj2 : ((j1 - 1 : Nat) : Int) = (j1 : Int) - 1:=by omega
 unfold DPlan gnD at hy
 rw [hj2] at hy
 rcases hc with rfl | rfl
 all_goals
  refine Bk c_Z76 mixed 3 (go1 trivial ?_)
  refine UcR [1000001] trivial (h1) (go1 trivial ?_)
  refine UcR [1000001] trivial (h2) (go1 trivial ?_)
  refine UcR [1000000,1000001,1000002] trivial (hk) (go1 trivial ?_)
  refine UcR [1000002] trivial (hw) (go1 trivial ?_)
  refine UcR [1000001] trivial (h3) (go1 trivial ?_)
  refine UcR [1000001] trivial (hd2) (go1 trivial ?_)
  refine UcR [1000000,1000001,1000002] trivial (hy) (go1 trivial ?_)
  refine UcR [1000002] trivial (hm) (go1 trivial ?_)
  refine UcR [1000001] trivial (hce) (go1 trivial ?_)
  refine Uc trivial (hf) (go1 trivial ?_)
  refine fin_L [1000000,1000001,1000002] ?_ ?_ rfl ?_
  repeat' (first|(conv in hold _=>simp (disch:=omega) only [go_sem])|exact trivial|exact Sub.refl _|omega)
def DOne (bs : List Nat) (n : Int) (p : Nat) (e : E) (q : Nat) : Prop:=(∃ dd : Int,DPick bs p 2 dd ∧ Does Tryz.prog 148 [rdD bs (p + 1)] [.ref 1000000 0,I n,I dd] (eD e) [rdD bs q]) ∧ esz e ≤ 3
theorem one_drawn (hs : Src bs) (n : Int) (hn : n < 1000) (p : Nat) (hp : p < 600000000) : ∃ e q,DOne bs n p e q ∧ p ≤ q ∧ q ≤ p + 60:=by
 obtain ⟨dd,hdd,d0,d1,_⟩:=pick_ok hs p (by omega) 2 (by omega)
 have hd1:=d1 (by omega)
 obtain ⟨m,rfl⟩:=Int.eq_ofNat_of_zero_le d0
 have hb0 : bnd 0 = 5:=by decide
 have hb1 : bnd 1 = 20:=by decide
 have hz0 : szb 0 = 1:=by decide
 have hz1 : szb 1 = 3:=by decide
 have hm : m = 0 ∨ m = 1:=by omega
 rcases hm with rfl | rfl
 ·obtain ⟨e,q,he,hq0,hq1,hz⟩:=randomExpr_ok hs n hn 0 (p + 1) (by omega)
  exact ⟨e,q,⟨⟨_,hdd,he⟩,by omega⟩,by omega,by omega⟩
 ·obtain ⟨e,q,he,hq0,hq1,hz⟩:=randomExpr_ok hs n hn 1 (p + 1) (by omega)
  exact ⟨e,q,⟨⟨_,hdd,he⟩,by omega⟩,by omega,by omega⟩
theorem plan_proj (h : Pre bs ws p j u d x t k6 c n q j1 u1) (hc : c = 3 ∨ c = 4) {mm : Nat} (hmm : DPick bs (q + 1) 2 mm) (hm1 : mm ≤ 1) {es : List E} {ps : Nat → Nat} (hel : es.length = 1 + mm) (h0 : ps 0 = q + 2) (hes : ∀ i e,es[i]? = some e → DOne bs n (ps i) e (ps (i + 1))) : DPlan bs ws p j u ((d + 1 : Nat) : Int) (.mk 3 0 es [] [x]) (ps (1 + mm)) j1 u1:=by
 obtain ⟨hl,hd,h1,h2,h6,hk,hw,hn,h3,hj,hu⟩:=h
 have hs : Sub (.agg [I 3,I 0,.sl 5 (es.map eD),.nul,.sl 5 [pD x]]) (pD (.mk 3 0 es [] [x])):=plS (Sub.refl _) (Sub.nul 1) (Sub.refl _)
 simp only [go_sem] at hs
 rcases hc with rfl | rfl
 all_goals
  refine Bk c_Z76 mixed 3 (go1 trivial ?_)
  refine UcR [1000001] trivial (h1) (go1 trivial ?_)
  refine UcR [1000001] trivial (h2) (go1 trivial ?_)
  refine UcR [1000000,1000001,1000002] trivial (hk) (go1 trivial ?_)
  refine UcR [1000002] trivial (hw) (go1 trivial ?_)
  refine UcR [1000001] trivial (h3) (go1 trivial ?_)
  refine UcR [1000001] trivial (hmm) (go1 trivial ?_)
  refine dw_for (c:=6) (l:=fun i=>[(4,.ref 1000003 0),(5,.ref 1000001 0),(7,.ref 1000004 0),(8,I n),(9,.own 1000005 5 i),(10,I (1 + (mm : Int) - i)),(1000000,gnD ws j1 u1),(1000001,rdD bs (ps i)),(1000002,wrD ws),(1000003,.obj [I 0,I 0,.nul,.nul,.nul]),(1000004,.obj [I x.k,I x.t,.sl 5 (x.es.map eD),.sl 1 (x.cs.map I),.sl 5 (x.ks.map pD)]),(1000005,.row 5 ((es.take i).map eD))]) (1 + mm) (fun _=>True) 0 trivial ((wk_row 9 2000099 5 (by decide) (by decide) rfl rfl).trans (Wk.list [1000000,1000001,1000002,2000004,2000007,2000099] rfl rfl ?_)) (fun i hi _=>?_) (Nat.zero_le _)
  ·rw [h0]
   repeat' (first|(conv in hold _=>simp (disch:=omega) only [go_sem])|exact trivial|exact Sub.refl _|omega)
   exact congrArg (fun n=>D.v (Value.int .i64 n)) (by omega)
  ·have hlt:=take_len (vs:=es) (i:=i) (by omega)
   have hmt:=take_map eD (vs:=es) (i:=i) (by omega)
   by_cases hil : i < 1 + mm
   ·obtain ⟨e,he1⟩ : ∃ e,es[i]? = some e:=⟨es[i],List.getElem?_eq_getElem (by omega)⟩
    obtain ⟨⟨dd,hx1,hx2⟩,_⟩:=hes i e he1
    have hnx:=take_next he1
    refine go1 trivial ?_
    refine UcR [1000001] trivial (hx1) (go1 trivial ?_)
    refine UcR [1000001] trivial (hx2) (go1 trivial ?_)
    refine ⟨by omega,trivial,Wk.list [1000000,1000001,1000002,1000003,1000004,2000072] rfl rfl ?_⟩
    repeat' (first|(conv in hold _=>simp (disch:=omega) only [go_sem])|exact trivial|exact Sub.refl _|omega)
    refine ⟨congrArg (fun n=>D.v (Value.int .i64 n)) (by omega),?_⟩
    rw [hmt,hnx,List.map_append,List.map_cons,List.map_nil,eD_eq e]
   ·obtain rfl : i = 1 + mm:=by omega
    have e1 : es.take (1 + mm) = es:=List.take_of_length_le (by omega)
    have e2 : (es.map eD).take (1 + mm) = es.map eD:=List.take_of_length_le (by rw [List.length_map]; omega)
    refine go1F @e1 ?_
    refine fin_wk (wk_frzO 1000003 1000005 (by decide) (by decide) rfl (by decide) rfl ?_) ?_
    rotate_left
    (conv in hold _=>simp (disch:=omega) only [go_sem,e1,e2])
    ·refine fin_L [1000000,1000001,1000002] ?_ ?_ rfl ?_
     repeat' (first|(conv in hold _=>simp (disch:=omega) only [go_sem])|exact trivial|exact Sub.refl _|omega)
     rw [if_pos (by omega)]
     exact hs
    ·exact exprs_pur _
end Go.Proofs.YtefldihjbaodnaaGreat
set_option maxHeartbeats 4000000
set_option maxRecDepth 100000
set_option linter.unusedVariables false
set_option linter.unusedSimpArgs false
namespace Go.Proofs.YtefldihjbaodnaaGreat
open Go.RowKit
inductive Fine (n : Nat) : Pl → Prop
 | mk {p : Pl} (hf : fields p) (hs : p.k = 1 → 0 ≤ p.t ∧ p.t ≤ (n : Int) - 1) (hk : ∀ x,x ∈ p.ks → Fine n x) : Fine n p
theorem Fine.fields {n : Nat} {p : Pl} (h : Fine n p) : fields p:=by cases h with | mk h _ _=>exact h
theorem Fine.scan {n : Nat} {p : Pl} (h : Fine n p) : p.k = 1 → 0 ≤ p.t ∧ p.t ≤ (n : Int) - 1:=by cases h with | mk _ h _=>exact h
end Go.Proofs.YtefldihjbaodnaaGreat
set_option maxHeartbeats 4000000
set_option maxRecDepth 100000
set_option linter.unusedVariables false
set_option linter.unusedSimpArgs false
namespace Go.Proofs.YtefldihjbaodnaaGreat
open Go.RowKit
def sub7 (a b : Int) : Bool:=intBit .and .i64 a b == a
def all8 (P : Int → Bool) : Bool:=P 0 && (P 1 && (P 2 && (P 3 && (P 4 && (P 5 && (P 6 && P 7))))))
theorem all8_at {P : Int → Bool} (h : all8 P = true) {a : Int} (ha : 0 ≤ a ∧ a ≤ 7) : P a = true:=by
 simp only [all8,Bool.and_eq_true] at h
 rcases range8 ha with rfl | rfl | rfl | rfl | rfl | rfl | rfl | rfl
 ·exact h.1
 ·exact h.2.1
 ·exact h.2.2.1
 ·exact h.2.2.2.1
 ·exact h.2.2.2.2.1
 ·exact h.2.2.2.2.2.1
 ·exact h.2.2.2.2.2.2.1
 ·exact h.2.2.2.2.2.2.2
def imp (p q : Bool) : Bool:=if p then q else true
theorem imp_at {p q : Bool} (h : imp p q = true) (hp : p = true) : q = true:=by
 unfold imp at h
 rwa [if_pos hp] at h
theorem t_refl : all8 (fun a=>sub7 a a) = true:=by kernel_rfl
theorem sub7_refl {a : Int} (ha : 0 ≤ a ∧ a ≤ 7) : sub7 a a = true:=all8_at t_refl ha
theorem t_trans : all8 (fun a=>all8 fun b=>imp (sub7 a b) (all8 fun c=>imp (sub7 b c) (sub7 a c))) = true:=by kernel_rfl
theorem sub7_trans {a b c : Int} (ha : 0 ≤ a ∧ a ≤ 7) (hb : 0 ≤ b ∧ b ≤ 7) (hc : 0 ≤ c ∧ c ≤ 7) (h : sub7 a b = true) (h' : sub7 b c = true) : sub7 a c = true:=
 imp_at (all8_at (imp_at (all8_at (all8_at t_trans ha) hb) h) hc) h'
theorem t_neg : all8 (fun a=>all8 fun b=>imp (sub7 a b) (sub7 (neg a) (neg b))) = true:=by kernel_rfl
theorem neg_mono {a b : Int} (ha : 0 ≤ a ∧ a ≤ 7) (hb : 0 ≤ b ∧ b ≤ 7) (h : sub7 a b = true) : sub7 (neg a) (neg b) = true:=imp_at (all8_at (all8_at t_neg ha) hb) h
theorem t_nt : all8 (fun a=>all8 fun b=>imp (sub7 a b) (sub7 (ntV a) (ntV b))) = true:=by kernel_rfl
theorem nt_mono {a b : Int} (ha : 0 ≤ a ∧ a ≤ 7) (hb : 0 ≤ b ∧ b ≤ 7) (h : sub7 a b = true) : sub7 (ntV a) (ntV b) = true:=imp_at (all8_at (all8_at t_nt ha) hb) h
def kRep (k : Int) : Int:=if k = 8 then 8 else if k = 9 then 9 else if 6 ≤ k then 6 else 3
theorem bnS_rep (k a b : Int) : bnS k a b = bnS (kRep k) a b:=by
 unfold kRep
 by_cases h8 : k = 8
 ·rw [if_pos h8,h8]
 ·rw [if_neg h8]
  by_cases h9 : k = 9
  ·rw [if_pos h9,h9]
  ·rw [if_neg h9]
   by_cases h6 : 6 ≤ k
   ·rw [if_pos h6]
    simp [bnS,h8,h9,h6]
   ·rw [if_neg h6]
    simp [bnS,h8,h9,h6]
def monoB (k : Int) : Bool:=all8 fun a=>all8 fun a'=>imp (sub7 a a') (all8 fun b=>sub7 (bnS k a b) (bnS k a' b) && sub7 (bnS k b a) (bnS k b a'))
def rngB (k : Int) : Bool:=all8 fun a=>all8 fun b=>in7 (bnS k a b)
theorem t_3 : (monoB 3 && rngB 3) = true:=by kernel_rfl
theorem t_6 : (monoB 6 && rngB 6) = true:=by kernel_rfl
theorem t_8 : (monoB 8 && rngB 8) = true:=by kernel_rfl
theorem t_9 : (monoB 9 && rngB 9) = true:=by kernel_rfl
theorem t_bin (k : Int) : (monoB (kRep k) && rngB (kRep k)) = true:=by
 unfold kRep
 split
 ·exact t_8
 ·split
  ·exact t_9
  ·split
   ·exact t_6
   ·exact t_3
theorem bnS_range (k : Int) {a b : Int} (ha : 0 ≤ a ∧ a ≤ 7) (hb : 0 ≤ b ∧ b ≤ 7) : 0 ≤ bnS k a b ∧ bnS k a b ≤ 7:=by
 have h:=t_bin k
 rw [Bool.and_eq_true] at h
 have:=all8_at (all8_at h.2 ha) hb
 rw [bnS_rep]
 exact in7_iff this
theorem bnS_mono (k : Int) {a a' b b' : Int} (ha : 0 ≤ a ∧ a ≤ 7) (ha' : 0 ≤ a' ∧ a' ≤ 7) (hb : 0 ≤ b ∧ b ≤ 7) (hb' : 0 ≤ b' ∧ b' ≤ 7) (h : sub7 a a' = true) (h' : sub7 b b' = true) : sub7 (bnS k a b) (bnS k a' b') = true:=by
 have ht:=t_bin k
 rw [Bool.and_eq_true] at ht
 have h1:=all8_at (imp_at (all8_at (all8_at ht.1 ha) ha') h) hb
 have h2:=all8_at (imp_at (all8_at (all8_at ht.1 hb) hb') h') ha'
 rw [Bool.and_eq_true] at h1 h2
 rw [bnS_rep,bnS_rep k a' b']
 have r:=fun {x y : Int}=>@bnS_range (kRep k) x y
 have rr : kRep (kRep k) = kRep k:=by
  unfold kRep
  repeat' split
  all_goals omega
 exact sub7_trans (r ha hb) (r ha' hb) (r ha' hb') h1.1 h2.2
theorem neg_range {a : Int} (ha : 0 ≤ a ∧ a ≤ 7) : 0 ≤ neg a ∧ neg a ≤ 7:=in7_iff (tab_not ha).2
def ssIn (ss : List Int) : Prop:=∀ (j : Nat) (s : Int),ss[j]? = some s → 1 ≤ s ∧ s ≤ 7
theorem oc_range {ss : List Int} (hs : ssIn ss) : ∀ (e : E) (d : Nat),eOk e ss.length d → 0 ≤ oc e ss ∧ oc e ss ≤ 7:=by
 refine E.ind (fun e ih d he=>?_)
 rcases eOk_kids he with ⟨h1,_⟩ | ⟨h1,a,hks,hao⟩ | ⟨h1,a,b,hks,hao,hbo⟩
 ·rcases h1 with h1 | h1
  ·have hlo:=((eOk_iff e _ d).1 he).2.2.2
   unfold leafOk at hlo
   rw [if_pos h1] at hlo
   have e0 : ss[e.c.toNat]? = some _:=List.getElem?_eq_getElem (show e.c.toNat < ss.length by omega)
   rw [oc_col h1 e0]
   have:=hs _ _ e0
   omega
  ·rw [oc_const h1]
   exact stV_range _
 ·have hn:=ih a (by rw [hks]; exact List.mem_cons_self ..) (d - 1) hao
  rcases h1 with h1 | h1
  ·rw [oc_not h1 hks]
   exact neg_range hn
  ·rw [oc_null h1 hks]
   exact ntV_range _
 ·have hn:=ih a (by rw [hks]; exact List.mem_cons_self ..) (d - 1) hao
  have hm:=ih b (by rw [hks]; exact List.mem_cons_of_mem _ (List.mem_cons_self ..)) (d - 1) hbo
  rw [oc_two (by omega) (by omega) (by omega) (by omega) hks]
  exact bnS_range _ hn hm
def trS (s : Int) : Int:=if s = 4 then 2 else if s = 1 then 0 else 1
theorem tr_st (v : V) : tr v = trS (stV v):=by
 unfold tr trS stV
 by_cases hb : v.b = true
 ·rw [if_pos hb,if_pos hb]; rfl
 ·rw [if_neg hb,if_neg hb]
  by_cases hn : v.n = 0
  ·rw [if_pos hn,if_pos hn]; rfl
  ·rw [if_neg hn,if_neg hn]; rfl
theorem st_3 (v : V) : stV v = 1 ∨ stV v = 2 ∨ stV v = 4:=by
 unfold stV
 repeat' split
 all_goals simp
theorem st_null {v : V} (h : v.b = true) : stV v = 4:=if_pos h
theorem st_num {v : V} (h : v.b = false) : stV v = 1 ∨ stV v = 2:=by
 unfold stV
 rw [if_neg (by rw [h]; decide)]
 split
 ·exact Or.inl rfl
 ·exact Or.inr rfl
theorem st_comb (k : Int) (x y : V) : sub7 (stV (comb k x y)) (bnS k (stV x) (stV y)) = true:=by
 by_cases h8 : k = 8
 ·rw [comb8 h8,bnS_8 h8,tr_st x,tr_st y]
  rcases st_3 x with e | e | e <;> rcases st_3 y with e' | e' | e' <;> rw [e,e'] <;> first | kernel_rfl | rfl | decide
 ·by_cases h9 : k = 9
  ·rw [comb9 h9,bnS_9 h9,tr_st x,tr_st y]
   rcases st_3 x with e | e | e <;> rcases st_3 y with e' | e' | e' <;> rw [e,e'] <;> first | kernel_rfl | rfl | decide
  ·by_cases hb : x.b = true ∨ y.b = true
   ·rw [combN h8 h9 hb,bnS_rep]
    have hk : kRep k = 6 ∨ kRep k = 3:=by
     unfold kRep
     rw [if_neg h8,if_neg h9]
     split
     ·exact Or.inl rfl
     ·exact Or.inr rfl
    rcases hb with hb | hb
    ·rw [st_null hb]
     rcases st_3 y with e | e | e <;> rcases hk with ek | ek <;> rw [e,ek]
     all_goals first | rfl | decide
    ·rw [st_null hb]
     rcases st_3 x with e | e | e <;> rcases hk with ek | ek <;> rw [e,ek] <;> first | kernel_rfl | rfl | decide
   ·have hx : x.b = false:=by
     cases h : x.b with
     | true=>exact (hb (Or.inl h)).elim
     | false=>rfl
    have hy : y.b = false:=by
     cases h : y.b with
     | true=>exact (hb (Or.inr h)).elim
     | false=>rfl
    rw [combX h8 h9 hx hy,bnS_rep]
    unfold kRep
    rw [if_neg h8,if_neg h9]
    by_cases h6 : 6 ≤ k
    ·rw [if_pos h6,if_neg (by omega),if_neg (by omega),if_neg (by omega)]
     have h12 : ∀ c : Bool,stV ⟨false,b2i c⟩ = 1 ∨ stV ⟨false,b2i c⟩ = 2:=fun c=>st_num rfl
     split
     ·rcases st_num hx with e | e <;> rcases st_num hy with e' | e' <;> rcases h12 (x.n == y.n) with ec | ec <;> rw [e,e',ec] <;> first | kernel_rfl | rfl | decide
     ·rcases st_num hx with e | e <;> rcases st_num hy with e' | e' <;> rcases h12 (decide (x.n < y.n)) with ec | ec <;> rw [e,e',ec] <;> first | kernel_rfl | rfl | decide
    ·rw [if_neg h6]
     generalize (if k = 3 then num (x.n + y.n) else if k = 4 then num (x.n - y.n) else if k = 5 then num (x.n * y.n) else if k = 6 then ⟨false,b2i (x.n == y.n)⟩ else ⟨false,b2i (decide (x.n < y.n))⟩) = z
     rcases st_num hx with e | e <;> rcases st_num hy with e' | e' <;> rcases st_3 z with ec | ec | ec <;> rw [e,e',ec] <;> first | kernel_rfl | rfl | decide
theorem st_not (v : V) : sub7 (stV (ofTr (notTr (tr v)))) (neg (stV v)) = true:=by
 rw [tr_st v]
 rcases st_3 v with e | e | e <;> rw [e] <;> first | kernel_rfl | rfl | decide
theorem st_nt (v : V) : sub7 (stV ⟨false,b2i v.b⟩) (ntV (stV v)) = true:=by
 cases hb : v.b with
 | true=>rw [st_null hb]; kernel_rfl
 | false=>rcases st_num hb with e | e <;> rw [e] <;> first | kernel_rfl | rfl | decide
theorem oc_sound {ss : List Int} {row : List V} (hs : ssIn ss) (hl : row.length = ss.length) (hrs : ∀ (j : Nat) (v : V) (s : Int),row[j]? = some v → ss[j]? = some s → sub7 (stV v) s = true) : ∀ (e : E) (d : Nat),eOk e ss.length d → sub7 (stV (ev e row)) (oc e ss) = true:=by
 refine E.ind (fun e ih d he=>?_)
 rcases eOk_kids he with ⟨h1,_⟩ | ⟨h1,a,hks,hao⟩ | ⟨h1,a,b,hks,hao,hbo⟩
 ·rcases h1 with h1 | h1
  ·have hlo:=((eOk_iff e _ d).1 he).2.2.2
   unfold leafOk at hlo
   rw [if_pos h1] at hlo
   have e0 : ss[e.c.toNat]? = some _:=List.getElem?_eq_getElem (show e.c.toNat < ss.length by omega)
   have e1 : row[e.c.toNat]? = some _:=List.getElem?_eq_getElem (show e.c.toNat < row.length by omega)
   rw [oc_col h1 e0,ev_col h1 e1]
   exact hrs _ _ _ e1 e0
  ·rw [oc_const h1,ev_const h1]
   exact sub7_refl (stV_range _)
 ·have hn:=ih a (by rw [hks]; exact List.mem_cons_self ..) (d - 1) hao
  have r1:=oc_range hs a _ hao
  rcases h1 with h1 | h1
  ·rw [oc_not h1 hks,ev_not h1 hks]
   exact sub7_trans (stV_range _) (neg_range (stV_range _)) (neg_range r1) (st_not _) (neg_mono (stV_range _) r1 hn)
  ·rw [oc_null h1 hks,ev_null h1 hks]
   exact sub7_trans (stV_range _) (ntV_range _) (ntV_range _) (st_nt _) (nt_mono (stV_range _) r1 hn)
 ·have hn:=ih a (by rw [hks]; exact List.mem_cons_self ..) (d - 1) hao
  have hm:=ih b (by rw [hks]; exact List.mem_cons_of_mem _ (List.mem_cons_self ..)) (d - 1) hbo
  have r1:=oc_range hs a _ hao
  have r2:=oc_range hs b _ hbo
  rw [oc_two (by omega) (by omega) (by omega) (by omega) hks,ev_two (by omega) (by omega) (by omega) (by omega) hks]
  exact sub7_trans (stV_range _) (bnS_range _ (stV_range _) (stV_range _)) (bnS_range _ r1 r2) (st_comb _ _ _) (bnS_mono _ (stV_range _) r1 (stV_range _) r2 hn hm)
end Go.Proofs.YtefldihjbaodnaaGreat

/-
  Drawn plans: the planner's other steps. No condition.
-/
import Derived.Test.YtgpdmgaemhelgaaGreatKSDca
import Derived.Test.YtgpdmgaemhelgaaGreatJSDco
import Derived.Test.YtgpdmgaemhelgaaGreatJSVRej
import Derived.Test.YtgpdmgaemhelgaaGreatJSVYld
set_option maxHeartbeats 4000000
set_option maxRecDepth 100000
set_option linter.unusedVariables false
set_option linter.unusedSimpArgs false
namespace Go.Proofs.YtgpdmgaemhelgaaGreat
open Go.RowKit
variable {bs : List Nat} {ws : List Int} {p j u d : Nat} {x : Pl} {t k6 c n : Int} {q j1 u1 : Nat}
theorem plan_dist (h : Pre bs ws p j u d x t k6 c n q j1 u1) (hc : c = 8) : DPlan bs ws p j u ((d + 1 : Nat) : Int) (.mk 7 0 [] [] [x]) (q + 1) j1 u1:=by
 obtain ⟨hl,hd,h1,h2,h6,hk,hw,hn,h3,hj,hu⟩:=h
 subst hc
 have hs : Sub (.agg [I 7,I 0,.nul,.nul,.sl 5 [pD x]]) (pD (.mk 7 0 [] [] [x])):=plS (Sub.nul 5) (Sub.nul 1) (Sub.refl _)
 simp only [go_sem] at hs
 refine Bk c_Z34 mixed 3 (go1 trivial ?_)
 refine UcR [1000001] trivial (h1) (go1 trivial ?_)
 refine UcR [1000001] trivial (h2) (go1 trivial ?_)
 refine UcR [1000000,1000001,1000002] trivial (hk) (go1 trivial ?_)
 refine UcR [1000002] trivial (hw) (go1 trivial ?_)
 refine UcR [1000001] trivial (h3) (go1 trivial ?_)
 refine fin_L [1000000,1000001,1000002] ?_ ?_ rfl ?_
 repeat' (first|(conv in hold _=>simp (disch:=omega) only [go_sem])|exact trivial|exact Sub.refl _|omega)
 all_goals exact hs
theorem plan_grp (h : Pre bs ws p j u d x t k6 c n q j1 u1) (hc : c = 9) (hn1 : ¬ 1 < n) : DPlan bs ws p j u ((d + 1 : Nat) : Int) (.mk 8 0 [] [] [x]) (q + 1) j1 u1:=by
 obtain ⟨hl,hd,h1,h2,h6,hk,hw,hn,h3,hj,hu⟩:=h
 subst hc
 have hs : Sub (.agg [I 8,I 0,.nul,.nul,.sl 5 [pD x]]) (pD (.mk 8 0 [] [] [x])):=plS (Sub.nul 5) (Sub.nul 1) (Sub.refl _)
 simp only [go_sem] at hs
 refine Bk c_Z34 mixed 3 (go1 trivial ?_)
 refine UcR [1000001] trivial (h1) (go1 trivial ?_)
 refine UcR [1000001] trivial (h2) (go1 trivial ?_)
 refine UcR [1000000,1000001,1000002] trivial (hk) (go1 trivial ?_)
 refine UcR [1000002] trivial (hw) (go1 trivial ?_)
 refine UcR [1000001] trivial (h3) (go1 trivial ?_)
 refine fin_L [1000000,1000001,1000002] ?_ ?_ rfl ?_
 repeat' (first|(conv in hold _=>simp (disch:=omega) only [go_sem])|exact trivial|exact Sub.refl _|omega)
 all_goals exact hs
theorem plan_grpc (h : Pre bs ws p j u d x t k6 c n q j1 u1) (hc : c = 9) (hn1 : 1 < n) {g : Int} (hg : DPick bs (q + 1) n g) : DPlan bs ws p j u ((d + 1 : Nat) : Int) (.mk 8 0 [] [g] [x]) (q + 2) j1 u1:=by
 obtain ⟨hl,hd,h1,h2,h6,hk,hw,hn,h3,hj,hu⟩:=h
 subst hc
 have hs : Sub (.agg [I 8,I 0,.nul,.sl 1 [I g],.sl 5 [pD x]]) (pD (.mk 8 0 [] [g] [x])):=plS (Sub.nul 5) (Sub.refl _) (Sub.refl _)
 simp only [go_sem] at hs
 refine Bk c_Z34 mixed 3 (go1 trivial ?_)
 refine UcR [1000001] trivial (h1) (go1 trivial ?_)
 refine UcR [1000001] trivial (h2) (go1 trivial ?_)
 refine UcR [1000000,1000001,1000002] trivial (hk) (go1 trivial ?_)
 refine UcR [1000002] trivial (hw) (go1 trivial ?_)
 refine UcR [1000001] trivial (h3) (go1 trivial ?_)
 refine UcR [1000001] trivial (hg) (go1 trivial ?_)
 refine fin_L [1000000,1000001,1000002] ?_ ?_ rfl ?_
 repeat' (first|(conv in hold _=>simp (disch:=omega) only [go_sem])|exact trivial|exact Sub.refl _|omega)
 all_goals exact hs
theorem plan_uni (h : Pre bs ws p j u d x t k6 c n q j1 u1) (hc : c = 7) (hu1 : 0 < u1) (hsz : psz x ≤ 900000) {e : E} {q2 : Nat} (hce : DCond bs (q + 1) n e q2) : DPlan bs ws p j u ((d + 1 : Nat) : Int) (.mk 6 0 [] [] [x,.mk 2 0 [e] [] [x]]) q2 j1 (u1 - 1):=by
 obtain ⟨hl,hd,h1,h2,h6,hk,hw,hn,h3,hj,hu⟩:=h
 subst hc
 have hf:=filterOf_ok e x
 have hcp:=copyPlan_ok x hsz
 have hs : Sub (.agg [I 6,I 0,.nul,.nul,.sl 5 [pD x,pD (.mk 2 0 [e] [] [x])]]) (pD (.mk 6 0 [] [] [x,.mk 2 0 [e] [] [x]])):=plS (Sub.nul 5) (Sub.nul 1) (Sub.refl _)
 simp only [go_sem] at hs
 have hu2 : ((u1 - 1 : Nat) : Int) = (u1 : Int) - 1:=by omega
 refine Bk c_Z34 mixed 3 (go1 trivial ?_)
 refine UcR [1000001] trivial (h1) (go1 trivial ?_)
 refine UcR [1000001] trivial (h2) (go1 trivial ?_)
 refine UcR [1000000,1000001,1000002] trivial (hk) (go1 trivial ?_)
 refine UcR [1000002] trivial (hw) (go1 trivial ?_)
 refine UcR [1000001] trivial (h3) (go1 trivial ?_)
 refine UcR [1000001] trivial (hce) (go1 trivial ?_)
 refine Uc trivial (hcp) (go1 trivial ?_)
 refine Uc trivial (hf) (go1 trivial ?_)
 refine fin_L [1000000,1000001,1000002] ?_ ?_ rfl ?_
 repeat' (first|(conv in hold _=>simp (disch:=omega) only [go_sem,hu2])|exact trivial|exact Sub.refl _|omega)
 all_goals exact hs
theorem plan_join (h : Pre bs ws p j u d x t k6 c n q j1 u1) (hc : c = 5 ∨ c = 6) (hj0 : 0 < j1) (hn4 : n ≤ 4) {d2 : Int} (hd2 : DPick bs (q + 1) 2 d2) {y : Pl} {q2 j2 u2 : Nat} (hy : DPlan bs ws (q + 2) (j1 - 1) u1 d2 y q2 j2 u2) {m : Int} (hm : DWid ws y m) (hm0 : 0 ≤ m ∧ m ≤ 6) (hnm : n + m ≤ 6)
  {k : Int} (hkk : Does Tryz.prog 82 [rdD bs q2] [.ref 1000000 0,.sl 1 ([4,5].map I)] (I k) [rdD bs (q2 + 1)]) {e : E} {q3 : Nat} (hce : DCond bs (q2 + 1) (n + m) e q3) : DPlan bs ws p j u ((d + 1 : Nat) : Int) (.mk k 0 [e] [] [x,y]) q3 j2 u2:=by
 obtain ⟨hl,hd,h1,h2,h6,hk,hw,hn,h3,hj,hu⟩:=h
 have hs : Sub (.agg [I k,I 0,.sl 5 [eD e],.nul,.sl 5 [pD x,pD y]]) (pD (.mk k 0 [e] [] [x,y])):=plS (Sub.refl _) (Sub.nul 1) (Sub.refl _)
 simp only [go_sem] at hs
 have hj2 : ((j1 - 1 : Nat) : Int) = (j1 : Int) - 1:=by omega
 unfold DPlan gnD at hy
 rw [hj2] at hy
 rcases hc with rfl | rfl
 all_goals
  refine Bk c_Z34 mixed 3 (go1 trivial ?_)
  refine UcR [1000001] trivial (h1) (go1 trivial ?_)
  refine UcR [1000001] trivial (h2) (go1 trivial ?_)
  refine UcR [1000000,1000001,1000002] trivial (hk) (go1 trivial ?_)
  refine UcR [1000002] trivial (hw) (go1 trivial ?_)
  refine UcR [1000001] trivial (h3) (go1 trivial ?_)
  refine UcR [1000001] trivial (hd2) (go1 trivial ?_)
  refine UcR [1000000,1000001,1000002] trivial (hy) (go1 trivial ?_)
  refine UcR [1000002] trivial (hm) (go1 trivial ?_)
  refine UcR [1000001] trivial (hkk) (go1 trivial ?_)
  refine UcR [1000001] trivial (hce) (go1 trivial ?_)
  refine fin_L [1000000,1000001,1000002] ?_ ?_ rfl ?_
  all_goals exact Ag trivial
 all_goals exact hs
theorem plan_wide (h : Pre bs ws p j u d x t k6 c n q j1 u1) (hc : c = 5 ∨ c = 6) (hj0 : 0 < j1) (hn4 : n ≤ 4) {d2 : Int} (hd2 : DPick bs (q + 1) 2 d2) {y : Pl} {q2 j2 u2 : Nat} (hy : DPlan bs ws (q + 2) (j1 - 1) u1 d2 y q2 j2 u2) {m : Int} (hm : DWid ws y m) (hm0 : 0 ≤ m ∧ m ≤ 6) (hnm : ¬ n + m ≤ 6)
  {e : E} {q3 : Nat} (hce : DCond bs q2 n e q3) : DPlan bs ws p j u ((d + 1 : Nat) : Int) (.mk 2 0 [e] [] [x]) q3 j2 u2:=by
 obtain ⟨hl,hd,h1,h2,h6,hk,hw,hn,h3,hj,hu⟩:=h
 have hf:=filterOf_ok e x
 have hj2 : ((j1 - 1 : Nat) : Int) = (j1 : Int) - 1:=by omega
 unfold DPlan gnD at hy
 rw [hj2] at hy
 rcases hc with rfl | rfl
 all_goals
  refine Bk c_Z34 mixed 3 (go1 trivial ?_)
  refine UcR [1000001] trivial (h1) (go1 trivial ?_)
  refine UcR [1000001] trivial (h2) (go1 trivial ?_)
  refine UcR [1000000,1000001,1000002] trivial (hk) (go1 trivial ?_)
  refine UcR [1000002] trivial (hw) (go1 trivial ?_)
  refine UcR [1000001] trivial (h3) (go1 trivial ?_)
  refine UcR [1000001] trivial (hd2) (go1 trivial ?_)
  refine UcR [1000000,1000001,1000002] trivial (hy) (go1 trivial ?_)
  refine UcR [1000002] trivial (hm) (go1 trivial ?_)
  refine UcR [1000001] trivial (hce) (go1 trivial ?_)
  refine Uc trivial (hf) (go1 trivial ?_)
  refine fin_L [1000000,1000001,1000002] ?_ ?_ rfl ?_
  all_goals exact Ag trivial
def DOne (bs : List Nat) (n : Int) (p : Nat) (e : E) (q : Nat) : Prop:=(∃ dd : Int,DPick bs p 2 dd ∧ Does Tryz.prog 156 [rdD bs (p + 1)] [.ref 1000000 0,I n,I dd] (eD e) [rdD bs q]) ∧ esz e ≤ 3
theorem one_drawn (hs : Src bs) (n : Int) (hn : n < 1000) (p : Nat) (hp : p < 600000000) : ∃ e q,DOne bs n p e q ∧ p ≤ q ∧ q ≤ p + 60:=by
 obtain ⟨dd,hdd,d0,d1,_⟩:=pick_ok hs p (by omega) 2 (by omega)
 have hd1:=d1 (by omega)
 obtain ⟨m,rfl⟩:=Int.eq_ofNat_of_zero_le d0
 have hb0 : bnd 0 = 5:=by decide
 have hb1 : bnd 1 = 20:=by decide
 have hz0 : szb 0 = 1:=by decide
 have hz1 : szb 1 = 3:=by decide
 have hm : m = 0 ∨ m = 1:=by omega
 rcases hm with rfl | rfl
 ·obtain ⟨e,q,he,hq0,hq1,hz⟩:=randomExpr_ok hs n hn 0 (p + 1) (by omega)
  exact ⟨e,q,⟨⟨_,hdd,he⟩,by omega⟩,by omega,by omega⟩
 ·obtain ⟨e,q,he,hq0,hq1,hz⟩:=randomExpr_ok hs n hn 1 (p + 1) (by omega)
  exact ⟨e,q,⟨⟨_,hdd,he⟩,by omega⟩,by omega,by omega⟩
theorem plan_proj (h : Pre bs ws p j u d x t k6 c n q j1 u1) (hc : c = 3 ∨ c = 4) {mm : Nat} (hmm : DPick bs (q + 1) 2 mm) (hm1 : mm ≤ 1) {es : List E} {ps : Nat → Nat} (hel : es.length = 1 + mm) (h0 : ps 0 = q + 2) (hes : ∀ i e,es[i]? = some e → DOne bs n (ps i) e (ps (i + 1))) : DPlan bs ws p j u ((d + 1 : Nat) : Int) (.mk 3 0 es [] [x]) (ps (1 + mm)) j1 u1:=by
 obtain ⟨hl,hd,h1,h2,h6,hk,hw,hn,h3,hj,hu⟩:=h
 have hs : Sub (.agg [I 3,I 0,.sl 5 (es.map eD),.nul,.sl 5 [pD x]]) (pD (.mk 3 0 es [] [x])):=plS (Sub.refl _) (Sub.nul 1) (Sub.refl _)
 simp only [go_sem] at hs
 rcases hc with rfl | rfl
 all_goals
  refine Bk c_Z34 mixed 3 (go1 trivial ?_)
  refine UcR [1000001] trivial (h1) (go1 trivial ?_)
  refine UcR [1000001] trivial (h2) (go1 trivial ?_)
  refine UcR [1000000,1000001,1000002] trivial (hk) (go1 trivial ?_)
  refine UcR [1000002] trivial (hw) (go1 trivial ?_)
  refine UcR [1000001] trivial (h3) (go1 trivial ?_)
  refine UcR [1000001] trivial (hmm) (go1 trivial ?_)
  refine dw_for (c:=6) (l:=fun i=>[(4,.ref 1000003 0),(5,.ref 1000001 0),(7,.ref 1000004 0),(8,I n),(9,.own 1000005 5 i),(10,I (1 + (mm : Int) - i)),(1000000,gnD ws j1 u1),(1000001,rdD bs (ps i)),(1000002,wrD ws),(1000003,.obj [I 0,I 0,.nul,.nul,.nul]),(1000004,.obj [I x.k,I x.t,.sl 5 (x.es.map eD),.sl 1 (x.cs.map I),.sl 5 (x.ks.map pD)]),(1000005,.row 5 ((es.take i).map eD))]) (1 + mm) (fun _=>True) 0 trivial ((wk_row 9 2000099 5 (by decide) (by decide) rfl rfl).trans (Wk.list [1000000,1000001,1000002,2000004,2000007,2000099] rfl rfl ?_)) (fun i hi _=>?_) (Nat.zero_le _)
  ·rw [h0]
   repeat' (first|(conv in hold _=>simp (disch:=omega) only [go_sem])|exact trivial|exact Sub.refl _|omega)
   exact congrArg (fun n=>D.v (Value.int .i64 n)) (by omega)
  ·have hlt:=take_len (vs:=es) (i:=i) (by omega)
   have hmt:=take_map eD (vs:=es) (i:=i) (by omega)
   by_cases hil : i < 1 + mm
   ·obtain ⟨e,he1⟩ : ∃ e,es[i]? = some e:=⟨es[i],List.getElem?_eq_getElem (by omega)⟩
    obtain ⟨⟨dd,hx1,hx2⟩,_⟩:=hes i e he1
    have hnx:=take_next he1
    refine go1 trivial ?_
    refine UcR [1000001] trivial (hx1) (go1 trivial ?_)
    refine UcR [1000001] trivial (hx2) (go1 trivial ?_)
    refine ⟨by omega,trivial,Wk.list [1000000,1000001,1000002,1000003,1000004,2000072] rfl rfl ?_⟩
    repeat' (first|(conv in hold _=>simp (disch:=omega) only [go_sem])|exact trivial|exact Sub.refl _|omega)
    refine ⟨congrArg (fun n=>D.v (Value.int .i64 n)) (by omega),?_⟩
    rw [hmt,hnx,List.map_append,List.map_cons,List.map_nil,eD_eq e]
   ·obtain rfl : i = 1 + mm:=by omega
    have e1 : es.take (1 + mm) = es:=List.take_of_length_le (by omega)
    have e2 : (es.map eD).take (1 + mm) = es.map eD:=List.take_of_length_le (by rw [List.length_map]; omega)
    refine go1F @e1 ?_
    refine fin_wk (wk_frzO 1000003 1000005 (by decide) (by decide) rfl (by decide) rfl ?_) ?_
    rotate_left
    (conv in hold _=>simp (disch:=omega) only [go_sem,e1,e2])
    ·refine fin_L [1000000,1000001,1000002] ?_ ?_ rfl ?_
     repeat' (first|(conv in hold _=>simp (disch:=omega) only [go_sem])|exact trivial|exact Sub.refl _|omega)
     rw [if_pos (by omega)]
     exact hs
    ·exact exprs_pur _
end Go.Proofs.YtgpdmgaemhelgaaGreat
set_option maxHeartbeats 4000000
set_option maxRecDepth 100000
set_option linter.unusedVariables false
set_option linter.unusedSimpArgs false
namespace Go.Proofs.YtgpdmgaemhelgaaGreat
open Go.RowKit
theorem zero_1 {n : Int} (h : n ≠ 0) : ¬ zeroIn [n]:=by
 rintro ⟨j,hj⟩
 cases j with
 | zero=>exact h (by simpa using hj)
 | succ j=>simp at hj
theorem wd_1 {ws : List Int} {k : Int} {es : List E} {cs : List Int} {p : Pl} {d : Nat} (hk : k ≠ 1) (hf : fields (.mk k 0 es cs [p])) : wdV ws (.mk k 0 es cs [p]) (d + 1) = resV (.mk k 0 es cs [p]) [wdV ws p d]:=by
 rw [wd_eq,if_pos hf,if_neg (show ¬ (Pl.mk k 0 es cs [p]).k = 1 from hk),if_neg (Nat.succ_ne_zero d)]
 rfl
theorem wd_1t {ws : List Int} {k : Int} {es : List E} {cs : List Int} {p : Pl} {d : Nat} (hk : k ≠ 1) (hf : fieldsI (.mk k 0 es cs [p])) (h0 : wdV ws p d ≠ 0) (hv : fitsV (.mk k 0 es cs [p]) [wdV ws p d]) : wdV ws (.mk k 0 es cs [p]) (d + 1) = fromV (.mk k 0 es cs [p]) [wdV ws p d]:=by
 rw [wd_1 hk hf.1,resV_t (zero_1 h0) hf hv]
theorem wd_1z {ws : List Int} {k : Int} {es : List E} {cs : List Int} {p : Pl} {d : Nat} (hk : k ≠ 1) (h0 : wdV ws p d = 0) : wdV ws (.mk k 0 es cs [p]) (d + 1) = 0:=
 Classical.byContradiction fun h=>(wd_fit h (show ¬ (Pl.mk k 0 es cs [p]).k = 1 from hk)).2.2 p (List.mem_cons_self ..) (by simpa using h0)
theorem fits_v {p : Pl} {ns : List Int} (h6 : ¬ p.k = 6) (h8 : ¬ p.k = 8) (h : ∀ (j : Nat) (e : E),p.es[j]? = some e → (1 ≤ ns.sum ∧ ns.sum ≤ 6) ∧ eOk e ns.sum 8) : fitsV p ns:=by
 unfold fitsV
 rw [if_neg h6,if_neg h8]
 exact h
def fiP (e : E) (p : Pl) : Pl:=.mk 2 0 [e] [] [p]
theorem fi_wd {ws : List Int} {p : Pl} {d : Nat} {e : E} (hr : 0 ≤ wdV ws p d ∧ wdV ws p d ≤ 6) (he : 1 ≤ wdV ws p d → eOk e (wdV ws p d) 8) : wdV ws (fiP e p) (d + 1) = wdV ws p d:=by
 by_cases h0 : wdV ws p d = 0
 ·rw [h0]; exact wd_1z (by decide) h0
 ·have hf : fieldsI (fiP e p):=by
   refine ⟨?_,fun h=>absurd (show (2 : Int) = 3 from h) (by decide)⟩
   simp [fields,fiP,Pl.k,Pl.ks,Pl.es,Pl.cs,Pl.t]
  refine (wd_1t (by decide) hf h0 ?_).trans rfl
  refine fits_v (fun h=>absurd (show (2 : Int) = 6 from h) (by decide)) (fun h=>absurd (show (2 : Int) = 8 from h) (by decide)) (fun j x hj=>?_)
  have hsum : [wdV ws p d].sum = wdV ws p d:=by simp
  rw [hsum]
  have hx : x = e:=by
   cases j with
   | zero=>exact (by simpa [Pl.es] using hj.symm)
   | succ j=>simp [Pl.es] at hj
  rw [hx]
  exact ⟨by omega,he (by omega)⟩
def prP (es : List E) (p : Pl) : Pl:=.mk 3 0 es [] [p]
theorem pr_wd {ws : List Int} {p : Pl} {d : Nat} {es : List E} (hr : 0 ≤ wdV ws p d ∧ wdV ws p d ≤ 6) (hl : 1 ≤ es.length ∧ es.length ≤ 6) (he : 1 ≤ wdV ws p d → ∀ e,e ∈ es → eOk e (wdV ws p d) 8) : wdV ws (prP es p) (d + 1) = if wdV ws p d = 0 then 0 else (es.length : Int):=by
 by_cases h0 : wdV ws p d = 0
 ·rw [if_pos h0]; exact wd_1z (by decide) h0
 ·rw [if_neg h0]
  have hf : fieldsI (prP es p):=by
   refine ⟨?_,fun _=>hl⟩
   simp [fields,prP,Pl.k,Pl.ks,Pl.es,Pl.cs,Pl.t]
  refine (wd_1t (by decide) hf h0 ?_).trans rfl
  refine fits_v (fun h=>absurd (show (3 : Int) = 6 from h) (by decide)) (fun h=>absurd (show (3 : Int) = 8 from h) (by decide)) (fun j x hj=>?_)
  have hsum : [wdV ws p d].sum = wdV ws p d:=by simp
  rw [hsum]
  exact ⟨by omega,he (by omega) x (List.mem_of_getElem? hj)⟩
/-! Plans over two kids. -/
theorem zero_2 {a b : Int} (ha : a ≠ 0) (hb : b ≠ 0) : ¬ zeroIn [a,b]:=by
 rintro ⟨j,hj⟩
 cases j with
 | zero=>exact ha (by simpa using hj)
 | succ j=>
  cases j with
  | zero=>exact hb (by simpa using hj)
  | succ j=>simp at hj
theorem wd_2 {ws : List Int} {k : Int} {es : List E} {cs : List Int} {p q : Pl} {d : Nat} (hk : k ≠ 1) (hf : fields (.mk k 0 es cs [p,q])) : wdV ws (.mk k 0 es cs [p,q]) (d + 1) = resV (.mk k 0 es cs [p,q]) [wdV ws p d,wdV ws q d]:=by
 rw [wd_eq,if_pos hf,if_neg (show ¬ (Pl.mk k 0 es cs [p,q]).k = 1 from hk),if_neg (Nat.succ_ne_zero d)]
 rfl
theorem wd_2t {ws : List Int} {k : Int} {es : List E} {cs : List Int} {p q : Pl} {d : Nat} (hk : k ≠ 1) (hf : fieldsI (.mk k 0 es cs [p,q])) (h0 : wdV ws p d ≠ 0) (h1 : wdV ws q d ≠ 0) (hv : fitsV (.mk k 0 es cs [p,q]) [wdV ws p d,wdV ws q d]) :
  wdV ws (.mk k 0 es cs [p,q]) (d + 1) = fromV (.mk k 0 es cs [p,q]) [wdV ws p d,wdV ws q d]:=by
 rw [wd_2 hk hf.1,resV_t (zero_2 h0 h1) hf hv]
theorem wd_2z {ws : List Int} {k : Int} {es : List E} {cs : List Int} {p q : Pl} {d : Nat} (hk : k ≠ 1) (h0 : wdV ws p d = 0 ∨ wdV ws q d = 0) : wdV ws (.mk k 0 es cs [p,q]) (d + 1) = 0:=by
 refine Classical.byContradiction fun h=>?_
 have hx:=(wd_fit h (show ¬ (Pl.mk k 0 es cs [p,q]).k = 1 from hk)).2.2
 rcases h0 with h0 | h0
 ·exact hx p (List.mem_cons_self ..) (by simpa using h0)
 ·exact hx q (List.mem_cons_of_mem _ (List.mem_cons_self ..)) (by simpa using h0)
def unP (p q : Pl) : Pl:=.mk 6 0 [] [] [p,q]
theorem un_fields (p q : Pl) : fieldsI (unP p q):=by
 refine ⟨?_,fun h=>absurd (show (6 : Int) = 3 from h) (by decide)⟩
 simp [fields,unP,Pl.k,Pl.ks,Pl.es,Pl.cs,Pl.t]
theorem un_wd {ws : List Int} {p q : Pl} {d : Nat} : wdV ws (unP p q) (d + 1) = if wdV ws p d = 0 ∨ wdV ws q d = 0 ∨ wdV ws p d ≠ wdV ws q d then 0 else wdV ws p d:=by
 by_cases h0 : wdV ws p d = 0 ∨ wdV ws q d = 0
 ·rw [if_pos (h0.elim Or.inl (fun h=>Or.inr (Or.inl h)))]
  exact wd_2z (by decide) h0
 ·by_cases he : wdV ws p d = wdV ws q d
  ·rw [if_neg (fun h=>h.elim (fun h=>h0 (Or.inl h)) (fun h=>h.elim (fun h=>h0 (Or.inr h)) (fun h=>h he)))]
   refine (wd_2t (by decide) (un_fields p q) (fun h=>h0 (Or.inl h)) (fun h=>h0 (Or.inr h)) ?_).trans rfl
   unfold fitsV
   rw [if_pos (show (Pl.mk 6 0 [] [] [p,q]).k = 6 from rfl)]
   exact he
  ·rw [if_pos (Or.inr (Or.inr he))]
   refine (wd_2 (by decide) (un_fields p q).1).trans (resV_f fun h=>he ?_)
   have hv:=h.2
   unfold fitsV at hv
   rw [if_pos (show (Pl.mk 6 0 [] [] [p,q]).k = 6 from rfl)] at hv
   exact hv
def diP (p : Pl) : Pl:=.mk 7 0 [] [] [p]
theorem di_wd {ws : List Int} {p : Pl} {d : Nat} (hr : 0 ≤ wdV ws p d ∧ wdV ws p d ≤ 6) : wdV ws (diP p) (d + 1) = wdV ws p d:=by
 by_cases h0 : wdV ws p d = 0
 ·rw [h0]; exact wd_1z (by decide) h0
 ·have hf : fieldsI (diP p):=by
   refine ⟨?_,fun h=>absurd (show (7 : Int) = 3 from h) (by decide)⟩
   simp [fields,diP,Pl.k,Pl.ks,Pl.es,Pl.cs,Pl.t]
  refine (wd_1t (by decide) hf h0 (fits_v (fun h=>absurd (show (7 : Int) = 6 from h) (by decide)) (fun h=>absurd (show (7 : Int) = 8 from h) (by decide)) (fun j x hj=>?_))).trans rfl
  simp [Pl.es] at hj
def grP (cs : List Int) (p : Pl) : Pl:=.mk 8 0 [] cs [p]
theorem gr_wd {ws : List Int} {p : Pl} {d : Nat} {cs : List Int} (hc : cs.length < 6 ∧ (wdV ws p d ≠ 0 → colsOk cs (wdV ws p d))) : wdV ws (grP cs p) (d + 1) = if wdV ws p d = 0 then 0 else (cs.length : Int) + 1:=by
 by_cases h0 : wdV ws p d = 0
 ·rw [if_pos h0]; exact wd_1z (by decide) h0
 ·rw [if_neg h0]
  have hf : fieldsI (grP cs p):=by
   refine ⟨?_,fun h=>absurd (show (8 : Int) = 3 from h) (by decide)⟩
   simp [fields,grP,Pl.k,Pl.ks,Pl.es,Pl.cs,Pl.t]
  refine (wd_1t (by decide) hf h0 ?_).trans rfl
  unfold fitsV
  rw [if_neg (show ¬ (Pl.mk 8 0 [] cs [p]).k = 6 from fun h=>absurd (show (8 : Int) = 6 from h) (by decide)),if_pos (show (Pl.mk 8 0 [] cs [p]).k = 8 from rfl)]
  exact ⟨hc.1,hc.2 h0⟩
end Go.Proofs.YtgpdmgaemhelgaaGreat

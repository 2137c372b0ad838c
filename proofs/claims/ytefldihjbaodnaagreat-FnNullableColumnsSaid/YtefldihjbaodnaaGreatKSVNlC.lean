/-
  NullableColumns of the program for plans that fit. No condition.
-/
import Derived.Test.YtefldihjbaodnaaGreatKSDca
import Derived.Test.YtefldihjbaodnaaGreatKSDcj
import Derived.Test.YtefldihjbaodnaaGreatKSVNlB
import Derived.Test.YtefldihjbaodnaaGreatJSVNlS
import Derived.Test.YtefldihjbaodnaaGreatJSVWidF
import Derived.Test.YtefldihjbaodnaaGreatJSVGo
set_option maxHeartbeats 4000000
set_option maxRecDepth 100000
set_option linter.unusedVariables false
set_option linter.unusedSimpArgs false
namespace Go.Proofs.YtefldihjbaodnaaGreat
open Go.RowKit
theorem p_scan {fl : List (List Bool)} {p : Pl} {q : List (List Bool)} {l : List Bool} (hk : p.k = 1) (r : Does Tryz.prog 245 [] [.agg [flD fl],pD p] (boolsD l) []) : Does Tryz.prog 89 [] [pD p,.sl 1 (q.map boolsD),nlV fl] (boolsD l) []:=by
 refine Bg c_Z36 mixed (go1 trivial ?_)
 refine i_meth (nm_scan) ?_
 exact Uc trivial (r) (go0 trivial)
theorem p_filter {fl : List (List Bool)} {p : Pl} {q : List (List Bool)} {a l : List Bool} (hk : p.k = 2) (ha : q[0]? = some a) (r : Does Tryz.prog 240 [] [.agg [flD fl],pD p,boolsD a] (boolsD l) []) : Does Tryz.prog 89 [] [pD p,.sl 1 (q.map boolsD),nlV fl] (boolsD l) []:=by
 have hl0:=(List.getElem?_eq_some_iff.1 ha).1
 skip
 refine Bg c_Z36 mixed (go1N @ha ?_)
 refine s_nilb ?_
 (conv in hold _=>simp (disch:=omega) only [go_sem,List.getElem?_map,ha,Option.map_some])
 refine v_nil (nn_filter) ?_
 refine go1N @ha ?_
 refine i_meth (nm_filter) ?_
 exact Uc trivial (r) (go0N trivial)
theorem p_project {fl : List (List Bool)} {p : Pl} {q : List (List Bool)} {a l : List Bool} (hk : p.k = 3) (ha : q[0]? = some a) (r : Does Tryz.prog 244 [] [.agg [flD fl],pD p,boolsD a] (boolsD l) []) : Does Tryz.prog 89 [] [pD p,.sl 1 (q.map boolsD),nlV fl] (boolsD l) []:=by
 have hl0:=(List.getElem?_eq_some_iff.1 ha).1
 skip
 refine Bg c_Z36 mixed (go1N @ha ?_)
 refine s_nilb ?_
 (conv in hold _=>simp (disch:=omega) only [go_sem,List.getElem?_map,ha,Option.map_some])
 refine v_nil (nn_project) ?_
 refine go1N @ha ?_
 refine i_meth (nm_project) ?_
 exact Uc trivial (r) (go0N trivial)
theorem p_join {fl : List (List Bool)} {p : Pl} {q : List (List Bool)} {a b l : List Bool} (hk : p.k = 4) (ha : q[0]? = some a) (hb : q[1]? = some b) (r : Does Tryz.prog 242 [] [.agg [flD fl],pD p,boolsD a,boolsD b] (boolsD l) []) : Does Tryz.prog 89 [] [pD p,.sl 1 (q.map boolsD),nlV fl] (boolsD l) []:=by
 have hl0:=(List.getElem?_eq_some_iff.1 ha).1
 have hl1:=(List.getElem?_eq_some_iff.1 hb).1
 refine Bg c_Z36 mixed (go1N (cj2 @ha @hb) ?_)
 refine s_nilb ?_
 (conv in hold _=>simp (disch:=omega) only [go_sem,List.getElem?_map,ha,hb,Option.map_some])
 refine v_nil (nn_join) ?_
 refine go1N (cj2 @ha @hb) ?_
 refine i_meth (nm_join) ?_
 exact Uc trivial (r) (go0N trivial)
theorem p_leftJoin {fl : List (List Bool)} {p : Pl} {q : List (List Bool)} {a b l : List Bool} (hk : p.k = 5) (ha : q[0]? = some a) (hb : q[1]? = some b) (r : Does Tryz.prog 243 [] [.agg [flD fl],pD p,boolsD a,boolsD b] (boolsD l) []) : Does Tryz.prog 89 [] [pD p,.sl 1 (q.map boolsD),nlV fl] (boolsD l) []:=by
 have hl0:=(List.getElem?_eq_some_iff.1 ha).1
 have hl1:=(List.getElem?_eq_some_iff.1 hb).1
 refine Bg c_Z36 mixed (go1N (cj2 @ha @hb) ?_)
 refine s_nilb ?_
 (conv in hold _=>simp (disch:=omega) only [go_sem,List.getElem?_map,ha,hb,Option.map_some])
 refine v_nil (nn_leftJoin) ?_
 refine go1N (cj2 @ha @hb) ?_
 refine i_meth (nm_leftJoin) ?_
 exact Uc trivial (r) (go0N trivial)
theorem p_union {fl : List (List Bool)} {p : Pl} {q : List (List Bool)} {a b l : List Bool} (hk : p.k = 6) (ha : q[0]? = some a) (hb : q[1]? = some b) (r : Does Tryz.prog 246 [] [.agg [flD fl],pD p,boolsD a,boolsD b] (boolsD l) []) : Does Tryz.prog 89 [] [pD p,.sl 1 (q.map boolsD),nlV fl] (boolsD l) []:=by
 have hl0:=(List.getElem?_eq_some_iff.1 ha).1
 have hl1:=(List.getElem?_eq_some_iff.1 hb).1
 refine Bg c_Z36 mixed (go1N (cj2 @ha @hb) ?_)
 refine s_nilb ?_
 (conv in hold _=>simp (disch:=omega) only [go_sem,List.getElem?_map,ha,hb,Option.map_some])
 refine v_nil (nn_union) ?_
 refine go1N (cj2 @ha @hb) ?_
 refine i_meth (nm_union) ?_
 exact Uc trivial (r) (go0N trivial)
theorem p_distinct {fl : List (List Bool)} {p : Pl} {q : List (List Bool)} {a l : List Bool} (hk : p.k = 7) (ha : q[0]? = some a) (r : Does Tryz.prog 239 [] [.agg [flD fl],pD p,boolsD a] (boolsD l) []) : Does Tryz.prog 89 [] [pD p,.sl 1 (q.map boolsD),nlV fl] (boolsD l) []:=by
 have hl0:=(List.getElem?_eq_some_iff.1 ha).1
 skip
 refine Bg c_Z36 mixed (go1N @ha ?_)
 refine s_nilb ?_
 (conv in hold _=>simp (disch:=omega) only [go_sem,List.getElem?_map,ha,Option.map_some])
 refine v_nil (nn_distinct) ?_
 refine go1N @ha ?_
 refine i_meth (nm_distinct) ?_
 exact Uc trivial (r) (go0N trivial)
theorem p_group {fl : List (List Bool)} {p : Pl} {q : List (List Bool)} {a l : List Bool} (hk : p.k = 8) (ha : q[0]? = some a) (r : Does Tryz.prog 241 [] [.agg [flD fl],pD p,boolsD a] (boolsD l) []) : Does Tryz.prog 89 [] [pD p,.sl 1 (q.map boolsD),nlV fl] (boolsD l) []:=by
 have hl0:=(List.getElem?_eq_some_iff.1 ha).1
 skip
 refine Bg c_Z36 mixed (go1N @ha ?_)
 refine s_nilb ?_
 (conv in hold _=>simp (disch:=omega) only [go_sem,List.getElem?_map,ha,Option.map_some])
 refine v_nil (nn_group) ?_
 refine go1N @ha ?_
 refine i_meth (nm_group) ?_
 exact Uc trivial (r) (go0N trivial)
theorem partN_ok {fl : List (List Bool)} {p : Pl} {q : List (List Bool)} {l : List Bool} (r : Does Tryz.prog 89 [] [pD p,.sl 1 (q.map boolsD),nlV fl] (boolsD l) []) : Does Tryz.prog 88 [.obj [nlV fl]] [pD p,.sl 1 (q.map boolsD),.ref 1000000 0] (boolsD l) [.obj [nlV fl]]:=by
 refine Bk c_Z20 mixed 1 (go1 trivial ?_)
 refine Uc trivial (r) (go1 trivial ?_)
 refine fin_L [1000000] ?_ ?_ rfl ?_
 repeat' (first|(conv in hold _=>simp (disch:=omega) only [go_sem])|exact trivial|exact Sub.refl _|omega)
theorem foldN_step {fl : List (List Bool)} {p : Pl} (hs : psz p ≤ 1048576) (q : List (List Bool)) (hl : q.length = p.ks.length) {l : List Bool}
  (hk : ∀ (i : Nat) (x : Pl) (c : List Bool),p.ks[i]? = some x → q[i]? = some c → Does Tryz.prog 87 [.obj [nlV fl]] [pD x,.fn 88 [.ref 1000000 0]] (boolsD c) [.obj [nlV fl]])
  (r : Does Tryz.prog 89 [] [pD p,.sl 1 (q.map boolsD),nlV fl] (boolsD l) []) : Does Tryz.prog 87 [.obj [nlV fl]] [pD p,.fn 88 [.ref 1000000 0]] (boolsD l) [.obj [nlV fl]]:=by
 have r:=partN_ok r
 rw [psz_eq] at hs
 have hlen:=pszL_len p.ks
 refine Bk c_Z46 mixed 1 (go1 trivial ?_)
 refine dw_for (c:=3) (l:=fun i=>[(1,.fn 88 [.ref 1000000 0]),(2,.ref 1000001 0),(5,.own 1000002 1 i),(9,.sl 5 (p.ks.map pD)),(10,I p.ks.length),(11,I i),(1000000,.obj [nlV fl]),(1000001,.obj [I p.k,I p.t,.sl 5 (p.es.map eD),intsD p.cs,.sl 5 (p.ks.map pD)]),(1000002,.row 1 ((q.take i).map boolsD))]) p.ks.length (fun _=>True) 0 trivial ((wk_row 5 2000090 1 (by decide) (by decide) rfl rfl).trans (Wk.list [1000000,2000002,2000090] rfl rfl ?_)) (fun i hi _=>?_) (Nat.zero_le _)
 ·repeat' (first|(conv in hold _=>simp (disch:=omega) only [go_sem])|exact trivial|exact Sub.refl _|omega)
  (repeat' apply And.intro) <;> rfl
 ·have htl : (q.take i).length = i:=by rw [List.length_take]; omega
  have hmk:=take_map boolsD (vs:=q) (i:=i) (by omega)
  by_cases hil : i < p.ks.length
  ·obtain ⟨x,hx⟩ : ∃ x,p.ks[i]? = some x:=⟨_,List.getElem?_eq_getElem hil⟩
   obtain ⟨c,hqx⟩ : ∃ c,q[i]? = some c:=⟨_,List.getElem?_eq_getElem (by omega)⟩
   have hix:=hk i x c hx hqx
   have hnx:=take_next hqx
   refine go1 @hx ?_
   refine UcR [1000000] @htl (hix) (go1 @htl ?_)
   refine ⟨hil,trivial,Wk.list [1000000,1000001,2000020] rfl rfl ?_⟩
   repeat' (first|(conv in hold _=>simp (disch:=omega) only [go_sem,List.length_map,htl])|exact trivial|exact Sub.refl _|omega)
   rw [hmk,hnx,List.map_append]
   rfl
  ·obtain rfl : i = p.ks.length:=by omega
   have e1 : q.take p.ks.length = q:=List.take_of_length_le (by omega)
   have e2 : (q.map boolsD).take p.ks.length = q.map boolsD:=List.take_of_length_le (by rw [List.length_map]; omega)
   refine go1C @e1 ?_
   refine s_pre (pre_frz (t:=24) (g:=1000002) (by decide) (by decide) rfl ?_) ?_
   rotate_left
   refine go1 (cj3 @e1 @e2 @hl) ?_
   refine v_fn ((by kernel_rfl)) ?_
   refine UcR [1000000] trivial (r) (go1 trivial ?_)
   refine fin_L [1000000] ?_ ?_ rfl ?_
   repeat' (first|(conv in hold _=>simp (disch:=omega) only [go_sem])|exact trivial|exact Sub.refl _|omega)
   exact fl_pur _
def NlR (db : List Ta) (fl : List (List Bool)) (p : Pl) (w : Nat) (l : List Bool) : Prop:=l.length = w ∧ NlOk (evP db p).rows l ∧ Does Tryz.prog 87 [.obj [nlV fl]] [pD p,.fn 88 [.ref 1000000 0]] (boolsD l) [.obj [nlV fl]]
theorem kid_1 {α β : Type} {P : α → β → Prop} {q : α} {a : β} (h : P q a) : ∀ (i : Nat) (x : α) (c : β),[q][i]? = some x → [a][i]? = some c → P x c:=fun i x c hx hc=>by
 cases i with
 | zero=>
  obtain rfl : q = x:=by simpa using hx
  obtain rfl : a = c:=by simpa using hc
  exact h
 | succ i=>simp at hx
theorem kid_2 {α β : Type} {P : α → β → Prop} {q r : α} {a b : β} (h : P q a) (h' : P r b) : ∀ (i : Nat) (x : α) (c : β),[q,r][i]? = some x → [a,b][i]? = some c → P x c:=fun i x c hx hc=>by
 match i with
 | 0=>
  obtain rfl : q = x:=by simpa using hx
  obtain rfl : a = c:=by simpa using hc
  exact h
 | 1=>
  obtain rfl : r = x:=by simpa using hx
  obtain rfl : b = c:=by simpa using hc
  exact h'
 | i + 2=>simp at hx
theorem nl_ok {ws : List Nat} {db : List Ta} (hd : DbW ws db) {fl : List (List Bool)} (hfl : ∀ (j : Nat) (t : Ta) (w : Nat),db[j]? = some t → ws[j]? = some w → ∃ l,fl[j]? = some l ∧ l.length = w ∧ NlOk t.rows l)
  (ho : ∀ (e : E) (ss : List Int) (d : Nat),ssIn ss → eOk e ss.length d → Does Tryz.prog 248 [] [eD e,intsD ss] (I (oc e ss)) []) {p : Pl} {n : Nat} (h : Wt ws p n) : psz p ≤ 1048576 → ∃ l,NlR db fl p n l:=by
 have hpos : ∀ {p : Pl} {n : Nat},Wt ws p n → 1 ≤ n ∧ n ≤ 6:=fun h=>h.pos hd.wid
 induction h with
 | @scan p j w hk ht hw hks=>
  intro hs
  obtain ⟨t,hdj⟩ : ∃ t,db[j]? = some t:=⟨_,List.getElem?_eq_getElem (by have:=(List.getElem?_eq_some_iff.1 hw).1; have:=hd.len; omega)⟩
  obtain ⟨l,hl,hll,hok⟩:=hfl j t w hdj hw
  have hev : evP db p = t:=by
   rw [evP_0 hks,opT,if_pos hk,ht,List.getD_eq_getElem?_getD,show ((j : Int)).toNat = j from rfl,hdj]
   rfl
  exact ⟨l,hll,by rw [hev]; exact hok,foldN_step hs [] (by rw [hks]; rfl) (fun i x c hx hc=>by simp at hc) (p_scan hk (n_scan fl p ht hl))⟩
 | @filter p q w e hk hks hes hq he ih=>
  intro hs
  obtain ⟨a,hla,hoa,hfa⟩:=ih (psz_kid (by rw [hks]; exact List.mem_cons_self ..) hs)
  have hq2:=(evalPlan_ok hd hq).1
  have hw6:=hpos hq
  refine ⟨filN e a,by unfold filN; rw [List.length_map,List.length_range]; exact hla,?_,foldN_step hs [a] (by rw [hks]; rfl) (by rw [hks]; exact kid_1 hfa) (p_filter hk rfl (n_filter fl p hes (by omega) (fun i hi=>ho e _ 8 (stO_set_in a i) (by rw [List.length_set,stO_len,hla]; exact he))))⟩
  rw [evP_1 hks,opT,if_neg (by omega),if_pos hk,hes]
  exact nl_tab _ (nl_filter hoa (by rw [hla]; exact hq2.row) (by rw [hla]; exact he))
 | @project p q w hk hks hq hes hl ih=>
  intro hs
  obtain ⟨a,hla,hoa,hfa⟩:=ih (psz_kid (by rw [hks]; exact List.mem_cons_self ..) hs)
  have hq2:=(evalPlan_ok hd hq).1
  have hw6:=hpos hq
  refine ⟨prjN p.es a,List.length_map _,?_,foldN_step hs [a] (by rw [hks]; rfl) (by rw [hks]; exact kid_1 hfa) (p_project hk rfl (n_project fl p (by omega) (by omega) (fun e he=>ho e _ 8 (stO_in a) (by rw [stO_len,hla]; exact hes e he))))⟩
  rw [evP_1 hks,opT,if_neg (by omega),if_neg (by omega),if_pos hk]
  exact nl_tab _ (nl_project hoa (by rw [hla]; exact hq2.row) (fun e he=>by rw [hla]; exact hes e he))
 | @join p q r wa wb e hk hks hes hq hr he hw iq ir=>
  intro hs
  obtain ⟨a,hla,hoa,hfa⟩:=iq (psz_kid (by rw [hks]; exact List.mem_cons_self ..) hs)
  obtain ⟨b,hlb,hob,hfb⟩:=ir (psz_kid (by rw [hks]; exact List.mem_cons_of_mem _ (List.mem_cons_self ..)) hs)
  have hqT:=(evalPlan_ok hd hq).1
  have hrT:=(evalPlan_ok hd hr).1
  have hwa:=hpos hq
  have hwb:=hpos hr
  have hwt : (evP db r).w.toNat = wb:=by rw [hrT.wid]; rfl
  rcases hk with hk | hk
  ·refine ⟨a ++ b,by rw [List.length_append]; omega,?_,foldN_step hs [a,b] (by rw [hks]; rfl) (by rw [hks]; exact kid_2 hfa hfb) (p_join hk rfl rfl (n_join fl p a b (by omega) (by omega)))⟩
   rw [evP_2 hks,opT,if_neg (by omega),if_neg (by omega),if_neg (by omega),if_pos (Or.inl hk),hk,show ((4 : Int) == 5) = false from rfl]
   exact nl_tab _ (nl_join hla (fun r hr=>(hqT.row r hr).1) hoa hob)
  ·refine ⟨a ++ List.replicate b.length true,by rw [List.length_append,List.length_replicate]; omega,?_,foldN_step hs [a,b] (by rw [hks]; rfl) (by rw [hks]; exact kid_2 hfa hfb) (p_leftJoin hk rfl rfl (n_left fl p a b (by omega) (by omega)))⟩
   rw [evP_2 hks,opT,if_neg (by omega),if_neg (by omega),if_neg (by omega),if_pos (Or.inr hk),hk,show ((5 : Int) == 5) = true from rfl,hwt]
   exact nl_tab _ (nl_left hla hlb (fun r hr=>(hqT.row r hr).1) (fun r hr=>(hrT.row r hr).1) hoa)
 | @union p q r w hk hks hq hr iq ir=>
  intro hs
  obtain ⟨a,hla,hoa,hfa⟩:=iq (psz_kid (by rw [hks]; exact List.mem_cons_self ..) hs)
  obtain ⟨b,hlb,hob,hfb⟩:=ir (psz_kid (by rw [hks]; exact List.mem_cons_of_mem _ (List.mem_cons_self ..)) hs)
  have hwa:=hpos hq
  refine ⟨orN a b,by unfold orN; rw [List.length_map,List.length_range]; exact hla,?_,foldN_step hs [a,b] (by rw [hks]; rfl) (by rw [hks]; exact kid_2 hfa hfb) (p_union hk rfl rfl (n_union fl p a b (by omega) (by omega)))⟩
  rw [evP_2 hks,opT,if_neg (by omega),if_neg (by omega),if_neg (by omega),if_neg (by omega),if_pos hk]
  exact nl_tab _ (nl_union (by omega) hoa hob)
 | @distinct p q w hk hks hq ih=>
  intro hs
  obtain ⟨a,hla,hoa,hfa⟩:=ih (psz_kid (by rw [hks]; exact List.mem_cons_self ..) hs)
  have hq2:=(evalPlan_ok hd hq).1
  refine ⟨a,hla,?_,foldN_step hs [a] (by rw [hks]; rfl) (by rw [hks]; exact kid_1 hfa) (p_distinct hk rfl (n_distinct fl p a))⟩
  rw [evP_1 hks,opT,if_neg (by omega),if_neg (by omega),if_neg (by omega),if_neg (by omega),if_neg (by omega),if_pos hk]
  exact nl_sub (fun x hx=>(dst_ascS hq2.row hq2.asc).2 x |>.1 hx) hoa
 | @group p q w hk hks hq hc hl ih=>
  intro hs
  obtain ⟨a,hla,hoa,hfa⟩:=ih (psz_kid (by rw [hks]; exact List.mem_cons_self ..) hs)
  have hq2:=(evalPlan_ok hd hq).1
  have hw6:=hpos hq
  refine ⟨grpN p.cs a,by unfold grpN; rw [List.length_append,List.length_map]; rfl,?_,foldN_step hs [a] (by rw [hks]; rfl) (by rw [hks]; exact kid_1 hfa) (p_group hk rfl (n_group fl p hla (by omega) (by omega) hc))⟩
  rw [evP_1 hks,opT,if_neg (by omega),if_neg (by omega),if_neg (by omega),if_neg (by omega),if_neg (by omega),if_neg (by omega)]
  exact nl_tab _ (nl_group hoa hq2.row hla hc)
/-! The whole function. -/
theorem haveFlags1_ok (a : List Bool) (w : Int) : Does Tryz.prog 86 [] [boolsD a,I w] (Bo ((a.length : Int) == w)) []:=by
 exact Bg c_Z98 mixed (go0 trivial)
theorem equalF_ok {fl : List (List Bool)} {ws : List Int} (hl : fl.length = ws.length) (hs : fl.length ≤ 1000) (h : ∀ (j : Nat) (a : List Bool) (w : Int),fl[j]? = some a → ws[j]? = some w → (a.length : Int) = w) : Does Tryz.prog 85 [] [flD fl,intsD ws,.fn 86 []] (Bo true) []:=by
 have e0 : ((fl.length : Int) != (ws.length : Int)) = false:=by rw [bne_eq_false_iff_eq]; omega
 refine Bg c_Z19 mixed (go1 @e0 ?_)
 refine dw_for (c:=0) (l:=fun i=>[(1,intsD ws),(2,.fn 86 []),(15,flD fl),(16,I fl.length),(17,I i)]) fl.length (fun _=>True) 0 trivial (Wk.list [] rfl rfl ?_) (fun i hi _=>?_) (Nat.zero_le _)
 ·repeat' (first|(conv in hold _=>simp (disch:=omega) only [go_sem])|exact trivial|exact Sub.refl _|omega)
  (repeat' apply And.intro) <;> rfl
 ·rcases at_or_end hi with ⟨a,ha,hlt⟩ | rfl
  ·obtain ⟨w,hw⟩ : ∃ w,ws[i]? = some w:=⟨_,List.getElem?_eq_getElem (by omega)⟩
   have hc:=haveFlags1_ok a w
   rw [beq_iff_eq.2 (h i a w ha hw)] at hc
   refine go1 (cj2 @ha @hw) ?_
   refine v_fn ((by kernel_rfl)) ?_
   refine Uc trivial (hc) (go1 trivial ?_)
   refine ⟨hlt,trivial,Wk.list [] rfl rfl ?_⟩
   repeat' (first|(conv in hold _=>simp (disch:=omega) only [go_sem])|exact trivial|exact Sub.refl _|omega)
  ·exact go0 trivial
theorem cloneB_ok (a : List Bool) (h0 : 0 < a.length) (hl : a.length ≤ 1000) : Does Tryz.prog 40 [] [boolsD a] (boolsD a) []:=by
 have ht:=take_all Bo a
 refine Bg c_Z30 mixed (go1F trivial ?_)
 refine fin_wk (wk_frz 2 2000007 (by decide) (by decide) rfl ?_) ?_
 rotate_left
 (conv in hold _=>simp (disch:=omega) only [go_sem,ht,List.length_map,Nat.le_refl])
 ·refine fin_L [] ?_ ?_ rfl ?_
  repeat' (first|(conv in hold _=>simp (disch:=omega) only [go_sem])|exact trivial|exact Sub.refl _|omega)
 ·exact bools_pur _
theorem NullableColumns_fit {db : List Ta} {p : Pl} (hf : fitB db p) (hs : psz p ≤ 1048576) (hl : db.length ≤ 1000) {fl : List (List Bool)} (hfl : ∀ (j : Nat) (t : Ta) (w : Nat),db[j]? = some t → (dbWs db)[j]? = some w → ∃ l,fl[j]? = some l ∧ l.length = w ∧ NlOk t.rows l) (hll : fl.length = db.length)
  (ho : ∀ (e : E) (ss : List Int) (d : Nat),ssIn ss → eOk e ss.length d → Does Tryz.prog 248 [] [eD e,intsD ss] (I (oc e ss)) []) : ∃ l : List Bool,PV (natI (dbWs db)) p = (l.length : Int) ∧ NlOk (evP db p).rows l ∧ Does Tryz.prog 15 [] [pD p,intsD (natI (dbWs db)),flD fl] (boolsD l) []:=by
 obtain ⟨n,hn,hwt,hd,hT⟩:=fit_wt hf
 have hn6:=hwt.pos hd.wid
 obtain ⟨l,hlw,hok,hfo⟩:=nl_ok hd hfl ho hwt hs
 have hnl : (natI (dbWs db)).length = db.length:=by unfold natI dbWs; rw [List.length_map,List.length_map]
 obtain ⟨_,_,h2⟩:=PlanWidth_fn p hs (natI (dbWs db)) (by omega)
 have heq:=equalF_ok (fl:=fl) (ws:=natI (dbWs db)) (by omega) (by omega) (fun j a w ha hw=>by
  obtain ⟨m,hm,rfl⟩:=natI_at hw
  obtain ⟨t,ht⟩ : ∃ t,db[j]? = some t:=⟨_,List.getElem?_eq_getElem (by have:=(List.getElem?_eq_some_iff.1 ha).1; omega)⟩
  obtain ⟨l',h1,h3,_⟩:=hfl j t m ht hm
  rw [ha] at h1
  cases h1
  omega)
 have hhf : Does Tryz.prog 39 [] [flD fl,intsD (natI (dbWs db))] (Bo true) []:=by
  refine Bg c_Z137 mixed (go1 trivial ?_)
  exact Uc trivial (heq) (go0 trivial)
 have hde : Does Tryz.prog 41 [] [pD p,nlV fl] (boolsD l) []:=by
  refine Bg c_Z22 mixed (go1 trivial ?_)
  exact UcR [2000003] trivial (hfo) (go0 trivial)
 have hcl:=cloneB_ok l (by omega) (by omega)
 refine ⟨l,by rw [hn,hlw],hok,?_⟩
 rw [hn] at h2
 generalize natI (dbWs db) = ws at *
 have e0 : ((n : Int) == 0) = false:=beq_eq_false_iff_ne.2 (by omega)
 refine Bg c_Z50 mixed (go1 trivial ?_)
 refine Uc @e0 (h2) (go1 @e0 ?_)
 refine Uc @e0 (hhf) (go1 @e0 ?_)
 refine Uc trivial (hde) (go1 trivial ?_)
 exact Uc trivial (hcl) (go0 trivial)
end Go.Proofs.YtefldihjbaodnaaGreat

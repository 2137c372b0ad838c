/-
  What the parts of a plan make of rows; the model's tables. No condition.
-/
import Derived.Test.YtjngffbghkafaaaGreatKSDca
import Derived.Test.YtjngffbghkafaaaGreatKSDcc
import Derived.Test.YtjngffbghkafaaaGreatJSVWidB
import Derived.Test.YtjngffbghkafaaaGreatJSVGi
import Derived.Test.YtjngffbghkafaaaGreatJSVGo
import Derived.Test.YtjngffbghkafaaaGreatKSVEvS
import Derived.Test.YtjngffbghkafaaaGreatJSDcVWidD
import Derived.Test.YtjngffbghkafaaaGreatJSVRwA
import Derived.Test.YtjngffbghkafaaaGreatJSDcWXPc
import Derived.Test.YtjngffbghkafaaaGreatJSDce
set_option maxHeartbeats 4000000
set_option maxRecDepth 100000
set_option linter.unusedVariables false
set_option linter.unusedSimpArgs false
namespace Go.Proofs.YtjngffbghkafaaaGreat
open Go.RowKit
theorem fil_next {α : Type} {p : α → Bool} {l : List α} {i : Nat} {x : α} (hx : l[i]? = some x) : (l.take (i + 1)).filter p = (l.take i).filter p ++ (if p x = true then [x] else []):=by
 rw [take_next hx,List.filter_append]
 congr 1
 cases h : p x <;> simp [List.filter,h]
theorem fil_t {α : Type} {p : α → Bool} {l : List α} {i : Nat} {x : α} (hx : l[i]? = some x) (h : p x = true) : (l.take (i + 1)).filter p = (l.take i).filter p ++ [x]:=by rw [fil_next hx,if_pos h]
theorem fil_f {α : Type} {p : α → Bool} {l : List α} {i : Nat} {x : α} (hx : l[i]? = some x) (h : p x = false) : (l.take (i + 1)).filter p = (l.take i).filter p:=by rw [fil_next hx,if_neg (by rw [h]; decide),List.append_nil]
theorem fir_len {α : Type} (p : α → Bool) (l : List α) (i : Nat) (hi : i ≤ l.length) : ((l.take i).filter p).length ≤ i:=Nat.le_trans (List.length_filter_le _ _) (by rw [List.length_take]; omega)
def tabT (w : Int) (rs : List (List V)) : Ta:=⟨w,if rs.length ≤ 400 then srt rs else []⟩
theorem tabT_s {w : Int} {rs : List (List V)} (h : rs.length ≤ 400) : tabT w rs = ⟨w,srt rs⟩:=by unfold tabT; rw [if_pos h]
theorem tabT_n {w : Int} {rs : List (List V)} (h : ¬ rs.length ≤ 400) : tabT w rs = ⟨w,[]⟩:=by unfold tabT; rw [if_neg h]
theorem tableOf_fz (w : Int) (k : Nat) (hk : k < 1000) (rs : List (List V)) (hl : rs.length ≤ 400) (hs : RsW k rs) : Does Tryz.prog 98 [] [I w,rowsD rs] (taD ⟨w,srt rs⟩) []:=by
 have hsl:=srt_len rs
 have htz : ((srt rs).map rowD).take rs.length = (srt rs).map rowD:=by rw [← hsl]; exact take_all rowD _
 have hres : taD ⟨w,srt rs⟩ = .agg [I w,rowsD (srt rs)]:=rfl
 rw [hres]
 refine Bg c_Z151 mixed (go1 trivial ?_)
 refine dw_for (c:=3) (l:=fun i=>[(0,I w),(1,rowsD rs),(4,.ref 1000000 0),(5,.ref 1000001 0),(6,I i),(1000000,.obj [I 0,.nul]),(1000001,.obj [I w,.own 1000002 1 i]),(1000002,.row 1 ((srt (rs.take i)).map rowD))]) rs.length (fun _=>True) 0 trivial ((wk_rowO 2000005 2000090 1 1 (by decide) (by decide) (by decide) rfl rfl rfl).trans (Wk.list [2000004,2000005,2000090] rfl rfl ?_)) (fun i hi _=>?_) (Nat.zero_le _)
 ·repeat' (first|(conv in hold _=>simp (disch:=omega) only [go_sem])|exact trivial|exact Sub.refl _|omega)
  exact ⟨rfl,rfl⟩
 ·have htl : (srt (rs.take i)).length = i:=by rw [srt_len]; exact take_len hi
  have htk : ((srt (rs.take i)).map rowD).take i = (srt (rs.take i)).map rowD:=List.take_of_length_le (by rw [List.length_map,htl]; exact Nat.le_refl _)
  rcases at_or_end hi with ⟨x,hx,hlt⟩ | rfl
  ·have hnx:=srt_next hx
   have hts : RsW k (srt (rs.take i)):=srt_rsw (hs.take i)
   have hin:=insertRow_own (srt (rs.take i)) x k hk (by omega) (fun r hr=>by
    rcases List.mem_cons.1 hr with rfl | hr
    ·exact hs r (List.mem_of_getElem? hx)
    ·exact hts r hr) (srt_asc (hs.take i))
   rw [← hnx] at hin
   have hnl : (srt (rs.take (i + 1))).length = i + 1:=by rw [srt_len]; exact take_len (by omega)
   rw [hnl] at hin
   refine go1C @hx ?_
   refine s_pre (pre_frz (t:=20) (g:=1000002) (by decide) (by decide) rfl ?_) ?_
   rotate_left
   refine go1 (cj3 @htl @htk @hx) ?_
   refine c_doesR [3000001] (hin) (callOK_of rfl (Nat.le_of_ble_eq_true rfl) rfl ?_ ?_) ?_ ?_
   ·repeat' (first|(conv in hold _=>simp (disch:=omega) only [go_sem,List.getElem?_map,hx,Option.map_some])|exact trivial|exact Sub.refl _|omega)
   ·repeat' (first|(conv in hold _=>simp (disch:=omega) only [go_sem,List.getElem?_map,hx,Option.map_some])|exact trivial|exact Sub.refl _|omega)
   ·((conv=>rhs;simp (disch:=omega) only [go_sem,List.getElem?_map,hx,Option.map_some]); try rfl)
   repeat' (first|with_reducible refine acc_none ?_ | (conv in hold _=>simp (disch:=omega) only [go_sem,List.getElem?_map,hx,Option.map_some])|refine Stp.go ?_|(with_reducible first|refine it_pos rfl ?_|refine it_neg (by decide) ?_|refine st_nil rfl ?_|refine s_op ?_ ?_|exact trivial)|((with_reducible first|refine dw_reg0 ?_|refine dw_regB ?_);(conv=>arg 3;whnf))|(refine Spl.go (fun hq he=>?_) (fun hq he=>?_)<;>first|(exfalso;clear hq;omega)|((try first|(conv=>arg 8;simp only [hq])|(conv=>arg 4;simp only [hq]));clear hq))|((with_reducible first|refine c_split (fun hq=>?_) (fun hq=>?_)|refine q_split (fun hq=>?_) (fun hq=>?_))<;>(try first|(conv=>arg 8;simp only [hq])|(conv=>arg 4;simp only [hq])))|(with_reducible refine fin_0 ?_ (by first|rfl|(conv=>lhs;simp only [go_sem,List.getElem?_map,hx,Option.map_some])) ?_)|exact Sub.refl _|omega)
   ·refine ⟨hlt,trivial,Wk.list [1000000,1000001,3000001] rfl rfl ?_⟩
    repeat' (first|(conv in hold _=>simp (disch:=omega) only [go_sem])|exact trivial|exact Sub.refl _|omega)
   ·exact rows_pur _
  ·have e1 : rs.take rs.length = rs:=List.take_length
   rw [e1]
   refine go1F trivial ?_
   refine fin_wk (wk_frzO 1000000 1000002 (by decide) (by decide) rfl (by decide) rfl ?_) ?_
   rotate_left
   (conv in hold _=>simp (disch:=omega) only [go_sem,htz,hsl,List.length_map,Nat.le_refl])
   ·refine fin_L [] ?_ ?_ rfl ?_
    repeat' (first|(conv in hold _=>simp (disch:=omega) only [go_sem])|exact trivial|exact Sub.refl _|omega)
   ·exact rows_pur _
theorem tableOf_tab (w : Int) (k : Nat) (hk : k < 1000) (rs : List (List V)) (hl2 : rs.length < 2000000) (hs : RsW k rs) : Does Tryz.prog 98 [] [I w,rowsD rs] (taD (tabT w rs)) []:=by
 by_cases hl : rs.length ≤ 400
 ·rw [tabT_s hl]
  exact tableOf_fz w k hk rs hl hs
 ·rw [tabT_n hl]
  refine Bg c_Z151 mixed (go1 trivial ?_)
  exact Sub.agg ⟨Sub.refl _,Sub.nul 1,trivial⟩
-- rows
def nulR (n : Nat) : List V:=List.replicate n ⟨true,0⟩
def holdsB (e : E) (r : List V) : Bool:=tr (ev e r) == 1
theorem holds_ok {row : List V} (hr : ∀ v,v ∈ row → v.ok) (e : E) (d : Nat) (h : eOk e row.length d) : Does Tryz.prog 161 [] [eD e,rowD row] (Bo (holdsB e row)) []:=by
 have h1:=evalExpr_ok hr e d h
 have h2:=truth_ok (ev e row)
 unfold holdsB
 refine Bg c_Z167 mixed (go1 trivial ?_)
 refine Uc trivial (h1) (go1 trivial ?_)
 exact Uc trivial (h2) (go0 trivial)
theorem filterTable_ok {w : Nat} (hw : w < 1000) (rs : List (List V)) (hl : rs.length < 1000000) (hs : RsW w rs) (e : E) (d : Nat) (he : eOk e w d) : Does Tryz.prog 99 [] [taD ⟨w,rs⟩,eD e] (taD (tabT w (rs.filter (holdsB e)))) []:=by
 have hsub : (rs.filter (holdsB e)).Sublist rs:=List.filter_sublist
 have h3:=tableOf_tab w w hw (rs.filter (holdsB e)) (by have:=hsub.length_le; omega) (rsw_sub hsub hs)
 have hfin : (rs.take rs.length).filter (holdsB e) = rs.filter (holdsB e):=by rw [List.take_length]
 have htk : ((rs.filter (holdsB e)).map rowD).take (rs.filter (holdsB e)).length = (rs.filter (holdsB e)).map rowD:=take_all rowD _
 refine Bg c_Z79 mixed (go1 trivial ?_)
 refine dw_for (c:=4) (l:=fun i=>[(2,.ref 1000000 0),(3,.ref 1000001 0),(4,.ref 1000002 0),(5,.own 1000003 1 ((rs.take i).filter (holdsB e)).length),(6,I i),(1000000,.obj [I w,rowsD rs]),(1000001,.obj [I e.k,I e.c,Bo e.v.b,I e.v.n,.sl 5 (e.ks.map eD)]),(1000002,.obj [I 0,.nul]),(1000003,.row 1 (((rs.take i).filter (holdsB e)).map rowD))]) rs.length (fun _=>True) 0 trivial ((wk_row 5 2000090 1 (by decide) (by decide) rfl rfl).trans (Wk.list [2000002,2000003,2000004,2000090] rfl rfl ?_)) (fun i hi _=>?_) (Nat.zero_le _)
 ·repeat' (first|(conv in hold _=>simp (disch:=omega) only [go_sem])|exact trivial|exact Sub.refl _|omega)
  first | exact rfl | exact ⟨rfl,rfl⟩ | exact ⟨rfl,rfl,rfl⟩
 ·have hfi:=fir_len (holdsB e) rs i hi
  have htm : (((rs.take i).filter (holdsB e)).map rowD).take ((rs.take i).filter (holdsB e)).length = ((rs.take i).filter (holdsB e)).map rowD:=take_all rowD _
  rcases at_or_end hi with ⟨x,hx,hlt⟩ | rfl
  ·have hxr:=hs x (List.mem_of_getElem? hx)
   have h1:=holds_ok hxr.2 e d (by rw [hxr.1]; exact he)
   cases hq : holdsB e x with
   | true=>
    rw [hq] at h1
    have e1:=fil_t hx hq
    refine go1 @hx ?_
    refine Uc (cj2 @hx @htm) (h1) (go1 (cj2 @hx @htm) ?_)
    refine ⟨hlt,trivial,Wk.list [1000000,1000001,1000002,2000029] rfl rfl ?_⟩
    repeat' (first|(conv in hold _=>simp (disch:=omega) only [go_sem,e1,htm])|exact trivial|exact Sub.refl _|omega)
    rw [List.map_append]
    rfl
   | false=>
    rw [hq] at h1
    have e1:=fil_f hx hq
    refine go1 @hx ?_
    refine Uc @hx (h1) (go1 @hx ?_)
    refine ⟨hlt,trivial,Wk.list [1000000,1000001,1000002,1000003] rfl rfl ?_⟩
    repeat' (first|(conv in hold _=>simp (disch:=omega) only [go_sem,e1])|exact trivial|exact Sub.refl _|omega)
  ·rw [hfin]
   refine go1C trivial ?_
   refine s_pre (pre_frz (t:=32) (g:=1000003) (by decide) (by decide) rfl ?_) ?_
   rotate_left
   refine go1 @htk ?_
   refine c_doesE (h3) ?_ ?_ ?_
   ·((try (conv=>rhs;simp (disch:=omega) only [go_sem])); try rfl)
   ·first|rfl|(conv=>lhs;simp only [go_sem])
   repeat' (first|with_reducible refine acc_none ?_ | (conv in hold _=>simp (disch:=omega) only [go_sem])|refine Stp.go ?_|(with_reducible first|refine it_pos rfl ?_|refine it_neg (by decide) ?_|refine st_nil rfl ?_|refine s_op ?_ ?_|exact trivial)|((with_reducible first|refine dw_reg0 ?_|refine dw_regB ?_);(conv=>arg 3;whnf))|(refine Spl.go (fun hq he=>?_) (fun hq he=>?_)<;>first|(exfalso;clear hq;omega)|((try first|(conv=>arg 8;simp only [hq])|(conv=>arg 4;simp only [hq]));clear hq))|((with_reducible first|refine c_split (fun hq=>?_) (fun hq=>?_)|refine q_split (fun hq=>?_) (fun hq=>?_))<;>(try first|(conv=>arg 8;simp only [hq])|(conv=>arg 4;simp only [hq])))|(with_reducible refine fin_0 ?_ (by first|rfl|(conv=>lhs;simp only [go_sem])) ?_)|exact Sub.refl _|omega)
   ·exact rows_pur _
end Go.Proofs.YtjngffbghkafaaaGreat
set_option maxHeartbeats 4000000
set_option maxRecDepth 100000
namespace Go.Proofs.YtjngffbghkafaaaGreat
open Go.RowKit
def zeroIn (ns : List Int) : Prop:=∃ j : Nat,ns[j]? = some (0 : Int)
noncomputable instance zeroDec (ns : List Int) : Decidable (zeroIn ns):=Classical.propDecidable _
noncomputable instance resDec (p : Pl) (ns : List Int) : Decidable (fieldsI p ∧ fitsV p ns):=Classical.propDecidable _
noncomputable def resV (p : Pl) (ns : List Int) : Int:=if zeroIn ns then 0 else if fieldsI p ∧ fitsV p ns then fromV p ns else 0
theorem resV_z {p : Pl} {ns : List Int} (h : zeroIn ns) : resV p ns = 0:=if_pos h
theorem resV_t {p : Pl} {ns : List Int} (h : ¬ zeroIn ns) (h1 : fieldsI p) (h2 : fitsV p ns) : resV p ns = fromV p ns:=by unfold resV; rw [if_neg h,if_pos ⟨h1,h2⟩]
theorem resV_f {p : Pl} {ns : List Int} (h2 : ¬ (fieldsI p ∧ fitsV p ns)) : resV p ns = 0:=by
 unfold resV
 by_cases hz : zeroIn ns
 ·rw [if_pos hz]
 ·rw [if_neg hz,if_neg h2]
theorem widthWithin_main (p : Pl) (ws : List Int) (d : Nat) (hd : d < 1000) (hf : fieldsI p) (hk : ¬ p.k = 1) (hc : p.cs.length ≤ 1048576) (he : p.es.length ≤ 1048576) (ns : List Int) (hl : ns.length = p.ks.length) (hn : ∀ (j : Nat) (x : Int),ns[j]? = some x → 0 ≤ x ∧ x ≤ 6)
  (hB : ∀ (i : Nat) (x : Pl) (n : Int),p.ks[i]? = some x → ns[i]? = some n → Does Tryz.prog 82 [] [pD x,intsD ws,I ((d : Int) - 1)] (I n) []) : Does Tryz.prog 82 [] [pD p,intsD ws,I d] (I (resV p ns)) []:=by
 have ho:=hasOwnFields_ok p
 rw [decide_eq_true hf] at ho
 have hf1:=hf.1
 have hks : 1 ≤ p.ks.length ∧ p.ks.length ≤ 2:=by unfold fields at hf1; omega
 have hk6 : p.k = 6 → 1 < ns.length:=by unfold fields at hf1; omega
 have hfit:=fitsKids_ok p ns (by omega) hc he hn (by omega) hk6
 have hfrom:=widthFrom_ok p ns (by omega) hc hn (by omega)
 refine Bg c_Z77 mixed (go1 trivial ?_)
 refine Uc trivial (ho) (go1 trivial ?_)
 refine dw_for (c:=2) (l:=fun i=>[(1,intsD ws),(2,I d),(3,.ref 1000000 0),(7,.own 1000001 1 i),(37,.sl 5 (p.ks.map pD)),(38,I p.ks.length),(39,I i),(1000000,.obj [I p.k,I p.t,.sl 5 (p.es.map eD),intsD p.cs,.sl 5 (p.ks.map pD)]),(1000001,.row 1 ((ns.take i).map I))]) p.ks.length (fun i=>∀ (j : Nat) (n : Int),j < i → ns[j]? = some n → ¬ n = 0) 0 (fun j n hj=>by omega) ((wk_row 7 2000053 1 (by decide) (by decide) rfl rfl).trans (Wk.list [2000003,2000053] rfl rfl ?_)) (fun i hi hJ=>?_) (Nat.zero_le _)
 ·repeat' (first|(conv in hold _=>simp (disch:=omega) only [go_sem])|exact trivial|exact Sub.refl _|omega)
  exact rfl
 ·have hlt:=take_len (vs:=ns) (i:=i) (by omega)
  have hmt:=take_map I (vs:=ns) (i:=i) (by omega)
  by_cases hil : i < p.ks.length
  ·obtain ⟨x,hx⟩ : ∃ x,p.ks[i]? = some x:=⟨_,List.getElem?_eq_getElem hil⟩
   obtain ⟨n,hnx,_⟩:=get_ex (ns:=ns) (i:=i) (by omega)
   have hix:=hB i x n hx hnx
   have htn:=take_next hnx
   by_cases hn0 : n = 0
   ·rw [resV_z ⟨i,by rw [hnx,hn0]⟩]
    refine go1 @hx ?_
    exact Uc trivial (hix) (go0 trivial)
   ·refine go1 @hx ?_
    refine Uc trivial (hix) (go1 trivial ?_)
    refine ⟨hil,upto1 (P:=fun _ n=>¬ n = 0) hnx hn0 hJ,Wk.list [1000000,2000053] rfl rfl ?_⟩
    repeat' (first|(conv in hold _=>simp (disch:=omega) only [go_sem])|exact trivial|exact Sub.refl _|omega)
    rw [hmt,htn,List.map_append,List.map_cons,List.map_nil]
  ·obtain rfl : i = p.ks.length:=by omega
   have hz : ¬ zeroIn ns:=fun ⟨j,hj⟩=>hJ j 0 (by rw [← hl]; exact (List.getElem?_eq_some_iff.1 hj).1) hj rfl
   have e1 : ns.take p.ks.length = ns:=List.take_of_length_le (by omega)
   have e2 : (ns.map I).take p.ks.length = ns.map I:=List.take_of_length_le (by rw [List.length_map]; omega)
   by_cases hv : fitsV p ns
   ·rw [decide_eq_true hv] at hfit
    rw [resV_t hz hf hv]
    refine go1C @e1 ?_
    refine s_pre (pre_frz2 (t:=56) (u:=7) (g:=1000001) (by decide) (by decide) (by decide) rfl ?_) ?_
    rotate_left
    refine go1 (cj3 @e1 @e2 @hl) ?_
    ·refine Uc trivial (hfit) (go1 trivial ?_)
     exact Uc trivial (hfrom) (go0 trivial)
    ·exact ints_pur _
   ·rw [decide_eq_false hv] at hfit
    rw [resV_f (fun h=>hv h.2)]
    refine go1C @e1 ?_
    refine s_pre (pre_frz2 (t:=56) (u:=7) (g:=1000001) (by decide) (by decide) (by decide) rfl ?_) ?_
    rotate_left
    refine go1 (cj3 @e1 @e2 @hl) ?_
    ·exact Uc trivial (hfit) (go0 trivial)
    ·exact ints_pur _
end Go.Proofs.YtjngffbghkafaaaGreat
set_option maxHeartbeats 4000000
set_option maxRecDepth 100000
set_option linter.unusedVariables false
set_option linter.unusedSimpArgs false
namespace Go.Proofs.YtjngffbghkafaaaGreat
open Go.RowKit
theorem rsz_le {k : Nat} : ∀ l : List (List V),(∀ r,r ∈ l → r.length ≤ k) → rsz l ≤ l.length * (k + 1)
 | [],_=>Nat.zero_le _
 | a :: l,h=>by
  have h1:=h a (List.mem_cons_self ..)
  have h2:=rsz_le l (fun r hr=>h r (List.mem_cons_of_mem _ hr))
  rw [rsz,List.length_cons,Nat.add_mul]
  omega
structure NearT (w m : Nat) (t : Ta) : Prop where
 len : t.rows.length ≤ m + 1
 row : ∀ r,r ∈ t.rows → r.length ≤ w + 7
theorem NearT.sz {w m : Nat} {t : Ta} (h : NearT w m t) (hw : w ≤ 100) (hm : m ≤ 100) : rsz t.rows ≤ 20000:=by
 have h1:=rsz_le t.rows h.row
 have h2:=h.len
 have h3 : t.rows.length * (w + 7 + 1) ≤ 101 * 108:=Nat.mul_le_mul (by omega) (by omega)
 omega
end Go.Proofs.YtjngffbghkafaaaGreat

/-
  The law that columns that are not nullable have no nulls. No condition.
-/
import Derived.Test.YtefldihjbaodnaaGreatJSDcWNlP
import Derived.Test.YtefldihjbaodnaaGreatKSDca
import Derived.Test.YtefldihjbaodnaaGreatJSVNlS
import Derived.Test.YtefldihjbaodnaaGreatJSVTru
import Derived.Test.YtefldihjbaodnaaGreatJSVOutA
import Derived.Test.YtefldihjbaodnaaGreatJSVEvS
import Derived.Test.YtefldihjbaodnaaGreatJSVLaw
import Derived.Test.YtefldihjbaodnaaGreatJSVPiP
import Derived.Test.YtefldihjbaodnaaGreatKSVNlC
import Derived.Test.YtefldihjbaodnaaGreatJSVPiD
import Derived.Test.YtefldihjbaodnaaGreatJSVGo
set_option maxHeartbeats 4000000
set_option maxRecDepth 100000
set_option linter.unusedVariables false
set_option linter.unusedSimpArgs false
namespace Go.Proofs.YtefldihjbaodnaaGreat
open Go.RowKit
def nuA (rs : List (List V)) (c : Nat) : Bool:=rs.any (fun r=>(r.getD c ⟨false,0⟩).b)
def nullF (t : Ta) : List Bool:=(List.range t.w.toNat).map (nuA t.rows)
def flT (db : List Ta) : List (List Bool):=db.map nullF
theorem nuA_next {rs : List (List V)} {k : Nat} {r : List V} {c : Nat} {v : V} (hr : rs[k]? = some r) (hv : r[c]? = some v) : nuA (rs.take (k + 1)) c = (nuA (rs.take k) c || v.b):=by
 unfold nuA
 rw [take_next hr,List.any_append,List.any_cons,List.any_nil,Bool.or_false,List.getD_eq_getElem?_getD,hv]
 rfl
theorem nullF_len (t : Ta) : (nullF t).length = t.w.toNat:=by unfold nullF; rw [List.length_map,List.length_range]
theorem nullF_at {t : Ta} {c : Nat} (h : c < t.w.toNat) : (nullF t)[c]? = some (nuA t.rows c):=by
 unfold nullF
 rw [List.getElem?_map,List.getElem?_range h]
 rfl
theorem nullF_ok {t : Ta} {w : Nat} (hw : t.w.toNat = w) (hr : RsW w t.rows) : NlOk t.rows (nullF t):=fun r hm i v hi hb=>by
 have hil:=(List.getElem?_eq_some_iff.1 hi).1
 have hrl:=(hr r hm).1
 rw [nullF_at (by omega)]
 refine congrArg some (List.any_eq_true.2 ⟨r,hm,?_⟩)
 rw [List.getD_eq_getElem?_getD,hi]
 exact hb
theorem does_FnNullableColumns (bs : List Nat) (hb : ∀ b,b ∈ bs → b < 256) : Does Tryz.prog 4 [] [bytesD bs] (Bo true) []:=by
 by_cases hlen : bs.length ≤ 1048576
 ·obtain ⟨x,db,hd,hz,hdl,hsm,hrb⟩:=DrawEvalPlan_ok bs hb
  obtain ⟨h1,h2⟩:=EvalPlan_fn x (by omega) db (by omega) hsm.sz
  have h3:=equalTables_same (EP db x) (EP_small db x)
  by_cases hf : fitB db x
  ·obtain ⟨n,hn,hwt,hdw,hT⟩:=fit_wt hf
   have hn6:=hwt.pos hdw.wid
   have hfl : (flT db).length = db.length:=List.length_map _
   have kw:=widthsOf_m (db:=db) (by omega) hf.1
   obtain ⟨l,hln,hlo,kn⟩:=NullableColumns_fit hf (by omega) (by omega) (fl:=flT db) (fun j t w ht hw=>by
    obtain ⟨m,hm,hm6,hr,_,_⟩:=tOk_nat (hf.1 t (List.mem_of_getElem? ht))
    have hwe : t.w.toNat = w:=by
     unfold dbWs at hw
     rw [List.getElem?_map,ht] at hw
     simpa using hw
    have htm : t.w.toNat = m:=by rw [hm]; rfl
    refine ⟨nullF t,by unfold flT; rw [List.getElem?_map,ht]; rfl,by rw [nullF_len,hwe],nullF_ok htm hr⟩) hfl (fun e ss d hs he=>(oc_impl hs (by kernel_rfl) (by kernel_rfl) e d he).2)
   rw [hn] at hln
   rw [EO_t hf] at h1 h2
   rw [EP_t hf] at h1 h2 h3
   have hte:=hT.eta
   have hrow:=hT.row
   have hfew:=hT.few
   generalize (evP db x).rows = rs at hte hlo hrow hfew
   rw [hte] at h1 h2 h3
   have hne : ((l.length : Int) != (n : Int)) = false:=by rw [bne_eq_false_iff_eq]; omega
   have htkf : ((flT db).map boolsD).take db.length = (flT db).map boolsD:=by rw [← hfl]; exact take_all boolsD _
   have hfa : ∀ (i : Nat) (t : Ta),db[i]? = some t → (flT db)[i]? = some (nullF t):=fun i t h=>by unfold flT; rw [List.getElem?_map,h]; rfl
   generalize flT db = F at *
   refine Bg c_Z42 mixed (go1 @bytesD.eq_1 ?_)
   refine Uc @bytesD.eq_1 (hd) (go1 @bytesD.eq_1 ?_)
   refine Uc @bytesD.eq_1 (h1) (go1 @bytesD.eq_1 ?_)
   refine Uc @bytesD.eq_1 (h2) (go1 @bytesD.eq_1 ?_)
   refine Uc @bytesD.eq_1 (h3) (go1 @bytesD.eq_1 ?_)
   refine dw_for (c:=3) (l:=fun i=>[(3,.ref 1000000 0),(4,tasD db),(5,.ref 1000001 0),(9,.own 1000002 1 i),(10,I i),(1000000,.obj [I x.k,I x.t,.sl 5 (x.es.map eD),intsD x.cs,.sl 5 (x.ks.map pD)]),(1000001,.obj [I n,rowsD rs]),(1000002,.row 1 ((F.take i).map boolsD))]) db.length (fun _=>True) 0 trivial ((wk_row 9 2000090 1 (by decide) (by decide) rfl rfl).trans (Wk.list [2000003,2000005,2000090] rfl rfl ?_)) (fun i hi _=>?_) (Nat.zero_le _)
   ·repeat' (first|(conv in hold _=>simp (disch:=omega) only [go_sem,bytesD,List.length_map,beq_self_eq_true,bne_self_eq_false])|exact trivial|exact Sub.refl _|omega)
    (repeat' apply And.intro) <;> rfl
   ·have htm : ((F.take i).map boolsD).take i = (F.take i).map boolsD:=take_map boolsD (by omega)
    have htl : (F.take i).length = i:=take_len (by omega)
    rcases at_or_end hi with ⟨t,ht,hlt⟩ | rfl
    ·have hnxF:=take_next (hfa i t ht)
     obtain ⟨m,hm,hm6,hrT,_,hlT⟩:=tOk_nat (hf.1 t (List.mem_of_getElem? ht))
     have hmw : t.w.toNat = m:=by rw [hm]; rfl
     have hnl:=nullF_len t
     have hna:=fun (c : Nat) (h : c < t.w.toNat)=>nullF_at h
     have htkn : ((nullF t).map Bo).take m = (nullF t).map Bo:=List.take_of_length_le (by rw [List.length_map]; omega)
     generalize nullF t = N at *
     refine go1 @bytesD.eq_1 ?_
     refine dw_for (c:=4) (l:=fun c=>[(3,.ref 1000000 0),(4,tasD db),(5,.ref 1000001 0),(9,.own 1000002 1 i),(10,I i),(11,.own 1000003 1 c),(12,I c),(1000000,.obj [I x.k,I x.t,.sl 5 (x.es.map eD),intsD x.cs,.sl 5 (x.ks.map pD)]),(1000001,.obj [I n,rowsD rs]),(1000002,.row 1 ((F.take i).map boolsD)),(1000003,.row 1 ((N.take c).map Bo))]) m (fun _=>True) 0 trivial ((wk_row 11 2000091 1 (by decide) (by decide) rfl rfl).trans (Wk.list [1000000,1000001,1000002,2000091] rfl rfl ?_)) (fun c hc _=>?_) (Nat.zero_le _)
     ·repeat' (first|(conv in hold _=>simp (disch:=omega) only [go_sem,bytesD,List.length_map,beq_self_eq_true,bne_self_eq_false])|exact trivial|exact Sub.refl _|omega)
      (repeat' apply And.intro) <;> rfl
     ·have htmc : ((N.take c).map Bo).take c = (N.take c).map Bo:=take_map Bo (by omega)
      have htlc : (N.take c).length = c:=take_len (by omega)
      by_cases hcm : c < m
      ·have hnxN:=take_next (hna c (by omega))
       refine go1 (cj3 @bytesD.eq_1 @ht @hm) ?_
       refine dw_for (c:=4) (l:=fun k=>[(3,.ref 1000000 0),(4,tasD db),(5,.ref 1000001 0),(9,.own 1000002 1 i),(10,I i),(11,.own 1000003 1 c),(12,I c),(13,Bo (nuA (t.rows.take k) c)),(14,I k),(1000000,.obj [I x.k,I x.t,.sl 5 (x.es.map eD),intsD x.cs,.sl 5 (x.ks.map pD)]),(1000001,.obj [I n,rowsD rs]),(1000002,.row 1 ((F.take i).map boolsD)),(1000003,.row 1 ((N.take c).map Bo))]) t.rows.length (fun _=>True) 0 trivial (Wk.list [1000000,1000001,1000002,1000003] rfl rfl ?_) (fun k hk _=>?_) (Nat.zero_le _)
       ·repeat' (first|(conv in hold _=>simp (disch:=omega) only [go_sem,bytesD,List.length_map,beq_self_eq_true,bne_self_eq_false])|exact trivial|exact Sub.refl _|omega)
        (repeat' apply And.intro) <;> rfl
       ·rcases at_or_end hk with ⟨r,hr,hkl⟩ | rfl
        ·have hrl:=(hrT r (List.mem_of_getElem? hr)).1
         obtain ⟨v,hv⟩ : ∃ v,r[c]? = some v:=⟨_,List.getElem?_eq_getElem (by have:=(hrT r (List.mem_of_getElem? hr)).1; omega)⟩
         have hnx:=nuA_next hr hv
         generalize nuA (t.rows.take k) c = b at *
         cases b with
         | true=>
          have hnx : nuA (t.rows.take (k + 1)) c = true:=hnx
          refine go1 (cj4 @bytesD.eq_1 @ht @hr @hv) ?_
          refine ⟨hkl,trivial,Wk.list [1000000,1000001,1000002,1000003] rfl rfl ?_⟩
          repeat' (first|(conv in hold _=>simp (disch:=omega) only [go_sem,bytesD,List.length_map,beq_self_eq_true,bne_self_eq_false,hnx])|exact trivial|exact Sub.refl _|omega)
         | false=>
          have hnx : nuA (t.rows.take (k + 1)) c = v.b:=hnx
          refine go1 (cj4 @bytesD.eq_1 @ht @hr @hv) ?_
          refine ⟨hkl,trivial,Wk.list [1000000,1000001,1000002,1000003] rfl rfl ?_⟩
          repeat' (first|(conv in hold _=>simp (disch:=omega) only [go_sem,bytesD,List.length_map,beq_self_eq_true,bne_self_eq_false,hnx])|exact trivial|exact Sub.refl _|omega)
        ·rw [List.take_length]
         refine go1 (cj3 @bytesD.eq_1 @ht @htmc) ?_
         refine ⟨hcm,trivial,Wk.list [1000000,1000001,1000002,2000104] rfl rfl ?_⟩
         repeat' (first|(conv in hold _=>simp (disch:=omega) only [go_sem,bytesD,List.length_map,beq_self_eq_true,bne_self_eq_false,hnxN,htmc,List.length_map,htlc])|exact trivial|exact Sub.refl _|omega)
         rw [List.map_append]
         rfl
      ·obtain rfl : c = m:=by omega
       have e1 : N.take c = N:=List.take_of_length_le (by omega)
       rw [e1]
       refine go1R (cj3 @bytesD.eq_1 @ht @hm) ?_
       (with_reducible first | refine dw_reg0 ?_ | refine dw_regB ?_)
       conv=>arg 3; whnf
       refine go1R (cj3 @bytesD.eq_1 @ht @hm) ?_
       (with_reducible first | refine dw_reg0 ?_ | refine dw_regB ?_)
       conv=>arg 3; whnf
       refine Stp.go ?_
       refine s_pre (pre_frz (t:=11) (g:=1000003) (by decide) (by decide) rfl ?_) ?_
       rotate_left
       refine go1 (cj5 @bytesD.eq_1 @htkn @hnl @hmw @htm) ?_
       ·refine ⟨hlt,trivial,Wk.list [1000000,1000001,2000108] rfl rfl ?_⟩
        repeat' (first|(conv in hold _=>simp (disch:=omega) only [go_sem,bytesD,List.length_map,beq_self_eq_true,bne_self_eq_false,hnxF,htm,List.length_map,htl])|exact trivial|exact Sub.refl _|omega)
        rw [List.map_append]
        rfl
       ·exact bools_pur _
    ·have e1 : F.take db.length = F:=List.take_of_length_le (by omega)
     rw [e1]
     refine go1 @bytesD.eq_1 ?_
     refine Uc @bytesD.eq_1 (kw) (go1C @bytesD.eq_1 ?_)
     refine s_pre (pre_frz (t:=112) (g:=1000002) (by decide) (by decide) rfl ?_) ?_
     rotate_left
     refine go1 (cj3 @bytesD.eq_1 @htkf @hfl) ?_
     ·refine Uc (cj2 @bytesD.eq_1 @hne) (kn) (go1 (cj2 @bytesD.eq_1 @hne) ?_)
      refine dw_for (c:=1) (l:=fun i=>[(5,.ref 1000000 0),(15,boolsD l),(16,I i),(1000000,.obj [I n,rowsD rs])]) rs.length (fun _=>True) 0 trivial (Wk.list [1000001] rfl rfl ?_) (fun i hi _=>?_) (Nat.zero_le _)
      ·repeat' (first|(conv in hold _=>simp (disch:=omega) only [go_sem,bytesD,List.length_map,beq_self_eq_true,bne_self_eq_false])|exact trivial|exact Sub.refl _|omega)
       (repeat' apply And.intro) <;> rfl
      ·rcases at_or_end hi with ⟨r,hr,hlt⟩ | rfl
       ·have hrl:=(hrow r (List.mem_of_getElem? hr)).1
        refine go1 @bytesD.eq_1 ?_
        refine dw_for (c:=1) (l:=fun c=>[(5,.ref 1000000 0),(15,boolsD l),(16,I i),(17,I c),(1000000,.obj [I n,rowsD rs])]) n (fun _=>True) 0 trivial (Wk.list [1000000] rfl rfl ?_) (fun c hc _=>?_) (Nat.zero_le _)
        ·repeat' (first|(conv in hold _=>simp (disch:=omega) only [go_sem,bytesD,List.length_map,beq_self_eq_true,bne_self_eq_false])|exact trivial|exact Sub.refl _|omega)
         (repeat' apply And.intro) <;> rfl
        ·by_cases hcn : c < n
         ·obtain ⟨v,hv⟩ : ∃ v,r[c]? = some v:=⟨_,List.getElem?_eq_getElem (by omega)⟩
          cases hvb : v.b with
          | true=>
           have hlc:=hlo r (List.mem_of_getElem? hr) c v hv hvb
           refine go1 (cj5 @bytesD.eq_1 @hr @hv @hvb @hlc) ?_
           refine ⟨hcn,trivial,Wk.list [1000000] rfl rfl ?_⟩
           repeat' (first|(conv in hold _=>simp (disch:=omega) only [go_sem,bytesD,List.length_map,beq_self_eq_true,bne_self_eq_false])|exact trivial|exact Sub.refl _|omega)
          | false=>
           refine go1 (cj4 @bytesD.eq_1 @hr @hv @hvb) ?_
           refine ⟨hcn,trivial,Wk.list [1000000] rfl rfl ?_⟩
           repeat' (first|(conv in hold _=>simp (disch:=omega) only [go_sem,bytesD,List.length_map,beq_self_eq_true,bne_self_eq_false])|exact trivial|exact Sub.refl _|omega)
         ·obtain rfl : c = n:=by omega
          refine go1 @bytesD.eq_1 ?_
          refine ⟨hlt,trivial,Wk.list [1000000] rfl rfl ?_⟩
          repeat' (first|(conv in hold _=>simp (disch:=omega) only [go_sem,bytesD,List.length_map,beq_self_eq_true,bne_self_eq_false])|exact trivial|exact Sub.refl _|omega)
       ·exact go0 @bytesD.eq_1
     ·exact fl_pur _
  ·rw [EO_f hf] at h1 h2
   refine Bg c_Z42 mixed (go1 @bytesD.eq_1 ?_)
   refine Uc @bytesD.eq_1 (hd) (go1 @bytesD.eq_1 ?_)
   refine Uc @bytesD.eq_1 (h1) (go1 @bytesD.eq_1 ?_)
   refine Uc @bytesD.eq_1 (h2) (go1 @bytesD.eq_1 ?_)
   refine Uc @bytesD.eq_1 (h3) (go1 @bytesD.eq_1 ?_)
   exact Uc @bytesD.eq_1 (h3) (go0 @bytesD.eq_1)
 ·exact Bg c_Z42 mixed (go0 @bytesD.eq_1)
theorem walk_FnNullableColumns (a : Option Addr) (len cap : Nat) (zs : List Int) (w : World) (h : IsRow .u8 w a len cap zs) :
  Calls Tryz.prog 4 #[.slice a len cap] w fun e W'=>e = .returned (.bool true) ∧ Below w.heap.size w W':=walk_of does_FnNullableColumns a len cap zs w h
end Go.Proofs.YtefldihjbaodnaaGreat
namespace Go.Proofs.YtefldihjbaodnaaGreat.fnNullableColumns
open Go.ChangeShapes Go.WideShapes Go.ChangeAt Go.RowKit Go.Joins
set_option linter.unusedVariables false
set_option maxHeartbeats 4000000
set_option maxRecDepth 100000 in
theorem lifted (os : Os) (started : os.Started) (H : Type) (enc : TypeId × Value → H) :
  ReturnsInHanded {} Tryz.checked os 4 .any (Rows.fnNullableColumnsSpec.pre6 enc Tryz.prog Tryz.f4 Rows.fnNullableColumnsRow.domain false) (Rows.fnNullableColumnsSpec.post enc Tryz.prog Tryz.f4 false true false false):=by
 refine returnsInHanded_of_change (C:=Tryz.checked) own started (by kernel_rfl) Tryz.func4
  (ChangeSpec.witness6 (enc:=enc) (C:=Tryz.checked) false ⟨#[],#[.slice none 0 0],[]⟩ 8 (by kernel_rfl) (by kernel_rfl) (by kernel_rfl) (by kernel_rfl)) ?_
 intro W base args ds gs before hval0 hW hcnd _
 have hval : ∀ (j : Nat) t v,Tryz.f4.params[j]? = some t → args[j]? = some v → Value.okWide Tryz.prog W .any base t v:=hval0
 have hW':=hW
 obtain ⟨p,q,hA0,hV,rfl,hfz,hnd⟩:=hW
 have hA : DataW.TrodAll enc Tryz.prog W 0 (fun _=>true) true Tryz.f4.params.toList args.toList ds p:=hA0
 rw [Tryz.params4] at hA hval
 obtain ⟨v0,vs0,d0,ds0,p0,q0,hargs,rfl,rfl,h0,r0⟩:=trodAll_cons hA
 obtain ⟨rfl,rfl,rfl⟩:=trodAll_nil r0
 obtain rfl : args = #[v0]:=by cases args; simp_all
 obtain ⟨rfl,rfl⟩:=trodVars_none hV
 have k0:=h0
 have lt0 : ∀ x ∈ p0,x.block < W.heap.size:=by obtain ⟨m,hm⟩:=k0; exact DataW.trod_lt m _ _ _ hm
 obtain ⟨a0,len0,cap0,z0,hv0,wr0⟩:=open_code (hval 0 22 v0 rfl rfl) h0
 subst hv0
 clear hA0 hval0
 refine (walk_FnNullableColumns a0 len0 cap0 z0 W wr0).mono fun e W' ⟨he,bel⟩=>?_
 subst he
 exact ⟨_,rfl,_,_,_,[],_,[],hW',trodAll_mk1 (shut_bool Tryz.underlying4 _),(trodAll_cons_mk (Below.trod laidOut (by kernel_rfl) (of_decide_eq_true (by kernel_rfl)) k0 bel lt0) trodAll_mk0),rfl,bel.frame _,fun h=>by cases h⟩
theorem closed : joinedFacts Tryz.prog 4 Tryz.f4 Rows.fnNullableColumnsSpec Rows.fnNullableColumnsRow = true:=by
 unfold joinedFacts
 exact Facts.and2 (Facts.and2 (Facts.and2 (Facts.and2 (Facts.and2 (Facts.and2 (Facts.and2 (Facts.and2 (Facts.and2 (Facts.and2 (Facts.and2 (Facts.and2 (Facts.and2 (Facts.and2 (Facts.and2 (Facts.and2 (Facts.and2 (Facts.and2 (Facts.and2 (Facts.and2 (Facts.and2 (Facts.and2 (Facts.and2 (Facts.and2 (Facts.and2 (Facts.and2 (Facts.and2 (Facts.and2 (Facts.and2 (Facts.and2 (Facts.and2 ((by as_aux_lemma=>kernel_rfl)) Facts.p2) Facts.p3) (by as_aux_lemma=>kernel_rfl)) (by as_aux_lemma=>kernel_rfl)) (by as_aux_lemma=>kernel_rfl)) Facts.p7) (by as_aux_lemma=>kernel_rfl)) Facts.p9) (by as_aux_lemma=>kernel_rfl)) (by as_aux_lemma=>kernel_rfl)) (by as_aux_lemma=>kernel_rfl)) (by as_aux_lemma=>kernel_rfl)) (by as_aux_lemma=>kernel_rfl)) (by as_aux_lemma=>kernel_rfl)) (by as_aux_lemma=>kernel_rfl)) (by as_aux_lemma=>kernel_rfl)) (by as_aux_lemma=>kernel_rfl)) (by as_aux_lemma=>kernel_rfl)) (by as_aux_lemma=>kernel_rfl)) (by as_aux_lemma=>kernel_rfl)) (by as_aux_lemma=>kernel_rfl)) Facts.p22) (by as_aux_lemma=>kernel_rfl)) Facts.p23b) Facts.p24) Facts.p24b) Facts.p24c) (by as_aux_lemma=>kernel_rfl)) (by as_aux_lemma=>kernel_rfl)) (by as_aux_lemma=>kernel_rfl)) (by as_aux_lemma=>kernel_rfl)
theorem over : Rows.fnNullableColumnsRow.holds Tryz.pinned (OpenSpec.ofChange Rows.fnNullableColumnsSpec):=
 OpenClaim.holds_of_wide 4 Tryz.f4 rfl rfl rfl rfl rfl rfl rfl ⟨rfl,rfl,rfl,rfl,rfl⟩ rfl rfl rfl rfl rfl (by as_aux_lemma=>kernel_rfl) Tryz.func4 closed
  (of_decide_eq_true (by as_aux_lemma=>kernel_rfl)) (by unfold Func.isWrapper; rw [if_neg (of_decide_eq_false (by as_aux_lemma=>kernel_rfl))]; exact ⟨rfl,rfl⟩)
  (fun os started H enc _=>lifted os started H enc)
theorem proved : Rows.FnNullableColumnsSaid:=over
end Go.Proofs.YtefldihjbaodnaaGreat.fnNullableColumns

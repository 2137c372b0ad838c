/-
  The law that only scanned tables matter. No condition.
-/
import Derived.Test.YtefldihjbaodnaaGreatJSDcWTbP
import Derived.Test.YtefldihjbaodnaaGreatKSDca
import Derived.Test.YtefldihjbaodnaaGreatJSVTbO
import Derived.Test.YtefldihjbaodnaaGreatJSVTru
import Derived.Test.YtefldihjbaodnaaGreatJSVWidC
import Derived.Test.YtefldihjbaodnaaGreatJSVEvS
import Derived.Test.YtefldihjbaodnaaGreatJSVLaw
import Derived.Test.YtefldihjbaodnaaGreatJSVPiP
import Derived.Test.YtefldihjbaodnaaGreatJSVGo
set_option maxHeartbeats 4000000
set_option maxRecDepth 100000
set_option linter.unusedVariables false
set_option linter.unusedSimpArgs false
namespace Go.Proofs.YtefldihjbaodnaaGreat
open Go.RowKit
def otD (S : Nat → Bool) (db : List Ta) (i : Nat) : List D:=db.zipIdx.map (fun tj=>if (S tj.2 || decide (i ≤ tj.2)) = true then taD tj.1 else .agg [I tj.1.w,.nul])
theorem otD_at {S : Nat → Bool} {db : List Ta} {i j : Nat} {t : Ta} (h : db[j]? = some t) : (otD S db i)[j]? = some (if (S j || decide (i ≤ j)) = true then taD t else .agg [I t.w,.nul]):=by
 unfold otD
 rw [List.getElem?_map,List.getElem?_zipIdx,h]
 simp
theorem otD_len (S : Nat → Bool) (db : List Ta) (i : Nat) : (otD S db i).length = db.length:=by unfold otD; rw [List.length_map,List.length_zipIdx]
theorem otD_0 (S : Nat → Bool) (db : List Ta) : otD S db 0 = db.map taD:=by
 apply List.ext_getElem?
 intro j
 cases h : db[j]? with
 | none=>rw [List.getElem?_eq_none (by rw [otD_len]; exact List.getElem?_eq_none_iff.1 h),List.getElem?_map,h]; rfl
 | some t=>rw [otD_at h,if_pos (by rw [decide_eq_true (Nat.zero_le j),Bool.or_true]),List.getElem?_map,h]; rfl
theorem otD_t {S : Nat → Bool} {db : List Ta} {i : Nat} (hS : S i = true) : otD S db (i + 1) = otD S db i:=by
 apply List.ext_getElem?
 intro j
 cases h : db[j]? with
 | none=>rw [List.getElem?_eq_none (by rw [otD_len]; exact List.getElem?_eq_none_iff.1 h),List.getElem?_eq_none (by rw [otD_len]; exact List.getElem?_eq_none_iff.1 h)]
 | some t=>
  rw [otD_at h,otD_at h]
  by_cases hj : j = i
  ·subst hj; rw [hS]; rfl
  ·have : decide (i + 1 ≤ j) = decide (i ≤ j):=decide_eq_decide.2 (by omega)
   rw [this]
theorem otD_f {S : Nat → Bool} {db : List Ta} {i : Nat} {t : Ta} (ht : db[i]? = some t) (hS : S i = false) : (otD S db i).set i (.agg [I t.w,.nul]) = otD S db (i + 1):=by
 apply List.ext_getElem?
 intro j
 have hi:=(List.getElem?_eq_some_iff.1 ht).1
 cases h : db[j]? with
 | none=>rw [List.getElem?_eq_none (by rw [List.length_set,otD_len]; exact List.getElem?_eq_none_iff.1 h),List.getElem?_eq_none (by rw [otD_len]; exact List.getElem?_eq_none_iff.1 h)]
 | some u=>
  rw [otD_at h]
  by_cases hj : j = i
  ·subst hj
   rw [ht] at h
   cases h
   rw [List.getElem?_set_self (by rw [otD_len]; exact hi),hS,if_neg (by simp)]
  ·rw [List.getElem?_set_ne (by omega),otD_at h]
   have : decide (i + 1 ≤ j) = decide (i ≤ j):=decide_eq_decide.2 (by omega)
   rw [this]
theorem otD_pur (S : Nat → Bool) (db : List Ta) (i : Nat) : D.purL (otD S db i) = true:=D.purL_iff.2 fun d hd=>by
 unfold otD at hd
 obtain ⟨tj,_,rfl⟩:=List.mem_map.1 hd
 split <;> rfl
theorem otD_s (S : Nat → Bool) (db : List Ta) : Sub (.sl 2 (otD S db db.length)) (tasD (emT S db)):=by
 unfold tasD emT otD
 rw [List.map_map]
 refine Sub.slmap _ _ _ (fun tj _=>rfl) (fun tj htj=>?_)
 have hj : tj.2 < db.length:=by
  obtain ⟨k,hk⟩:=List.mem_iff_getElem?.1 htj
  have hkl:=(List.getElem?_eq_some_iff.1 hk).1
  rw [List.length_zipIdx] at hkl
  rw [List.getElem?_zipIdx,List.getElem?_eq_getElem hkl] at hk
  cases hk
  simpa using hkl
 show SubL (if (S tj.2 || decide (db.length ≤ tj.2)) = true then taD tj.1 else .agg [I tj.1.w,.nul]).cells (taD (if S tj.2 = true then tj.1 else ⟨tj.1.w,[]⟩)).cells
 rw [decide_eq_false (show ¬ db.length ≤ tj.2 by omega),Bool.or_false]
 cases S tj.2 with
 | true=>exact ⟨Sub.refl _,Sub.refl _,trivial⟩
 | false=>exact ⟨Sub.refl _,Sub.nul 1,trivial⟩
theorem tbs_in {p : Pl} {n i : Nat} (hi : i < n) : decide ((i : Int) ∈ tbs p n) = scn (i : Int) p:=by
 unfold tbs
 cases h : scn (i : Int) p with
 | true=>exact decide_eq_true (List.mem_map.2 ⟨i,List.mem_filter.2 ⟨List.mem_range.2 hi,h⟩,rfl⟩)
 | false=>exact decide_eq_false (fun hm=>by
   obtain ⟨j,hj,he⟩:=List.mem_map.1 hm
   obtain rfl : j = i:=by omega
   rw [(List.mem_filter.1 hj).2] at h
   cases h)
theorem fine_ofT {ws : List Int} : ∀ p : Pl,FineE ws p → Fine ws.length p:=by
 refine Pl.indA (fun p ih h=>.mk h.fields h.scan (fun x hx=>ih x hx (h.kid hx)))
theorem does_FnTablesOf (bs : List Nat) (hb : ∀ b,b ∈ bs → b < 256) : Does Tryz.prog 3 [] [bytesD bs] (Bo true) []:=by
 by_cases hlen : bs.length ≤ 1048576
 ·obtain ⟨x,db,hd,hz,hdl,hsm,hrb⟩:=DrawEvalPlan_ok bs hb
  obtain ⟨h1,h2⟩:=EvalPlan_fn x (by omega) db (by omega) hsm.sz
  have h3:=equalTables_same (EP db x) (EP_small db x)
  by_cases hf : fitB db x
  ·obtain ⟨n,hn,hwt,hdw,hT⟩:=fit_wt hf
   have hw:=PV_ok hf.2
   have hne:=hf.2
   have hnl : (natI (dbWs db)).length = db.length:=by unfold natI dbWs; rw [List.length_map,List.length_map]
   have hfine : Fine (natI (dbWs db)).length x:=fine_ofT x (wd_fine x 8 (by rw [← PV_t hw]; exact hne))
   have kw:=widthsOf_m (db:=db) (by omega) hf.1
   have ki:=TablesOf_impl (by omega) (by omega) hne
   have ks:=TablesOf_spec (by omega) (by omega) hne hfine
   rw [hnl] at ki ks
   have htl:=tbs_le x db.length
   have keq:=eqIntsL_ok (tbs x db.length) (by omega)
   have kin:=fun (i : Nat) (hi : i < db.length)=>isInL_ok (tbs x db.length) (i : Int) (by omega)
   have kine:=fun (i : Nat) (hi : i < db.length)=>tbs_in (p:=x) hi
   obtain ⟨hf2,hev⟩:=emT_fit (S:=fun t : Nat=>scn (t : Int) x) hf (fun t h=>h)
   have kx:=(EvalPlan_fn x (by omega) (emT (fun t : Nat=>scn (t : Int) x) db) (by rw [emT_len]; omega) (fun u hu=>by
    obtain ⟨t,ht,hu⟩:=emT_mem hu
    rcases hu with rfl | rfl
    ·exact hsm.sz _ ht
    ·exact Nat.zero_le _)).1
   rw [EP_t hf2,EO_t hf2,hev] at kx
   have kx2:=kx.weak (es:=[pD x,.sl 2 (otD (fun t : Nat=>scn (t : Int) x) db db.length)]) ⟨Sub.refl _,otD_s _ db,trivial⟩ (Sub.refl _)
   rw [EO_t hf] at h1 h2
   rw [EP_t hf] at h1 h2 h3
   have hte:=hT.eta
   generalize (evP db x).rows = rs at hte
   rw [hte] at h1 h2 h3 kx2
   have hot0:=otD_0 (fun t : Nat=>scn (t : Int) x) db
   have hott:=fun (i : Nat) (h : scn (i : Int) x = true)=>otD_t (S:=fun t : Nat=>scn (t : Int) x) (db:=db) (i:=i) h
   have hotf:=fun (i : Nat) (t : Ta) (ht : db[i]? = some t) (h : scn (i : Int) x = false)=>otD_f (S:=fun t : Nat=>scn (t : Int) x) ht h
   have hotl:=otD_len (fun t : Nat=>scn (t : Int) x) db
   have hota:=fun (i : Nat) (t : Ta) (ht : db[i]? = some t)=>(otD_at (S:=fun t : Nat=>scn (t : Int) x) (i:=i) ht).trans (congrArg some (if_pos (by rw [decide_eq_true (Nat.le_refl i),Bool.or_true])))
   have hotp:=otD_pur (fun t : Nat=>scn (t : Int) x) db
   generalize otD (fun t : Nat=>scn (t : Int) x) db = od at *
   have hotr : ∀ (L : List Nat) (i : Nat),D.renL L (od i) = od i:=fun L i=>ren_pure.renL_pure L _ (hotp i)
   generalize tbs x db.length = tb at *
   have htk : (od db.length).take db.length = od db.length:=List.take_of_length_le (by rw [hotl]; exact Nat.le_refl _)
   have htk0 : (db.map taD).take db.length = db.map taD:=take_all taD db
   refine Bg c_Z99 mixed (go1 @bytesD.eq_1 ?_)
   refine Uc @bytesD.eq_1 (hd) (go1 @bytesD.eq_1 ?_)
   refine Uc @bytesD.eq_1 (h1) (go1 @bytesD.eq_1 ?_)
   refine Uc @bytesD.eq_1 (h2) (go1 @bytesD.eq_1 ?_)
   refine Uc @bytesD.eq_1 (h3) (go1 @bytesD.eq_1 ?_)
   refine Uc @bytesD.eq_1 (kw) (go1 @bytesD.eq_1 ?_)
   refine Uc @bytesD.eq_1 (ki) (go1 @bytesD.eq_1 ?_)
   refine dw_for (c:=3) (l:=fun i=>[(3,.ref 1000000 0),(4,tasD db),(5,.ref 1000001 0),(9,intsD tb),(10,.own 1000002 2 db.length),(11,I i),(1000000,.obj [I x.k,I x.t,.sl 5 (x.es.map eD),intsD x.cs,.sl 5 (x.ks.map pD)]),(1000001,.obj [I n,rowsD rs]),(1000002,.row 2 (od i))]) db.length (fun _=>True) 0 trivial (Wk.list [2000003,2000005,2000061] rfl rfl ?_) (fun i hi _=>?_) (Nat.zero_le _)
   ·rw [hot0]
    repeat' (first|(conv in hold _=>simp (disch:=omega) only [go_sem,bytesD,List.length_map,beq_self_eq_true,bne_self_eq_false,htk0])|exact trivial|exact Sub.refl _|omega)
    (repeat' apply And.intro) <;> first | rfl | (rw [← hot0,hotr])
   ·have hol:=hotl i
    rcases at_or_end hi with ⟨t,ht,hlt⟩ | rfl
    ·have hki:=kin i hlt
     rw [kine i hlt] at hki
     have hoa:=hota i t ht
     cases hsc : scn (i : Int) x with
     | true=>
      rw [hsc] at hki
      have ho:=hott i hsc
      refine go1 (cj2 @bytesD.eq_1 @ht) ?_
      refine Uc @bytesD.eq_1 (hki) (go1 @bytesD.eq_1 ?_)
      refine ⟨hlt,trivial,Wk.list [1000000,1000001,1000002] rfl rfl ?_⟩
      repeat' (first|(conv in hold _=>simp (disch:=omega) only [go_sem,bytesD,List.length_map,beq_self_eq_true,bne_self_eq_false,ho,hotr])|exact trivial|exact Sub.refl _|omega)
     | false=>
      rw [hsc] at hki
      have ho:=hotf i t ht hsc
      refine go1 (cj2 @bytesD.eq_1 @ht) ?_
      refine Uc (cj4 @bytesD.eq_1 @ht @hoa @hol) (hki) (go1 (cj4 @bytesD.eq_1 @ht @hoa @hol) ?_)
      refine ⟨hlt,trivial,Wk.list [1000000,1000001,1000002] rfl rfl ?_⟩
      repeat' (first|(conv in hold _=>simp (disch:=omega) only [go_sem,bytesD,List.length_map,beq_self_eq_true,bne_self_eq_false,ho,hotr])|exact trivial|exact Sub.refl _|omega)
    ·have hoz:=hol
     refine go1R @bytesD.eq_1 ?_
     (with_reducible first | refine dw_reg0 ?_ | refine dw_regB ?_)
     conv=>arg 3; whnf
     refine Stp.go ?_
     refine s_pre (pre_frz (t:=10) (g:=1000002) (by decide) (by decide) rfl ?_) ?_
     rotate_left
     refine go1 (cj4 @bytesD.eq_1 @htk @hol @hotr) ?_
     ·refine Uc @bytesD.eq_1 (kx2) (go1 @bytesD.eq_1 ?_)
      refine Uc @bytesD.eq_1 (kw) (go1 @bytesD.eq_1 ?_)
      refine Uc @bytesD.eq_1 (ks) (go1 @bytesD.eq_1 ?_)
      refine Uc @bytesD.eq_1 (keq) (go1 @bytesD.eq_1 ?_)
      exact Uc @bytesD.eq_1 (h3) (go0 @bytesD.eq_1)
     ·first | exact hotp _ | (rw [hotr]; exact hotp _)
  ·rw [EO_f hf] at h1 h2
   refine Bg c_Z99 mixed (go1 @bytesD.eq_1 ?_)
   refine Uc @bytesD.eq_1 (hd) (go1 @bytesD.eq_1 ?_)
   refine Uc @bytesD.eq_1 (h1) (go1 @bytesD.eq_1 ?_)
   refine Uc @bytesD.eq_1 (h2) (go1 @bytesD.eq_1 ?_)
   refine Uc @bytesD.eq_1 (h3) (go1 @bytesD.eq_1 ?_)
   exact Uc @bytesD.eq_1 (h3) (go0 @bytesD.eq_1)
 ·exact Bg c_Z99 mixed (go0 @bytesD.eq_1)
theorem walk_FnTablesOf (a : Option Addr) (len cap : Nat) (zs : List Int) (w : World) (h : IsRow .u8 w a len cap zs) :
  Calls Tryz.prog 3 #[.slice a len cap] w fun e W'=>e = .returned (.bool true) ∧ Below w.heap.size w W':=walk_of does_FnTablesOf a len cap zs w h
end Go.Proofs.YtefldihjbaodnaaGreat
namespace Go.Proofs.YtefldihjbaodnaaGreat.fnTablesOf
open Go.ChangeShapes Go.WideShapes Go.ChangeAt Go.RowKit Go.Joins
set_option linter.unusedVariables false
set_option maxHeartbeats 4000000
set_option maxRecDepth 100000 in
theorem lifted (os : Os) (started : os.Started) (H : Type) (enc : TypeId × Value → H) :
  ReturnsInHanded {} Tryz.checked os 3 .any (Rows.fnTablesOfSpec.pre6 enc Tryz.prog Tryz.f3 Rows.fnTablesOfRow.domain false) (Rows.fnTablesOfSpec.post enc Tryz.prog Tryz.f3 false true false false):=by
 refine returnsInHanded_of_change (C:=Tryz.checked) own started (by kernel_rfl) Tryz.func3
  (ChangeSpec.witness6 (enc:=enc) (C:=Tryz.checked) false ⟨#[],#[.slice none 0 0],[]⟩ 8 (by kernel_rfl) (by kernel_rfl) (by kernel_rfl) (by kernel_rfl)) ?_
 intro W base args ds gs before hval0 hW hcnd _
 have hval : ∀ (j : Nat) t v,Tryz.f3.params[j]? = some t → args[j]? = some v → Value.okWide Tryz.prog W .any base t v:=hval0
 have hW':=hW
 obtain ⟨p,q,hA0,hV,rfl,hfz,hnd⟩:=hW
 have hA : DataW.TrodAll enc Tryz.prog W 0 (fun _=>true) true Tryz.f3.params.toList args.toList ds p:=hA0
 rw [Tryz.params3] at hA hval
 obtain ⟨v0,vs0,d0,ds0,p0,q0,hargs,rfl,rfl,h0,r0⟩:=trodAll_cons hA
 obtain ⟨rfl,rfl,rfl⟩:=trodAll_nil r0
 obtain rfl : args = #[v0]:=by cases args; simp_all
 obtain ⟨rfl,rfl⟩:=trodVars_none hV
 have k0:=h0
 have lt0 : ∀ x ∈ p0,x.block < W.heap.size:=by obtain ⟨m,hm⟩:=k0; exact DataW.trod_lt m _ _ _ hm
 obtain ⟨a0,len0,cap0,z0,hv0,wr0⟩:=open_code (hval 0 22 v0 rfl rfl) h0
 subst hv0
 clear hA0 hval0
 refine (walk_FnTablesOf a0 len0 cap0 z0 W wr0).mono fun e W' ⟨he,bel⟩=>?_
 subst he
 exact ⟨_,rfl,_,_,_,[],_,[],hW',trodAll_mk1 (shut_bool Tryz.underlying4 _),(trodAll_cons_mk (Below.trod laidOut (by kernel_rfl) (of_decide_eq_true (by kernel_rfl)) k0 bel lt0) trodAll_mk0),rfl,bel.frame _,fun h=>by cases h⟩
theorem closed : joinedFacts Tryz.prog 3 Tryz.f3 Rows.fnTablesOfSpec Rows.fnTablesOfRow = true:=by
 unfold joinedFacts
 exact Facts.and2 (Facts.and2 (Facts.and2 (Facts.and2 (Facts.and2 (Facts.and2 (Facts.and2 (Facts.and2 (Facts.and2 (Facts.and2 (Facts.and2 (Facts.and2 (Facts.and2 (Facts.and2 (Facts.and2 (Facts.and2 (Facts.and2 (Facts.and2 (Facts.and2 (Facts.and2 (Facts.and2 (Facts.and2 (Facts.and2 (Facts.and2 (Facts.and2 (Facts.and2 (Facts.and2 (Facts.and2 (Facts.and2 (Facts.and2 (Facts.and2 ((by as_aux_lemma=>kernel_rfl)) Facts.p2) Facts.p3) (by as_aux_lemma=>kernel_rfl)) (by as_aux_lemma=>kernel_rfl)) (by as_aux_lemma=>kernel_rfl)) Facts.p7) (by as_aux_lemma=>kernel_rfl)) Facts.p9) (by as_aux_lemma=>kernel_rfl)) (by as_aux_lemma=>kernel_rfl)) (by as_aux_lemma=>kernel_rfl)) (by as_aux_lemma=>kernel_rfl)) (by as_aux_lemma=>kernel_rfl)) (by as_aux_lemma=>kernel_rfl)) (by as_aux_lemma=>kernel_rfl)) (by as_aux_lemma=>kernel_rfl)) (by as_aux_lemma=>kernel_rfl)) (by as_aux_lemma=>kernel_rfl)) (by as_aux_lemma=>kernel_rfl)) (by as_aux_lemma=>kernel_rfl)) (by as_aux_lemma=>kernel_rfl)) Facts.p22) (by as_aux_lemma=>kernel_rfl)) Facts.p23b) Facts.p24) Facts.p24b) Facts.p24c) (by as_aux_lemma=>kernel_rfl)) (by as_aux_lemma=>kernel_rfl)) (by as_aux_lemma=>kernel_rfl)) (by as_aux_lemma=>kernel_rfl)
theorem over : Rows.fnTablesOfRow.holds Tryz.pinned (OpenSpec.ofChange Rows.fnTablesOfSpec):=
 OpenClaim.holds_of_wide 3 Tryz.f3 rfl rfl rfl rfl rfl rfl rfl ⟨rfl,rfl,rfl,rfl,rfl⟩ rfl rfl rfl rfl rfl (by as_aux_lemma=>kernel_rfl) Tryz.func3 closed
  (of_decide_eq_true (by as_aux_lemma=>kernel_rfl)) (by unfold Func.isWrapper; rw [if_neg (of_decide_eq_false (by as_aux_lemma=>kernel_rfl))]; exact ⟨rfl,rfl⟩)
  (fun os started H enc _=>lifted os started H enc)
theorem proved : Rows.FnTablesOfSaid:=over
end Go.Proofs.YtefldihjbaodnaaGreat.fnTablesOf

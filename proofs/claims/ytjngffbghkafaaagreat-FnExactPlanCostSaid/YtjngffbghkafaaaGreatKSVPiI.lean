/-
  Rows sorted by a key, and their runs, as the program hands them out. No condition.
-/
import Derived.Test.YtjngffbghkafaaaGreatKSDca
import Derived.Test.YtjngffbghkafaaaGreatKSDcc
import Derived.Test.YtjngffbghkafaaaGreatJSVClone
import Derived.Test.YtjngffbghkafaaaGreatJSVTbI
import Derived.Test.YtjngffbghkafaaaGreatJSVSzW
import Derived.Test.YtjngffbghkafaaaGreatJSVGo
set_option maxHeartbeats 4000000
set_option maxRecDepth 100000
set_option linter.unusedVariables false
set_option linter.unusedSimpArgs false
namespace Go.Proofs.YtjngffbghkafaaaGreat
open Go.RowKit
structure KeyF (F : FuncId) (caps : List D) (k : List V → List V) (m : Nat) (Q : List V → Prop) : Prop where
 ent : enters Tryz.prog F = true
 pur : D.purL caps = true
 call : ∀ x y,Q x → Q y → Does Tryz.prog F [] (rowD x :: rowD y :: caps) (I (cK k x y)) []
 wid : KeyW k m Q
def curK (F : FuncId) (caps : List D) (rs : List (List V)) (row : List V) : List D:=[.obj [.ref 1000002 0],.obj [rowD row],.obj [rowsD rs,.fn F caps]]
attribute [go_sem] curK
section
variable {F : FuncId} {caps : List D} {k : List V → List V} {m : Nat} {Q : List V → Prop}
theorem geK_ok (h : KeyF F caps k m Q) (rs : List (List V)) (r row : List V) (hr : Q r) (ho : Q row) : Does Tryz.prog 239 (curK F caps rs row) [rowD r,.ref 1000000 0,.ref 1000001 0] (Bo (decide (0 ≤ cK k r row))) (curK F caps rs row):=by
 have hc:=h.call r row hr ho
 have hp:=h.pur
 have hren:=fun L=>ren_pure.renL_pure L caps hp
 refine Bk c_Z10 mixed 3 (go1 (cj2 @hp @hren) ?_)
 refine v_fn (h.ent) ?_
 refine Uc (cj2 @hp @hren) (hc) (go1 (cj2 @hp @hren) ?_)
 refine fin_L [1000000,1000001,1000002] ?_ ?_ rfl ?_
 repeat' (first|(conv in hold _=>simp (disch:=omega) only [go_sem,hp,hren])|exact trivial|exact Sub.refl _|omega)
theorem gtK_ok (h : KeyF F caps k m Q) (rs : List (List V)) (r row : List V) (hr : Q r) (ho : Q row) : Does Tryz.prog 240 (curK F caps rs row) [rowD r,.ref 1000000 0,.ref 1000001 0] (Bo (decide (0 < cK k r row))) (curK F caps rs row):=by
 have hc:=h.call r row hr ho
 have hp:=h.pur
 have hren:=fun L=>ren_pure.renL_pure L caps hp
 refine Bk c_Z11 mixed 3 (go1 (cj2 @hp @hren) ?_)
 refine v_fn (h.ent) ?_
 refine Uc (cj2 @hp @hren) (hc) (go1 (cj2 @hp @hren) ?_)
 refine fin_L [1000000,1000001,1000002] ?_ ?_ rfl ?_
 repeat' (first|(conv in hold _=>simp (disch:=omega) only [go_sem,hp,hren])|exact trivial|exact Sub.refl _|omega)
theorem searchK_ok (h0 : KeyF F caps k m Q) (ls rs : List (List V)) (row : List V) (hl : rs.length ≤ 400) (f : FuncId) (hf : enters Tryz.prog f = true) (q : List V → Bool) (h : ∀ x,x ∈ rs → Does Tryz.prog f (curK F caps ls row) [rowD x,.ref 1000000 0,.ref 1000001 0] (Bo (q x)) (curK F caps ls row))
  (hq : ∀ (i j : Nat) (x y : List V),i ≤ j → rs[i]? = some x → rs[j]? = some y → q x = true → q y = true) :
  ∃ r : Nat,r ≤ rs.length ∧ (∀ (j : Nat) (x : List V),j < r → rs[j]? = some x → q x = false) ∧ (∀ (j : Nat) (x : List V),r ≤ j → rs[j]? = some x → q x = true) ∧ Does Tryz.prog 238 (curK F caps ls row) [rowsD rs,.fn f [.ref 1000000 0,.ref 1000001 0]] (I r) (curK F caps ls row):=by
 have hcp:=h0.pur
 have hren:=fun L=>ren_pure.renL_pure L caps hcp
 have hat : ∀ (j : Nat) (x : List V),rs[j]? = some x → (fun j=>q (rs.getD j [])) j = q x:=fun j x hj=>by
  show q (rs.getD j []) = q x
  rw [List.getD_eq_getElem?_getD,hj]
  rfl
 have hp : ∀ i j,i ≤ j → j < rs.length → (fun j=>q (rs.getD j [])) i = true → (fun j=>q (rs.getD j [])) j = true:=fun i j hij hj hi=>by
  have e1:=List.getElem?_eq_getElem (l:=rs) (i:=i) (by omega)
  have e2:=List.getElem?_eq_getElem hj
  rw [hat _ _ e1] at hi
  rw [hat _ _ e2]
  exact hq i j _ _ hij e1 e2 hi
 generalize (fun j=>q (rs.getD j [])) = p at hat hp
 have hinv:=itB_inv (p:=p) (n:=rs.length) hp
 have hend:=hinv rs.length
 have hee : (itB p rs.length rs.length).1 = (itB p rs.length rs.length).2:=by omega
 refine ⟨(itB p rs.length rs.length).1,by omega,fun j x hj hx=>?_,fun j x hj hx=>?_,?_⟩
 ·rw [← hat j x hx]
  exact hend.2.1 j hj
 ·rw [← hat j x hx]
  exact hend.2.2 j (by omega) (List.getElem?_eq_some_iff.1 hx).1
 ·refine Bk c_Z14 mixed 3 (go1 (cj2 @hcp @hren) ?_)
  refine dw_for (c:=3) (l:=fun i=>[(0,rowsD rs),(1,.fn f [.ref 1000000 0,.ref 1000001 0]),(5,I (itB p rs.length i).1),(6,I (itB p rs.length i).2),(1000000,.obj [.ref 1000002 0]),(1000001,.obj [rowD row]),(1000002,.obj [rowsD ls,.fn F caps])]) rs.length (fun _=>True) 0 trivial (Wk.list [1000000,1000001,1000002] rfl rfl ?_) (fun i hi _=>?_) (Nat.zero_le _)
  ·repeat' (first|(conv in hold _=>simp (disch:=omega) only [go_sem,hren])|exact trivial|exact Sub.refl _|omega)
   exact ⟨rfl,rfl⟩
  ·have hi3:=hinv i
   have hnx : itB p rs.length (i + 1) = stepB p (itB p rs.length i):=rfl
   have hstop:=itB_end (p:=p) (n:=rs.length) (i:=i)
   generalize itB p rs.length i = s at hi3 hnx hstop
   obtain ⟨lo,hi'⟩:=s
   simp only at hi3 hstop
   by_cases hlt : lo < hi'
   ·have hmid : ((lo : Int) + (hi' : Int)).tdiv 2 = (((lo + hi') / 2 : Nat) : Int):=by
     rw [Int.tdiv_eq_ediv_of_nonneg (by omega)]
     omega
    have hw : IntKind.i64.wrap (((lo + hi') / 2 : Nat) : Int) = (((lo + hi') / 2 : Nat) : Int):=wrap64 (by omega) (by omega)
    have hx:=List.getElem?_eq_getElem (l:=rs) (i:=(lo + hi') / 2) (by omega)
    generalize rs[(lo + hi') / 2]'(by omega) = x at hx
    have hfx:=h x (List.mem_of_getElem? hx)
    rw [← hat _ x hx] at hfx
    have hmr : (lo + hi') / 2 < rs.length:=by omega
    unfold stepB at hnx
    simp only [hlt,if_true] at hnx
    generalize (lo + hi') / 2 = c at hmid hw hx hfx hmr hnx
    cases hm : p c with
    | true=>
     rw [hm] at hfx
     rw [hm] at hnx
     simp only [if_true] at hnx
     refine go1 (cj3 @hmid @hw @hx) ?_
     refine v_fn (hf) ?_
     refine UcR [1000000,1000001,1000002] @hren (hfx) (go1 @hren ?_)
     refine ⟨by omega,trivial,Wk.list [1000000,1000001,1000002] rfl rfl ?_⟩
     repeat' (first|(conv in hold _=>simp (disch:=omega) only [go_sem,hnx,hren])|exact trivial|exact Sub.refl _|omega)
    | false=>
     rw [hm] at hfx
     rw [hm] at hnx
     simp only [Bool.false_eq_true,if_false] at hnx
     refine go1 (cj3 @hmid @hw @hx) ?_
     refine v_fn (hf) ?_
     refine UcR [1000000,1000001,1000002] @hren (hfx) (go1 @hren ?_)
     refine ⟨by omega,trivial,Wk.list [1000000,1000001,1000002] rfl rfl ?_⟩
     repeat' (first|(conv in hold _=>simp (disch:=omega) only [go_sem,hnx,hren])|exact trivial|exact Sub.refl _|omega)
   ·have he1:=hstop hlt (rs.length - i)
    rw [show i + (rs.length - i) = rs.length by omega] at he1
    rw [he1]
    refine go1 trivial ?_
    refine fin_L [1000000,1000001,1000002] ?_ ?_ rfl ?_
    repeat' (first|(conv in hold _=>simp (disch:=omega) only [go_sem,hren])|exact trivial|exact Sub.refl _|omega)
theorem takeK_ok (h : KeyF F caps k m Q) (rs : List (List V)) (row : List V) (hl : rs.length ≤ 400) (hro : Q row) (hq : ∀ x,x ∈ rs → Q x) (ha : AscK k rs) :
  ∃ a b : Nat,(a + b ≤ rs.length ∧ (∀ (j : Nat) (x : List V),j < a → rs[j]? = some x → cK k x row < 0) ∧ (∀ (j : Nat) (x : List V),j < b → rs[a + j]? = some x → ¬ 0 < cK k x row) ∧ (∀ (j : Nat) (x : List V),b ≤ j → rs[a + j]? = some x → 0 < cK k x row)) ∧
   Does Tryz.prog 223 [.obj [rowsD rs,.fn F caps]] [.ref 1000000 0,rowD row] (rowsD ((rs.drop a).take b)) [.obj [rowsD ((rs.drop a).drop b),.fn F caps]]:=by
 have hp:=h.pur
 have hren:=fun L=>ren_pure.renL_pure L caps hp
 have htr:=ascK_take h.wid hq ha hro
 obtain ⟨a,ha,a1,a2,hA⟩:=searchK_ok h rs rs row hl 239 (by kernel_rfl) (fun x=>decide (0 ≤ cK k x row)) (fun x hx=>geK_ok h rs x row (hq x hx) hro)
  (fun i j x y hij hx hy h=>decide_eq_true ((htr i j x y hij hx hy).1 (of_decide_eq_true h)))
 obtain ⟨b,hb,b1,b2,hB⟩:=searchK_ok h rs (rs.drop a) row (by rw [List.length_drop]; omega) 240 (by kernel_rfl) (fun x=>decide (0 < cK k x row)) (fun x hx=>gtK_ok h rs x row (hq x (List.mem_of_mem_drop hx)) hro)
  (fun i j x y hij hx hy h=>by
   rw [List.getElem?_drop] at hx hy
   exact decide_eq_true ((htr (a + i) (a + j) x y (by omega) hx hy).2 (of_decide_eq_true h)))
 rw [List.length_drop] at hb
 refine ⟨a,b,⟨by omega,fun j r hj hr=>by have:=of_decide_eq_false (a1 j r hj hr); omega,fun j r hj hr=>of_decide_eq_false (b1 j r hj (by rw [List.getElem?_drop]; exact hr)),fun j r hj hr=>of_decide_eq_true (b2 j r hj (by rw [List.getElem?_drop]; exact hr))⟩,?_⟩
 have hdr : (rs.map rowD).drop a = (rs.drop a).map rowD:=List.map_drop.symm
 have hdb : ((rs.drop a).map rowD).drop b = ((rs.drop a).drop b).map rowD:=List.map_drop.symm
 have htb : ((rs.drop a).map rowD).take b = ((rs.drop a).take b).map rowD:=List.map_take.symm
 have hld : (rs.drop a).length = rs.length - a:=List.length_drop ..
 have hdt : ((rs.drop a).map rowD).take (rs.length - a) = (rs.drop a).map rowD:=List.take_of_length_le (by rw [List.length_map,List.length_drop]; exact Nat.le_refl _)
 refine Bk c_Z12 mixed 1 (go1 @hren ?_)
 refine UcR [2000002,2000003,1000000] (cj6 @hdr @hdt @hdb @htb @hld @hren) (hA) (go1 (cj6 @hdr @hdt @hdb @htb @hld @hren) ?_)
 refine UcR [2000002,2000003,1000000] (cj6 @hdr @hdt @hdb @htb @hld @hren) (hB) (go1 (cj6 @hdr @hdt @hdb @htb @hld @hren) ?_)
 refine fin_L [1000000] ?_ ?_ rfl ?_
 repeat' (first|(conv in hold _=>simp (disch:=omega) only [go_sem,hren])|exact trivial|exact Sub.refl _|omega)
def tupS (g : List (List V)) : D:=.tup [rowsD g]
theorem tupS_at {gs : List (List (List V))} {i : Nat} {es : List D} (h : (gs.map tupS)[i]? = some (.tup es)) : ∃ g,gs[i]? = some g ∧ es = [rowsD g]:=by
 rw [List.getElem?_map] at h
 cases hr : gs[i]? with
 | none=>rw [hr] at h; cases h
 | some r=>
  rw [hr] at h
  simp only [Option.map_some,Option.some.injEq,tupS,D.tup.injEq] at h
  exact ⟨r,rfl,h.symm⟩
theorem ascK_sub {l l' : List (List V)} (h : l.Sublist l') (ha : AscK k l') : AscK k l:=ha.sublist h
theorem runsK_yields (h : KeyF F caps k m Q) {l : List (List V)} (hq : ∀ x,x ∈ l → Q x) (ha : AscK k l) (hl : l.length ≤ 400) :
  Yields Tryz.prog 222 [.ptr [rowsD l],.ptr [.fn F caps]] ((runK k l).map tupS):=by
 have hp:=h.pur
 have hren:=fun L=>ren_pure.renL_pure L caps hp
 refine yields c_Z17 mixed (Nat.le_of_ble_eq_true rfl) (fun i e=>?_)
 conv=>arg 3; whnf
 refine go1 @hren ?_
 refine dw_for (c:=1) (l:=fun j=>[(0,.v (.func (.yield i) #[] #[])),(4,.ref 1000000 0),(1000000,.obj [rowsD (restK k l j),.fn F caps]),(gh,.gho i ((runK k l).map tupS) e j)]) (runK k l).length (fun j=>j ≤ e) 0 (Nat.zero_le _) (Wk.list [2000004] rfl rfl ?_) (fun j hj hJ=>?_) (Nat.zero_le _)
 ·rw [restK_0]
  repeat' (first|(conv in hold _=>simp (disch:=omega) only [go_sem,hren])|exact trivial|exact Sub.refl _|omega)
 ·by_cases hlt : j < (runK k l).length
  ·have hg:=List.getElem?_eq_getElem hlt
   generalize (runK k l)[j] = g at hg
   obtain ⟨hg1,hg2⟩:=runK_ne (List.mem_of_getElem? hg)
   have hn:=restK_next hg
   have h0 : (restK k l j)[0]? = some (g.headD []):=by
    rw [hn,List.getElem?_append_left (List.length_pos_iff.2 hg1)]
    cases g with
    | nil=>exact absurd rfl hg1
    | cons x y=>rfl
   have hsub:=restK_sub k l j
   have hql : ∀ x,x ∈ restK k l j → Q x:=fun x hx=>hq x (hsub.subset hx)
   obtain ⟨a,b,⟨hab,a1,b1,b2⟩,hT⟩:=takeK_ok h (restK k l j) (g.headD []) (by have:=hsub.length_le; omega) (hql _ (List.mem_of_getElem? h0)) hql (ascK_sub hsub ha)
   obtain ⟨e1,e2⟩:=takeK_run h.wid hq ha hg hab a1 b1 b2
   rw [e1,e2] at hT
   have hpos : 0 < (restK k l j).length:=(List.getElem?_eq_some_iff.1 h0).1
   clear hn hsub hql hab a1 b1 b2 e1 e2
   generalize g.headD [] = hd at *
   generalize restK k l j = R at *
   refine go1 (cj2 @h0 @hren) ?_
   refine UcR [1000000] @hren (hT) (go1 @hren ?_)
   refine v_yld (by ((conv=>lhs; simp (disch:=omega) only [go_sem]); try rfl)) (hJ) ((by rw [List.getElem?_map,hg]; rfl)) (by first | rfl | (simp only [go_sem])) ?_
   repeat' (first|with_reducible refine acc_none ?_ | (conv in hold _=>simp (disch:=omega) only [go_sem])|refine Stp.go ?_|(with_reducible first|refine it_pos rfl ?_|refine it_neg (by decide) ?_|refine st_nil rfl ?_|refine s_op ?_ ?_|exact trivial)|((with_reducible first|refine dw_reg0 ?_|refine dw_regB ?_);(conv=>arg 3;whnf))|(refine Spl.go (fun hq he=>?_) (fun hq he=>?_)<;>first|(exfalso;clear hq;omega)|((try first|(conv=>arg 8;simp only [hq])|(conv=>arg 4;simp only [hq]));clear hq))|((with_reducible first|refine c_split (fun hq=>?_) (fun hq=>?_)|refine q_split (fun hq=>?_) (fun hq=>?_))<;>(try first|(conv=>arg 8;simp only [hq])|(conv=>arg 4;simp only [hq])))|(with_reducible refine fin_0 ?_ (by first|rfl|(conv=>lhs;simp only [go_sem])) ?_)|exact Sub.refl _|omega)
   ·refine ⟨(j + 1),?_,?_⟩
    ·((conv=>lhs; simp (disch:=omega) only [go_sem]); try rfl)
    simp only [List.length_map]
    omega
   ·refine ⟨hlt,by omega,Wk.list [1000000] rfl rfl ?_⟩
    repeat' (first|(conv in hold _=>simp (disch:=omega) only [go_sem,hren])|exact trivial|exact Sub.refl _|omega)
  ·have hR : restK k l j = []:=restK_end (by omega)
   rw [hR]
   refine go1 trivial ?_
   refine ⟨j,?_,?_⟩
   ·((conv=>lhs; simp (disch:=omega) only [go_sem]); try rfl)
   simp only [List.length_map]
   omega
theorem runsOfK_ok (h : KeyF F caps k m Q) (l : List (List V)) : Does Tryz.prog 192 [] [rowsD l,.fn F caps] (.fn 222 [.ptr [rowsD l],.ptr [.fn F caps]]) []:=by
 have hp:=h.pur
 have hren:=fun L=>ren_pure.renL_pure L caps hp
 refine Bg c_Z20 mixed (go1F (cj2 @hp @hren) ?_)
 refine fin_wk (wk_fro 4 2000002 (by decide) (by decide) rfl ?_) ?_
 rotate_left
 (conv in hold _=>simp (disch:=omega) only [go_sem,hp,hren])
 ·refine fin_wk (wk_fro 4 2000003 (by decide) (by decide) rfl ?_) ?_
  rotate_left
  (conv in hold _=>simp (disch:=omega) only [go_sem,hp,hren])
  ·refine fin_L [] ?_ ?_ rfl ?_
   repeat' (first|(conv in hold _=>simp (disch:=omega) only [go_sem,hp,hren])|exact trivial|exact Sub.refl _|omega)
  ·simp only [go_sem,hp]
 ·simp only [go_sem,hp]
theorem ordK (hk : KeyW k m Q) : OrdOn (cK k) Q where
 irrefl a _:=by have:=cK_self k a; omega
 trans a b c ha hb hc h1 h2:=(cK_trans hk ha hb hc (by omega)).2 h2
 ntrans a b c ha hb hc h1 h2:=by
  have e1:=cK_anti hk ha hb
  have e2:=cK_anti hk hb hc
  have e3:=cK_anti hk ha hc
  have:=(cK_trans hk hc hb ha (by omega)).1 (by omega)
  omega
noncomputable def srK (k : List V → List V) (rs : List (List V)) : List (List V):=sortL (cK k) rs
theorem srK_perm (hk : KeyW k m Q) {rs : List (List V)} (hq : ∀ x,x ∈ rs → Q x) : (srK k rs).Perm rs:=sortL_perm (ordK hk) rs hq
theorem srK_asc (hk : KeyW k m Q) {rs : List (List V)} (hq : ∀ x,x ∈ rs → Q x) : AscK k (srK k rs):=by
 refine List.Pairwise.imp_of_mem ?_ (sortL_asc (ordK hk) rs hq)
 intro a b ha hb hab
 have hp:=srK_perm hk hq
 have:=cK_anti hk (hq a (hp.mem_iff.1 ha)) (hq b (hp.mem_iff.1 hb))
 omega
theorem sortedRows_ok (h : KeyF F caps k m Q) (rs : List (List V)) (hq : ∀ x,x ∈ rs → Q x) (hl : rs.length ≤ 100000) : Does Tryz.prog 193 [] [rowsD rs,.fn F caps] (.own 1000000 1 rs.length) [.row 1 ((srK k rs).map rowD)]:=by
 have hp:=h.pur
 have hren:=fun L=>ren_pure.renL_pure L caps hp
 have h1:=Values_rows rs
 have hY:=values_rows rs hl
 have h2:=collect_rows (f:=189) (by kernel_rfl) (caps:=[.ptr [rowsD rs]]) rfl rs hl hY
 have h3:=sort_own rowsSort h.ent h.pur rowD (fun _=>rfl) (fun _=>rfl) (ordK h.wid) (fun a b ha hb=>h.call a b ha hb) rs hq (by omega)
 have h4 : Does Tryz.prog 224 [] [.fn 189 [.ptr [rowsD rs]],.fn F caps] (.own 1000000 1 rs.length) [.row 1 ((srK k rs).map rowD)]:=by
  refine Bk c_Z13 mixed 0 (go1 (cj2 @hp @hren) ?_)
  refine UcR [3000001] (cj2 @hp @hren) (h2) (go1 (cj2 @hp @hren) ?_)
  refine UcR [3000001] (cj2 @hp @hren) (h3) (go1 (cj2 @hp @hren) ?_)
  refine fin_L [3000001] ?_ ?_ rfl ?_
  repeat' (first|(conv in hold _=>simp (disch:=omega) only [go_sem,hp,hren,srK])|exact trivial|exact Sub.refl _|omega)
 refine Bk c_Z86 mixed 0 (go1 (cj2 @hp @hren) ?_)
 refine Uc (cj2 @hp @hren) (h1) (go1 (cj2 @hp @hren) ?_)
 refine UcR [3000001] (cj2 @hp @hren) (h4) (go1 (cj2 @hp @hren) ?_)
 refine fin_L [3000001] ?_ ?_ rfl ?_
 repeat' (first|(conv in hold _=>simp (disch:=omega) only [go_sem,hp,hren])|exact trivial|exact Sub.refl _|omega)
end
end Go.Proofs.YtjngffbghkafaaaGreat

/-
  Groups, as the program hands them out. No condition.
-/
import Derived.Test.YtjngffbghkafaaaGreatKSDca
import Derived.Test.YtjngffbghkafaaaGreatJSDce
import Derived.Test.YtjngffbghkafaaaGreatKSVPiJ
import Derived.Test.YtjngffbghkafaaaGreatJSVGo
set_option maxHeartbeats 4000000
set_option maxRecDepth 100000
set_option linter.unusedVariables false
set_option linter.unusedSimpArgs false
namespace Go.Proofs.YtjngffbghkafaaaGreat
open Go.RowKit
theorem pkR_len (cs : List Int) (a : List V) : (pkR cs a).length = cs.length:=List.length_map _
theorem pkR_at {cs : List Int} {a : List V} {i : Nat} {c : Nat} (h : cs[i]? = some (c : Int)) : (pkR cs a)[i]? = some (a.getD c ⟨false,0⟩):=by
 unfold pkR
 rw [List.getElem?_map,h]
 rfl
theorem compareColumns_ok (cs : List Int) (a b : List V) (hl : cs.length ≤ 1000) (ha : ∀ v,v ∈ a → v.ok) (hb : ∀ v,v ∈ b → v.ok) (hal : a.length < 100000) (hbl : b.length < 100000) (h : ∀ c,c ∈ cs → 0 ≤ c ∧ c < a.length ∧ c < b.length) :
  Does Tryz.prog 195 [] [rowD a,rowD b,intsD cs] (I (cK (pkR cs) a b)) []:=by
 refine Bg c_Z39 mixed (go1 trivial ?_)
 refine dw_for (c:=0) (l:=fun i=>[(0,rowD a),(1,rowD b),(10,intsD cs),(11,I cs.length),(12,I i)]) cs.length (fun i=>∀ (j : Nat) (x y : V),j < i → (pkR cs a)[j]? = some x → (pkR cs b)[j]? = some y → cmpV x y = 0) 0 (fun j x y hj=>by omega) (Wk.list [] rfl rfl ?_) (fun i hi hJ=>?_) (Nat.zero_le _)
 ·repeat' (first|(conv in hold _=>simp (disch:=omega) only [go_sem])|exact trivial|exact Sub.refl _|omega)
  exact rfl
 ·rcases at_or_end hi with ⟨x,hx,hlt⟩ | rfl
  ·have hxr:=h x (List.mem_of_getElem? hx)
   obtain ⟨c,rfl⟩:=Int.eq_ofNat_of_zero_le hxr.1
   have hva:=pk_at (r:=a) (c:=c) (by omega)
   have hvb:=pk_at (r:=b) (c:=c) (by omega)
   have hpa:=pkR_at (a:=a) hx
   have hpb:=pkR_at (a:=b) hx
   have hca : (c : Int) < a.length:=hxr.2.1
   have hcb : (c : Int) < b.length:=hxr.2.2
   generalize a.getD c ⟨false,0⟩ = u at hva hpa
   generalize b.getD c ⟨false,0⟩ = v at hvb hpb
   have hc:=Value_compare_ok u v (ha u (List.mem_of_getElem? hva)) (hb v (List.mem_of_getElem? hvb))
   by_cases h0 : cmpV u v = 0
   ·refine go1 (cj3 @hx @hva @hvb) ?_
    refine Uc trivial (hc) (go1 trivial ?_)
    refine ⟨hlt,fun j x' y' hj hx' hy'=>?_,Wk.list [] rfl rfl ?_⟩
    ·by_cases hji : j = i
     ·subst hji
      rw [hpa] at hx'
      rw [hpb] at hy'
      cases hx'
      cases hy'
      exact h0
     ·exact hJ j x' y' (by omega) hx' hy'
    ·repeat' (first|(conv in hold _=>simp (disch:=omega) only [go_sem])|exact trivial|exact Sub.refl _|omega)
   ·unfold cK
    rw [cmpR_hit (pkR cs a) (pkR cs b) i u v hJ hpa hpb h0]
    refine go1 (cj3 @hx @hva @hvb) ?_
    exact Uc trivial (hc) (go0 trivial)
  ·unfold cK
   rw [cmpR_end (pkR cs a) (pkR cs b) (fun j x y hx hy=>hJ j x y (by have:=(List.getElem?_eq_some_iff.1 hx).1; rw [pkR_len] at this; exact this) hx hy),pkR_len,pkR_len,Int.sub_self]
   exact go0 trivial
theorem keyCols {w : Nat} (hw : w < 1000) (cs : List Int) (hl : cs.length ≤ 900) (hc : ∀ c,c ∈ cs → 0 ≤ c ∧ c < w) : KeyF 194 [.ptr [intsD cs]] (pkR cs) cs.length (okR w) where
 ent:=by kernel_rfl
 pur:=rfl
 call x y hx hy:=by
  have h:=compareColumns_ok cs x y (by omega) hx.2 hy.2 (by have:=hx.1; omega) (by have:=hy.1; omega) (fun c hm=>by have:=hc c hm; have:=hx.1; have:=hy.1; omega)
  refine Bg c_Z46 mixed (go1 trivial ?_)
  exact Uc trivial (h) (go0 trivial)
 wid x hx:=⟨pkR_len cs x,fun v hv=>by
  obtain ⟨c,hm,rfl⟩:=List.mem_map.1 hv
  have h1:=hc c hm
  obtain ⟨c,rfl⟩:=Int.eq_ofNat_of_zero_le h1.1
  have h2:=pk_at (r:=x) (c:=c) (by have:=hx.1; omega)
  exact hx.2 _ (List.mem_of_getElem? h2)⟩
theorem count_ok (g : List (List V)) : Does Tryz.prog 156 [] [rowsD g] (vD ⟨false,g.length⟩) []:=by
 exact Bg c_Z58 mixed (go0 trivial)
theorem groupedRows_ok (rs : List (List V)) (cs : List Int) : Does Tryz.prog 155 [] [rowsD rs,intsD cs,.fn 156 []] (.fn 196 [.ptr [rowsD rs],.ptr [.fn 194 [.ptr [intsD cs]]],.ptr [intsD cs],.ptr [.fn 156 []]]) []:=by
 refine Bg c_Z70 mixed (go1F trivial ?_)
 refine fin_wk (wk_fro2 6 2000007 2000004 (by decide) (by decide) (by decide) rfl (by decide) rfl ?_) ?_
 rotate_left
 (conv in hold _=>simp (disch:=omega) only [go_sem])
 ·refine fin_wk (wk_fro 6 2000003 (by decide) (by decide) rfl ?_) ?_
  rotate_left
  (conv in hold _=>simp (disch:=omega) only [go_sem])
  ·refine fin_wk (wk_fro 6 2000005 (by decide) (by decide) rfl ?_) ?_
   rotate_left
   (conv in hold _=>simp (disch:=omega) only [go_sem])
   ·refine fin_wk (wk_fro 6 2000007 (by decide) (by decide) rfl ?_) ?_
    rotate_left
    (conv in hold _=>simp (disch:=omega) only [go_sem])
    ·refine fin_L [] ?_ ?_ rfl ?_
     repeat' (first|(conv in hold _=>simp (disch:=omega) only [go_sem])|exact trivial|exact Sub.refl _|omega)
    ·rfl
   ·rfl
  ·rfl
 ·rfl
noncomputable def grpQ (cs : List Int) (rs : List (List V)) : List (List V):=(runK (pkR cs) (srK (pkR cs) rs)).map (fun g=>pkR cs (g.headD []) ++ [⟨false,g.length⟩])
theorem groupedRows_yields {w : Nat} (hw : w < 1000) (rs : List (List V)) (hs : RsW w rs) (hl : rs.length ≤ 400) (cs : List Int) (hcl : cs.length ≤ 900) (hc : ∀ c,c ∈ cs → 0 ≤ c ∧ c < w) :
  Yields Tryz.prog 196 [.ptr [rowsD rs],.ptr [.fn 194 [.ptr [intsD cs]]],.ptr [intsD cs],.ptr [.fn 156 []]] ((grpQ cs rs).map tupR):=by
 have hK:=keyCols hw cs hcl hc
 have hsp:=srK_perm hK.wid hs
 have hsa:=srK_asc hK.wid hs
 have h1:=sortedRows_ok hK rs hs (by omega)
 have h2:=runsOfK_ok hK (srK (pkR cs) rs)
 have hq : ∀ x,x ∈ srK (pkR cs) rs → okR w x:=fun x hx=>hs x (hsp.mem_iff.1 hx)
 have hsl:=hsp.length_eq
 have hY:=runsK_yields hK hq hsa (by omega)
 unfold grpQ
 have hne : ∀ g,g ∈ runK (pkR cs) (srK (pkR cs) rs) → g[0]? = some (g.headD []) ∧ 0 < g.length ∧ okR w (g.headD []):=fun g hg=>by
  cases g with
  | nil=>exact absurd rfl (runK_ne hg).1
  | cons x y=>exact ⟨rfl,Nat.succ_pos _,hq x (runK_sub hg (List.mem_cons_self ..))⟩
 generalize srK (pkR cs) rs = S at *
 have htk : (S.map rowD).take rs.length = S.map rowD:=by rw [← hsl]; exact take_all rowD S
 refine yields c_Z47 mixed (Nat.le_of_ble_eq_true rfl) (fun i e=>?_)
 conv=>arg 3; whnf
 refine go1 trivial ?_
 refine UcR [3000001] trivial (h1) (go1C trivial ?_)
 refine s_pre (pre_frz (t:=12) (g:=3000001) (by decide) (by decide) rfl ?_) ?_
 rotate_left
 refine go1 (cj2 @htk @hsl) ?_
 ·refine Uc trivial (h2) (go1 trivial ?_)
  generalize runK (pkR cs) S = G at hY hne
  by_cases hel : e < G.length
  ·refine dw_rngX 222 [.ptr [rowsD S],.ptr [.fn 194 [.ptr [intsD cs]]]] (G.map tupS) e 1 1 [(1,.ptr [rowsD rs]),(2,.ptr [.fn 194 [.ptr [intsD cs]]]),(3,.ptr [intsD cs]),(4,.ptr [.fn 156 []]),(5,.ref 1000000 0),(14,.fn 222 [.ptr [rowsD S],.ptr [.fn 194 [.ptr [intsD cs]]]])] (fun j=>[(1000000,.obj [.v (.func (.yield i) #[] #[])]),(gh,.gho i ((G.map (fun g=>pkR cs (g.headD []) ++ [⟨false,g.length⟩])).map tupR) e j)]) hY (by kernel_rfl) rfl (Nat.zero_le _) (Nat.le_refl _) (by decide) ?_ (fun j=>namesOK_of rfl) (Wk.list [2000005] rfl rfl ?_) rfl (fun j es h=>by obtain ⟨_,_,rfl⟩:=tupS_at h; rfl) (by rw [List.length_map]; exact hel) (fun j es hj h hp=>?_) (fun es h hp=>?_)
   ·simp (disch:=omega) only [go_sem,and_self,Nat.reduceLT]
   ·repeat' (first|(conv in hold _=>simp (disch:=omega) only [go_sem])|exact trivial|exact Sub.refl _|omega)
    try exact rfl
   ·obtain ⟨g,hg,rfl⟩:=tupS_at h
    obtain ⟨h0,hpos,hgo⟩:=hne g (List.mem_of_getElem? hg)
    have hct:=count_ok g
    have hpl:=pkR_len cs (g.headD [])
    have hat : ((G.map (fun g=>pkR cs (g.headD []) ++ [⟨false,g.length⟩])))[j]? = some (pkR cs (g.headD []) ++ [⟨false,g.length⟩]):=by rw [List.getElem?_map,hg]; rfl
    have hgl : ∀ c,c ∈ cs → 0 ≤ c ∧ c < (g.headD []).length:=fun c hm=>by rw [hgo.1]; exact hc c hm
    generalize hgd : g.headD [] = x at h0 hgo hpl hat hgl
    have hxo:=hgo.1
    refine go1 trivial ?_
    refine dw_for (c:=2) (l:=fun q=>[(1,.ptr [rowsD rs]),(2,.ptr [.fn 194 [.ptr [intsD cs]]]),(3,.ptr [intsD cs]),(4,.ptr [.fn 156 []]),(5,.ref 1000000 0),(6,rowsD g),(7,.own 1000001 2 q),(16,intsD cs),(17,I cs.length),(18,I q),(1000000,.obj [.v (.func (.yield i) #[] #[])]),(1000001,.row 2 (((pkR cs x).take q).map vD)),(gh,.gho i ((G.map (fun g=>pkR cs (g.headD []) ++ [⟨false,g.length⟩])).map tupR) e j)]) cs.length (fun _=>True) 0 trivial ((wk_row 7 2000090 2 (by decide) (by decide) rfl rfl).trans (Wk.list [1000000,2000090] rfl rfl ?_)) (fun q hq2 _=>?_) (Nat.zero_le _)
    ·repeat' (first|(conv in hold _=>simp (disch:=omega) only [go_sem])|exact trivial|exact Sub.refl _|omega)
     first | exact rfl | exact ⟨rfl,rfl⟩ | exact ⟨rfl,rfl,rfl⟩
    ·have hkl : ((pkR cs x).take q).length = q:=take_len (by rw [hpl]; exact hq2)
     have hkm : (((pkR cs x).take q).map vD).take q = ((pkR cs x).take q).map vD:=take_map vD (by rw [hpl]; exact hq2)
     rcases at_or_end hq2 with ⟨y,hy,hqlt⟩ | rfl
     ·have hyr:=hgl y (List.mem_of_getElem? hy)
      obtain ⟨c,rfl⟩:=Int.eq_ofNat_of_zero_le hyr.1
      have hv:=pk_at (r:=x) (c:=c) (by omega)
      have hnk : (pkR cs x).take (q + 1) = (pkR cs x).take q ++ [x.getD c ⟨false,0⟩]:=take_next (pkR_at hy)
      generalize x.getD c ⟨false,0⟩ = v at hv hnk
      have hcl2 : (c : Int) < x.length:=hyr.2
      refine go1 (cj4 @hy @h0 @hv @hkm) ?_
      refine ⟨hqlt,trivial,Wk.list [1000000,2000030] rfl rfl ?_⟩
      repeat' (first|(conv in hold _=>simp (disch:=omega) only [go_sem,hnk,hkm])|exact trivial|exact Sub.refl _|omega)
      rw [List.map_append]
      rfl
     ·have e1 : (pkR cs x).take cs.length = pkR cs x:=List.take_of_length_le (by rw [hpl]; exact Nat.le_refl _)
      have hfm : ((pkR cs x).map vD ++ [D.agg [Bo false,I g.length]]).take (cs.length + 1) = (pkR cs x).map vD ++ [D.agg [Bo false,I g.length]]:=List.take_of_length_le (by rw [List.length_append,List.length_map,hpl]; exact Nat.le_refl _)
      rw [e1] at hkm
      rw [e1]
      refine go1C trivial ?_
      refine go1 trivial ?_
      refine v_fn ((by kernel_rfl)) ?_
      refine Uc @hkm (hct) (go1C @hkm ?_)
      refine s_pre (pre_frz (t:=38) (g:=2000038) (by decide) (by decide) rfl ?_) ?_
      rotate_left
      refine go1 (cj3 @hfm @hkm @hpl) ?_
      ·refine v_yld (by ((conv=>lhs; simp (disch:=omega) only [go_sem]); try rfl)) ((show j ≤ e by omega)) ((by rw [List.getElem?_map,hat,Option.map_some,tupR,rowD,List.map_append]; rfl)) (by first | rfl | (simp only [go_sem])) ?_
       refine go1 trivial ?_
       refine Wk.list [1000000] rfl rfl ?_
       repeat' (first|(conv in hold _=>simp (disch:=omega) only [go_sem])|exact trivial|exact Sub.refl _|omega)
      ·exact (D.purL_iff.2 (fun d hd=>by
        rcases List.mem_append.1 hd with hd | hd
        ·exact D.purL_iff.1 (vals_pur (pkR cs x)) d hd
        ·obtain rfl:=List.mem_singleton.1 hd; rfl))
   ·obtain ⟨g,hg,rfl⟩:=tupS_at h
    obtain ⟨h0,hpos,hgo⟩:=hne g (List.mem_of_getElem? hg)
    have hct:=count_ok g
    have hpl:=pkR_len cs (g.headD [])
    have hat : ((G.map (fun g=>pkR cs (g.headD []) ++ [⟨false,g.length⟩])))[e]? = some (pkR cs (g.headD []) ++ [⟨false,g.length⟩]):=by rw [List.getElem?_map,hg]; rfl
    have hgl : ∀ c,c ∈ cs → 0 ≤ c ∧ c < (g.headD []).length:=fun c hm=>by rw [hgo.1]; exact hc c hm
    generalize hgd : g.headD [] = x at h0 hgo hpl hat hgl
    have hxo:=hgo.1
    refine go1 trivial ?_
    refine dw_for (c:=2) (l:=fun q=>[(1,.ptr [rowsD rs]),(2,.ptr [.fn 194 [.ptr [intsD cs]]]),(3,.ptr [intsD cs]),(4,.ptr [.fn 156 []]),(5,.ref 1000000 0),(6,rowsD g),(7,.own 1000001 2 q),(16,intsD cs),(17,I cs.length),(18,I q),(1000000,.obj [.v (.func (.yield i) #[] #[])]),(1000001,.row 2 (((pkR cs x).take q).map vD)),(gh,.gho i ((G.map (fun g=>pkR cs (g.headD []) ++ [⟨false,g.length⟩])).map tupR) e e)]) cs.length (fun _=>True) 0 trivial ((wk_row 7 2000090 2 (by decide) (by decide) rfl rfl).trans (Wk.list [1000000,2000090] rfl rfl ?_)) (fun q hq2 _=>?_) (Nat.zero_le _)
    ·repeat' (first|(conv in hold _=>simp (disch:=omega) only [go_sem])|exact trivial|exact Sub.refl _|omega)
     first | exact rfl | exact ⟨rfl,rfl⟩ | exact ⟨rfl,rfl,rfl⟩
    ·have hkl : ((pkR cs x).take q).length = q:=take_len (by rw [hpl]; exact hq2)
     have hkm : (((pkR cs x).take q).map vD).take q = ((pkR cs x).take q).map vD:=take_map vD (by rw [hpl]; exact hq2)
     rcases at_or_end hq2 with ⟨y,hy,hqlt⟩ | rfl
     ·have hyr:=hgl y (List.mem_of_getElem? hy)
      obtain ⟨c,rfl⟩:=Int.eq_ofNat_of_zero_le hyr.1
      have hv:=pk_at (r:=x) (c:=c) (by omega)
      have hnk : (pkR cs x).take (q + 1) = (pkR cs x).take q ++ [x.getD c ⟨false,0⟩]:=take_next (pkR_at hy)
      generalize x.getD c ⟨false,0⟩ = v at hv hnk
      have hcl2 : (c : Int) < x.length:=hyr.2
      refine go1 (cj4 @hy @h0 @hv @hkm) ?_
      refine ⟨hqlt,trivial,Wk.list [1000000,2000030] rfl rfl ?_⟩
      repeat' (first|(conv in hold _=>simp (disch:=omega) only [go_sem,hnk,hkm])|exact trivial|exact Sub.refl _|omega)
      rw [List.map_append]
      rfl
     ·have e1 : (pkR cs x).take cs.length = pkR cs x:=List.take_of_length_le (by rw [hpl]; exact Nat.le_refl _)
      have hfm : ((pkR cs x).map vD ++ [D.agg [Bo false,I g.length]]).take (cs.length + 1) = (pkR cs x).map vD ++ [D.agg [Bo false,I g.length]]:=List.take_of_length_le (by rw [List.length_append,List.length_map,hpl]; exact Nat.le_refl _)
      rw [e1] at hkm
      rw [e1]
      refine go1C trivial ?_
      refine go1 trivial ?_
      refine v_fn ((by kernel_rfl)) ?_
      refine Uc @hkm (hct) (go1C @hkm ?_)
      refine s_pre (pre_frz (t:=38) (g:=2000038) (by decide) (by decide) rfl ?_) ?_
      rotate_left
      refine go1 (cj3 @hfm @hkm @hpl) ?_
      ·refine v_yld (by ((conv=>lhs; simp (disch:=omega) only [go_sem]); try rfl)) ((Nat.le_refl e)) ((by rw [List.getElem?_map,hat,Option.map_some,tupR,rowD,List.map_append]; rfl)) (by first | rfl | (simp only [go_sem])) ?_
       refine go1 trivial ?_
       refine ⟨[(1000000,.obj [.v (.func (.yield i) #[] #[])]),(gh,.gho i ((G.map (fun g=>pkR cs (g.headD []) ++ [⟨false,g.length⟩])).map tupR) e (e + 1))],namesOK_of rfl,Wk.list [1000000] rfl rfl ?_,?_⟩
       ·repeat' (first|(conv in hold _=>simp (disch:=omega) only [go_sem])|exact trivial|exact Sub.refl _|omega)
       ·refine ⟨(e + 1),?_,?_⟩
        ·((conv=>lhs; simp (disch:=omega) only [go_sem]); try rfl)
        exact .inr ⟨rfl,by rw [List.length_map,List.length_map]; exact hel⟩
      ·exact (D.purL_iff.2 (fun d hd=>by
        rcases List.mem_append.1 hd with hd | hd
        ·exact D.purL_iff.1 (vals_pur (pkR cs x)) d hd
        ·obtain rfl:=List.mem_singleton.1 hd; rfl))
  ·refine dw_rng 222 [.ptr [rowsD S],.ptr [.fn 194 [.ptr [intsD cs]]]] (G.map tupS) 1 1 [(1,.ptr [rowsD rs]),(2,.ptr [.fn 194 [.ptr [intsD cs]]]),(3,.ptr [intsD cs]),(4,.ptr [.fn 156 []]),(5,.ref 1000000 0),(14,.fn 222 [.ptr [rowsD S],.ptr [.fn 194 [.ptr [intsD cs]]]])] (fun j=>[(1000000,.obj [.v (.func (.yield i) #[] #[])]),(gh,.gho i ((G.map (fun g=>pkR cs (g.headD []) ++ [⟨false,g.length⟩])).map tupR) e j)]) hY (by kernel_rfl) rfl (Nat.zero_le _) (Nat.le_refl _) (by decide) ?_ (fun j=>namesOK_of rfl) (Wk.list [2000005] rfl rfl ?_) rfl (fun j es h=>by obtain ⟨_,_,rfl⟩:=tupS_at h; rfl) (fun j es h hp=>?_) ?_
   ·simp (disch:=omega) only [go_sem,and_self,Nat.reduceLT]
   ·repeat' (first|(conv in hold _=>simp (disch:=omega) only [go_sem])|exact trivial|exact Sub.refl _|omega)
    try exact rfl
   ·obtain ⟨g,hg,rfl⟩:=tupS_at h
    have hjl:=(List.getElem?_eq_some_iff.1 hg).1
    obtain ⟨h0,hpos,hgo⟩:=hne g (List.mem_of_getElem? hg)
    have hct:=count_ok g
    have hpl:=pkR_len cs (g.headD [])
    have hat : ((G.map (fun g=>pkR cs (g.headD []) ++ [⟨false,g.length⟩])))[j]? = some (pkR cs (g.headD []) ++ [⟨false,g.length⟩]):=by rw [List.getElem?_map,hg]; rfl
    have hgl : ∀ c,c ∈ cs → 0 ≤ c ∧ c < (g.headD []).length:=fun c hm=>by rw [hgo.1]; exact hc c hm
    generalize hgd : g.headD [] = x at h0 hgo hpl hat hgl
    have hxo:=hgo.1
    refine go1 trivial ?_
    refine dw_for (c:=2) (l:=fun q=>[(1,.ptr [rowsD rs]),(2,.ptr [.fn 194 [.ptr [intsD cs]]]),(3,.ptr [intsD cs]),(4,.ptr [.fn 156 []]),(5,.ref 1000000 0),(6,rowsD g),(7,.own 1000001 2 q),(16,intsD cs),(17,I cs.length),(18,I q),(1000000,.obj [.v (.func (.yield i) #[] #[])]),(1000001,.row 2 (((pkR cs x).take q).map vD)),(gh,.gho i ((G.map (fun g=>pkR cs (g.headD []) ++ [⟨false,g.length⟩])).map tupR) e j)]) cs.length (fun _=>True) 0 trivial ((wk_row 7 2000090 2 (by decide) (by decide) rfl rfl).trans (Wk.list [1000000,2000090] rfl rfl ?_)) (fun q hq2 _=>?_) (Nat.zero_le _)
    ·repeat' (first|(conv in hold _=>simp (disch:=omega) only [go_sem])|exact trivial|exact Sub.refl _|omega)
     first | exact rfl | exact ⟨rfl,rfl⟩ | exact ⟨rfl,rfl,rfl⟩
    ·have hkl : ((pkR cs x).take q).length = q:=take_len (by rw [hpl]; exact hq2)
     have hkm : (((pkR cs x).take q).map vD).take q = ((pkR cs x).take q).map vD:=take_map vD (by rw [hpl]; exact hq2)
     rcases at_or_end hq2 with ⟨y,hy,hqlt⟩ | rfl
     ·have hyr:=hgl y (List.mem_of_getElem? hy)
      obtain ⟨c,rfl⟩:=Int.eq_ofNat_of_zero_le hyr.1
      have hv:=pk_at (r:=x) (c:=c) (by omega)
      have hnk : (pkR cs x).take (q + 1) = (pkR cs x).take q ++ [x.getD c ⟨false,0⟩]:=take_next (pkR_at hy)
      generalize x.getD c ⟨false,0⟩ = v at hv hnk
      have hcl2 : (c : Int) < x.length:=hyr.2
      refine go1 (cj4 @hy @h0 @hv @hkm) ?_
      refine ⟨hqlt,trivial,Wk.list [1000000,2000030] rfl rfl ?_⟩
      repeat' (first|(conv in hold _=>simp (disch:=omega) only [go_sem,hnk,hkm])|exact trivial|exact Sub.refl _|omega)
      rw [List.map_append]
      rfl
     ·have e1 : (pkR cs x).take cs.length = pkR cs x:=List.take_of_length_le (by rw [hpl]; exact Nat.le_refl _)
      have hfm : ((pkR cs x).map vD ++ [D.agg [Bo false,I g.length]]).take (cs.length + 1) = (pkR cs x).map vD ++ [D.agg [Bo false,I g.length]]:=List.take_of_length_le (by rw [List.length_append,List.length_map,hpl]; exact Nat.le_refl _)
      rw [e1] at hkm
      rw [e1]
      refine go1C trivial ?_
      refine go1 trivial ?_
      refine v_fn ((by kernel_rfl)) ?_
      refine Uc @hkm (hct) (go1C @hkm ?_)
      refine s_pre (pre_frz (t:=38) (g:=2000038) (by decide) (by decide) rfl ?_) ?_
      rotate_left
      refine go1 (cj3 @hfm @hkm @hpl) ?_
      ·refine v_yld (by ((conv=>lhs; simp (disch:=omega) only [go_sem]); try rfl)) ((show j ≤ e by omega)) ((by rw [List.getElem?_map,hat,Option.map_some,tupR,rowD,List.map_append]; rfl)) (by first | rfl | (simp only [go_sem])) ?_
       refine go1 trivial ?_
       refine Wk.list [1000000] rfl rfl ?_
       repeat' (first|(conv in hold _=>simp (disch:=omega) only [go_sem])|exact trivial|exact Sub.refl _|omega)
      ·exact (D.purL_iff.2 (fun d hd=>by
        rcases List.mem_append.1 hd with hd | hd
        ·exact D.purL_iff.1 (vals_pur (pkR cs x)) d hd
        ·obtain rfl:=List.mem_singleton.1 hd; rfl))
   ·rw [List.length_map]
    refine go1 trivial ?_
    refine ⟨G.length,?_,?_⟩
    ·((conv=>lhs; simp (disch:=omega) only [go_sem]); try rfl)
    exact .inl ⟨by rw [List.length_map,List.length_map],by rw [List.length_map,List.length_map]; omega⟩
 ·exact rows_pur _
end Go.Proofs.YtjngffbghkafaaaGreat

/-
  Which columns may be null: the methods of the visitor. No condition.
-/
import Derived.Test.YtefldihjbaodnaaGreatKSDca
import Derived.Test.YtefldihjbaodnaaGreatKSDcj
import Derived.Test.YtefldihjbaodnaaGreatJSVNlA
import Derived.Test.YtefldihjbaodnaaGreatJSVNlS
import Derived.Test.YtefldihjbaodnaaGreatJSDcWNlP
import Derived.Test.YtefldihjbaodnaaGreatJSVGo
set_option maxHeartbeats 4000000
set_option maxRecDepth 100000
set_option linter.unusedVariables false
set_option linter.unusedSimpArgs false
namespace Go.Proofs.YtefldihjbaodnaaGreat
open Go.RowKit
def flD (fl : List (List Bool)) : D:=.sl 1 (fl.map boolsD)
theorem fl_pur : ∀ fl : List (List Bool),D.purL (fl.map boolsD) = true
 | []=>rfl
 | l :: fl=>by rw [List.map_cons,D.purL,fl_pur fl]; rfl
theorem fl_ren (L : List Nat) (fl : List (List Bool)) : D.renL L (fl.map boolsD) = fl.map boolsD:=ren_pure.renL_pure L _ (fl_pur fl)
attribute [go_sem] flD fl_pur fl_ren
def nlV (fl : List (List Bool)) : D:=.ifc 77 (.agg [flD fl])
theorem nlV_ren (L : List Nat) (fl : List (List Bool)) : (nlV fl).ren L = nlV fl:=rfl
attribute [go_sem] nlV nlV_ren
theorem nm_scan : methOf Tryz.prog 77 name_impl_scan = some 245:=by kernel_rfl
theorem nm_filter : methOf Tryz.prog 77 name_impl_filter = some 240:=by kernel_rfl
theorem nm_project : methOf Tryz.prog 77 name_impl_project = some 244:=by kernel_rfl
theorem nm_join : methOf Tryz.prog 77 name_impl_join = some 242:=by kernel_rfl
theorem nm_leftJoin : methOf Tryz.prog 77 name_impl_leftJoin = some 243:=by kernel_rfl
theorem nm_union : methOf Tryz.prog 77 name_impl_union = some 246:=by kernel_rfl
theorem nm_distinct : methOf Tryz.prog 77 name_impl_distinct = some 239:=by kernel_rfl
theorem nm_group : methOf Tryz.prog 77 name_impl_group = some 241:=by kernel_rfl
theorem nn_filter : NilFree Tryz.prog 77 name_impl_filter:=fun v w=>by kernel_rfl
theorem nn_project : NilFree Tryz.prog 77 name_impl_project:=fun v w=>by kernel_rfl
theorem nn_join : NilFree Tryz.prog 77 name_impl_join:=fun v w=>by kernel_rfl
theorem nn_leftJoin : NilFree Tryz.prog 77 name_impl_leftJoin:=fun v w=>by kernel_rfl
theorem nn_union : NilFree Tryz.prog 77 name_impl_union:=fun v w=>by kernel_rfl
theorem nn_distinct : NilFree Tryz.prog 77 name_impl_distinct:=fun v w=>by kernel_rfl
theorem nn_group : NilFree Tryz.prog 77 name_impl_group:=fun v w=>by kernel_rfl
theorem stillB {f : FuncId} {ds : List D} {l : List Bool} {n : Nat} (hn : l.length = n) (h : Does Tryz.prog f [] ds (.own 1000000 1 n) [.row 1 (l.map Bo)]) : Does Tryz.prog f [] ds (boolsD l) []:=
 h.still (flats_1 (flatRow_map Bo 1 l (fun a c hc=>⟨_,List.mem_singleton.1 hc⟩))) (Lent.row 0 rfl ((List.length_map ..).trans hn) _ rfl)
theorem bool_at {l : List Bool} {i : Nat} (h : i < l.length) : ∃ b,l[i]? = some b ∧ l.getD i false = b:=⟨l[i],List.getElem?_eq_getElem h,by rw [List.getD_eq_getElem?_getD,List.getElem?_eq_getElem h]; rfl⟩
theorem stO_at {l : List Bool} {i : Nat} {b : Bool} (h : l[i]? = some b) : (stO l)[i]? = some (if b = true then 7 else 3):=by
 unfold stO
 rw [List.getElem?_map,h]
 rfl
theorem statesOf_own (l : List Bool) (hl : l.length ≤ 1000) : Does Tryz.prog 247 [] [boolsD l] (.own 1000000 1 l.length) [.row 1 ((stO l).map I)]:=by
 have hsl:=stO_len l
 refine Bk c_Z159 mixed 0 (go1 trivial ?_)
 refine dw_for (c:=1) (l:=fun i=>[(3,.own 1000000 1 i),(6,boolsD l),(7,I l.length),(8,I i),(1000000,.row 1 (((stO l).take i).map I))]) l.length (fun _=>True) 0 trivial ((wk_row 3 2000090 1 (by decide) (by decide) rfl rfl).trans (Wk.list [2000090] rfl rfl ?_)) (fun i hi _=>?_) (Nat.zero_le _)
 ·repeat' (first|(conv in hold _=>simp (disch:=omega) only [go_sem])|exact trivial|exact Sub.refl _|omega)
  (repeat' apply And.intro) <;> rfl
 ·have htm : (((stO l).take i).map I).take i = ((stO l).take i).map I:=take_map I (by omega)
  have htl : ((stO l).take i).length = i:=take_len (by omega)
  rcases at_or_end hi with ⟨b,hb,hlt⟩ | rfl
  ·have hnx:=take_next (stO_at hb)
   cases b with
   | true=>
    have hnx : (stO l).take (i + 1) = (stO l).take i ++ [7]:=hnx
    refine go1 (cj2 @hb @htm) ?_
    refine ⟨hlt,trivial,Wk.list [2000015] rfl rfl ?_⟩
    repeat' (first|(conv in hold _=>simp (disch:=omega) only [go_sem,hnx,htm,List.length_map,htl])|exact trivial|exact Sub.refl _|omega)
    rw [List.map_append]
    rfl
   | false=>
    have hnx : (stO l).take (i + 1) = (stO l).take i ++ [3]:=hnx
    refine go1 (cj2 @hb @htm) ?_
    refine ⟨hlt,trivial,Wk.list [2000018] rfl rfl ?_⟩
    repeat' (first|(conv in hold _=>simp (disch:=omega) only [go_sem,hnx,htm,List.length_map,htl])|exact trivial|exact Sub.refl _|omega)
    rw [List.map_append]
    rfl
  ·have e1 : (stO l).take l.length = stO l:=List.take_of_length_le (by omega)
   rw [e1]
   refine go1 trivial ?_
   refine fin_L [1000000] ?_ ?_ rfl ?_
   repeat' (first|(conv in hold _=>simp (disch:=omega) only [go_sem])|exact trivial|exact Sub.refl _|omega)
theorem statesOf_ok (l : List Bool) (hl : l.length ≤ 1000) : Does Tryz.prog 247 [] [boolsD l] (intsD (stO l)) []:=by
 have hsl:=stO_len l
 have htk : ((stO l).map I).take l.length = (stO l).map I:=by rw [← hsl]; exact take_all I _
 refine Bg c_Z159 mixed (go1 trivial ?_)
 refine dw_for (c:=1) (l:=fun i=>[(3,.own 1000000 1 i),(6,boolsD l),(7,I l.length),(8,I i),(1000000,.row 1 (((stO l).take i).map I))]) l.length (fun _=>True) 0 trivial ((wk_row 3 2000090 1 (by decide) (by decide) rfl rfl).trans (Wk.list [2000090] rfl rfl ?_)) (fun i hi _=>?_) (Nat.zero_le _)
 ·repeat' (first|(conv in hold _=>simp (disch:=omega) only [go_sem])|exact trivial|exact Sub.refl _|omega)
  (repeat' apply And.intro) <;> rfl
 ·have htm : (((stO l).take i).map I).take i = ((stO l).take i).map I:=take_map I (by omega)
  have htl : ((stO l).take i).length = i:=take_len (by omega)
  rcases at_or_end hi with ⟨b,hb,hlt⟩ | rfl
  ·have hnx:=take_next (stO_at hb)
   cases b with
   | true=>
    have hnx : (stO l).take (i + 1) = (stO l).take i ++ [7]:=hnx
    refine go1 (cj2 @hb @htm) ?_
    refine ⟨hlt,trivial,Wk.list [2000015] rfl rfl ?_⟩
    repeat' (first|(conv in hold _=>simp (disch:=omega) only [go_sem,hnx,htm,List.length_map,htl])|exact trivial|exact Sub.refl _|omega)
    rw [List.map_append]
    rfl
   | false=>
    have hnx : (stO l).take (i + 1) = (stO l).take i ++ [3]:=hnx
    refine go1 (cj2 @hb @htm) ?_
    refine ⟨hlt,trivial,Wk.list [2000018] rfl rfl ?_⟩
    repeat' (first|(conv in hold _=>simp (disch:=omega) only [go_sem,hnx,htm,List.length_map,htl])|exact trivial|exact Sub.refl _|omega)
    rw [List.map_append]
    rfl
  ·have e1 : (stO l).take l.length = stO l:=List.take_of_length_le (by omega)
   rw [e1]
   refine go1F trivial ?_
   refine fin_wk (wk_frz 2 1000000 (by decide) (by decide) rfl ?_) ?_
   rotate_left
   (conv in hold _=>simp (disch:=omega) only [go_sem,htk,hsl,List.length_map,Nat.le_refl])
   ·refine fin_L [] ?_ ?_ rfl ?_
    repeat' (first|(conv in hold _=>simp (disch:=omega) only [go_sem])|exact trivial|exact Sub.refl _|omega)
   ·exact ints_pur _
section
variable (fl : List (List Bool)) (p : Pl)
theorem n_scan {l : List Bool} {j : Nat} (ht : p.t = (j : Int)) (h : fl[j]? = some l) : Does Tryz.prog 245 [] [.agg [flD fl],pD p] (boolsD l) []:=by
 have hj : ((j : Int)).toNat = j:=rfl
 have hlt:=(List.getElem?_eq_some_iff.1 h).1
 exact Bg c_Z49 mixed (go0 (cj3 @ht @h @hj))
theorem n_distinct (l : List Bool) : Does Tryz.prog 239 [] [.agg [flD fl],pD p,boolsD l] (boolsD l) []:=by
 exact Bg c_Z28 mixed (go0 trivial)
theorem n_join (a b : List Bool) (h0 : 0 < a.length + b.length) (hl : a.length + b.length ≤ 1000) : Does Tryz.prog 242 [] [.agg [flD fl],pD p,boolsD a,boolsD b] (boolsD (a ++ b)) []:=by
 have hc:=stillB List.length_append (concatB_own a b h0 (by omega))
 refine Bg c_Z48 mixed (go1 trivial ?_)
 exact Uc trivial (hc) (go0 trivial)
theorem n_left (a b : List Bool) (h0 : 0 < b.length) (hl : a.length + b.length ≤ 1000) : Does Tryz.prog 243 [] [.agg [flD fl],pD p,boolsD a,boolsD b] (boolsD (a ++ List.replicate b.length true)) []:=by
 have hr:=repeatB_own true b.length h0 (by omega)
 have hc:=concatB_own a (List.replicate b.length true) (by rw [List.length_replicate]; omega) (by rw [List.length_replicate]; omega)
 rw [List.length_replicate] at hc
 have hrm : List.replicate b.length (Bo true) = (List.replicate b.length true).map Bo:=by rw [List.map_replicate]
 rw [hrm] at hr
 have hr:=stillB (List.length_replicate ..) hr
 have hc:=stillB (List.length_append.trans (by rw [List.length_replicate])) hc
 generalize List.replicate b.length true = ts at *
 refine Bg c_Z29 mixed (go1 trivial ?_)
 refine Uc trivial (hr) (go1 trivial ?_)
 exact Uc trivial (hc) (go0 trivial)
theorem orN_at {a b : List Bool} {i : Nat} {x y : Bool} (hx : a[i]? = some x) (hy : b[i]? = some y) : (orN a b)[i]? = some (x || y):=by
 unfold orN
 rw [List.getElem?_map,List.getElem?_range (List.getElem?_eq_some_iff.1 hx).1,Option.map_some,List.getD_eq_getElem?_getD,List.getD_eq_getElem?_getD,hx,hy]
 rfl
theorem n_union (a b : List Bool) (he : a.length = b.length) (hl : a.length ≤ 1000) : Does Tryz.prog 246 [] [.agg [flD fl],pD p,boolsD a,boolsD b] (boolsD (orN a b)) []:=by
 have hol : (orN a b).length = a.length:=by unfold orN; rw [List.length_map,List.length_range]
 have htk : ((orN a b).map Bo).take a.length = (orN a b).map Bo:=by rw [← hol]; exact take_all Bo _
 refine Bg c_Z40 mixed (go1 trivial ?_)
 refine dw_for (c:=1) (l:=fun i=>[(2,boolsD a),(3,boolsD b),(9,.own 1000000 1 i),(12,I a.length),(13,I i),(1000000,.row 1 (((orN a b).take i).map Bo))]) a.length (fun _=>True) 0 trivial ((wk_row 9 2000090 1 (by decide) (by decide) rfl rfl).trans (Wk.list [2000090] rfl rfl ?_)) (fun i hi _=>?_) (Nat.zero_le _)
 ·repeat' (first|(conv in hold _=>simp (disch:=omega) only [go_sem])|exact trivial|exact Sub.refl _|omega)
  (repeat' apply And.intro) <;> rfl
 ·have htm : (((orN a b).take i).map Bo).take i = ((orN a b).take i).map Bo:=take_map Bo (by omega)
  have htl : ((orN a b).take i).length = i:=take_len (by omega)
  rcases at_or_end hi with ⟨x,hx,hlt⟩ | rfl
  ·obtain ⟨y,hy,_⟩:=bool_at (l:=b) (i:=i) (by omega)
   have hnx:=take_next (orN_at hx hy)
   cases x with
   | true=>
    have hnx : (orN a b).take (i + 1) = (orN a b).take i ++ [true]:=hnx
    refine go1 (cj3 @hx @hy @htm) ?_
    refine ⟨hlt,trivial,Wk.list [2000028] rfl rfl ?_⟩
    repeat' (first|(conv in hold _=>simp (disch:=omega) only [go_sem,hnx,htm,List.length_map,htl])|exact trivial|exact Sub.refl _|omega)
    rw [List.map_append]
    rfl
   | false=>
    have hnx : (orN a b).take (i + 1) = (orN a b).take i ++ [y]:=hnx
    refine go1 (cj3 @hx @hy @htm) ?_
    refine ⟨hlt,trivial,Wk.list [2000028] rfl rfl ?_⟩
    repeat' (first|(conv in hold _=>simp (disch:=omega) only [go_sem,hnx,htm,List.length_map,htl])|exact trivial|exact Sub.refl _|omega)
    rw [List.map_append]
    rfl
  ·have e1 : (orN a b).take a.length = orN a b:=List.take_of_length_le (by omega)
   rw [e1]
   refine go1F trivial ?_
   refine fin_wk (wk_frz 8 1000000 (by decide) (by decide) rfl ?_) ?_
   rotate_left
   (conv in hold _=>simp (disch:=omega) only [go_sem,htk,hol,List.length_map,Nat.le_refl])
   ·refine fin_L [] ?_ ?_ rfl ?_
    repeat' (first|(conv in hold _=>simp (disch:=omega) only [go_sem])|exact trivial|exact Sub.refl _|omega)
   ·exact bools_pur _
theorem n_project {l : List Bool} (hl : l.length ≤ 1000) (hel : p.es.length ≤ 1000) (ho : ∀ e,e ∈ p.es → Does Tryz.prog 248 [] [eD e,intsD (stO l)] (I (oc e (stO l))) []) : Does Tryz.prog 244 [] [.agg [flD fl],pD p,boolsD l] (boolsD (prjN p.es l)) []:=by
 have hs:=statesOf_ok l hl
 have hol : (prjN p.es l).length = p.es.length:=List.length_map _
 have htk : ((prjN p.es l).map Bo).take p.es.length = (prjN p.es l).map Bo:=by rw [← hol]; exact take_all Bo _
 refine Bg c_Z31 mixed (go1 trivial ?_)
 refine Uc trivial (hs) (go1 trivial ?_)
 refine dw_for (c:=2) (l:=fun i=>[(4,.ref 1000000 0),(7,intsD (stO l)),(8,.own 1000001 1 i),(14,.sl 5 (p.es.map eD)),(15,I p.es.length),(16,I i),(1000000,.obj [I p.k,I p.t,.sl 5 (p.es.map eD),intsD p.cs,.sl 5 (p.ks.map pD)]),(1000001,.row 1 (((prjN p.es l).take i).map Bo))]) p.es.length (fun _=>True) 0 trivial ((wk_row 8 2000090 1 (by decide) (by decide) rfl rfl).trans (Wk.list [2000004,2000090] rfl rfl ?_)) (fun i hi _=>?_) (Nat.zero_le _)
 ·repeat' (first|(conv in hold _=>simp (disch:=omega) only [go_sem])|exact trivial|exact Sub.refl _|omega)
  (repeat' apply And.intro) <;> rfl
 ·have htm : (((prjN p.es l).take i).map Bo).take i = ((prjN p.es l).take i).map Bo:=take_map Bo (by omega)
  have htl : ((prjN p.es l).take i).length = i:=take_len (by omega)
  rcases at_or_end hi with ⟨e,hei,hlt⟩ | rfl
  ·have hoe:=ho e (List.mem_of_getElem? hei)
   have hnx : (prjN p.es l).take (i + 1) = (prjN p.es l).take i ++ [intBit .and .i64 (oc e (stO l)) 4 != 0]:=take_next (by unfold prjN; rw [List.getElem?_map,hei]; rfl)
   generalize oc e (stO l) = o at *
   refine go1 (cj2 @hei @htm) ?_
   refine Uc (cj2 @hei @htm) (hoe) (go1 (cj2 @hei @htm) ?_)
   refine ⟨hlt,trivial,Wk.list [1000000,2000027] rfl rfl ?_⟩
   repeat' (first|(conv in hold _=>simp (disch:=omega) only [go_sem,hnx,htm,List.length_map,htl])|exact trivial|exact Sub.refl _|omega)
   rw [List.map_append]
   rfl
  ·have e1 : (prjN p.es l).take p.es.length = prjN p.es l:=List.take_of_length_le (by omega)
   rw [e1]
   refine go1F trivial ?_
   refine fin_wk (wk_frz 6 1000001 (by decide) (by decide) rfl ?_) ?_
   rotate_left
   (conv in hold _=>simp (disch:=omega) only [go_sem,htk,hol,List.length_map,Nat.le_refl])
   ·refine fin_L [] ?_ ?_ rfl ?_
    repeat' (first|(conv in hold _=>simp (disch:=omega) only [go_sem])|exact trivial|exact Sub.refl _|omega)
   ·exact bools_pur _
theorem filN_at {e : E} {l : List Bool} {i : Nat} {b : Bool} (h : l[i]? = some b) : (filN e l)[i]? = some (b && (intBit .and .i64 (oc e ((stO l).set i 4)) 2 != 0)):=by
 unfold filN
 rw [List.getElem?_map,List.getElem?_range (List.getElem?_eq_some_iff.1 h).1,Option.map_some,List.getD_eq_getElem?_getD,h]
 rfl
theorem n_filter {l : List Bool} {e : E} (hes : p.es = [e]) (hl : l.length ≤ 1000) (ho : ∀ i,i < l.length → Does Tryz.prog 248 [] [eD e,intsD ((stO l).set i 4)] (I (oc e ((stO l).set i 4))) []) : Does Tryz.prog 240 [] [.agg [flD fl],pD p,boolsD l] (boolsD (filN e l)) []:=by
 have hs:=statesOf_own l hl
 have hsl:=stO_len l
 have hol : (filN e l).length = l.length:=by unfold filN; rw [List.length_map,List.length_range]
 have htk : ((filN e l).map Bo).take l.length = (filN e l).map Bo:=by rw [← hol]; exact take_all Bo _
 refine Bg c_Z35 mixed (go1 @hes ?_)
 refine dw_for (c:=2) (l:=fun i=>[(2,boolsD l),(4,.ref 1000000 0),(7,.own 1000001 1 i),(11,boolsD l),(12,I l.length),(13,I i),(1000000,.obj [I p.k,I p.t,.sl 5 [eD e],intsD p.cs,.sl 5 (p.ks.map pD)]),(1000001,.row 1 (((filN e l).take i).map Bo))]) l.length (fun _=>True) 0 trivial ((wk_row 7 2000090 1 (by decide) (by decide) rfl rfl).trans (Wk.list [2000004,2000090] rfl rfl ?_)) (fun i hi _=>?_) (Nat.zero_le _)
 ·repeat' (first|(conv in hold _=>simp (disch:=omega) only [go_sem,hes])|exact trivial|exact Sub.refl _|omega)
  (repeat' apply And.intro) <;> first | rfl | (rw [hes]; rfl)
 ·have htm : (((filN e l).take i).map Bo).take i = ((filN e l).take i).map Bo:=take_map Bo (by omega)
  have htl : ((filN e l).take i).length = i:=take_len (by omega)
  rcases at_or_end hi with ⟨b,hb,hlt⟩ | rfl
  ·have hoe:=ho i hlt
   have hnx:=take_next (filN_at (e:=e) hb)
   obtain ⟨z,hz⟩ : ∃ z,(stO l)[i]? = some z:=⟨_,List.getElem?_eq_getElem (by omega)⟩
   have hset : ((stO l).map I).set i (I 4) = ((stO l).set i 4).map I:=List.map_set.symm
   have hsl2 : ((stO l).set i 4).length = l.length:=by rw [List.length_set]; exact hsl
   have htk2 : (((stO l).set i 4).map I).take l.length = ((stO l).set i 4).map I:=by rw [← hsl2]; exact take_all I _
   generalize oc e ((stO l).set i 4) = o at *
   cases b with
   | true=>
    have hnx : (filN e l).take (i + 1) = (filN e l).take i ++ [intBit .and .i64 o 2 != 0]:=hnx.trans (by rw [Bool.true_and])
    refine go1 (cj2 @hb @htm) ?_
    refine UcR [3000001] (cj5 @hb @hz @htm @hsl @hset) (hs) (go1C (cj5 @hb @hz @htm @hsl @hset) ?_)
    refine s_pre (pre_frz (t:=30) (g:=3000001) (by decide) (by decide) rfl ?_) ?_
    rotate_left
    refine go1 (cj3 @htk2 @hsl2 @hset) ?_
    ·refine Uc @htm (hoe) (go1 @htm ?_)
     refine ⟨hlt,trivial,Wk.list [1000000,2000036] rfl rfl ?_⟩
     repeat' (first|(conv in hold _=>simp (disch:=omega) only [go_sem,hnx,htm,List.length_map,htl])|exact trivial|exact Sub.refl _|omega)
     rw [List.map_append]
     rfl
    ·exact ints_pur _
   | false=>
    have hnx : (filN e l).take (i + 1) = (filN e l).take i ++ [false]:=hnx
    refine go1 (cj2 @hb @htm) ?_
    refine UcR [3000001] (cj5 @hb @hz @htm @hsl @hset) (hs) (go1 (cj5 @hb @hz @htm @hsl @hset) ?_)
    refine ⟨hlt,trivial,Wk.list [1000000,2000036] rfl rfl ?_⟩
    repeat' (first|(conv in hold _=>simp (disch:=omega) only [go_sem,hnx,htm,List.length_map,htl])|exact trivial|exact Sub.refl _|omega)
    rw [List.map_append]
    rfl
  ·have e1 : (filN e l).take l.length = filN e l:=List.take_of_length_le (by omega)
   rw [e1]
   refine go1F trivial ?_
   refine fin_wk (wk_frz 6 1000001 (by decide) (by decide) rfl ?_) ?_
   rotate_left
   (conv in hold _=>simp (disch:=omega) only [go_sem,htk,hol,List.length_map,Nat.le_refl])
   ·refine fin_L [] ?_ ?_ rfl ?_
    repeat' (first|(conv in hold _=>simp (disch:=omega) only [go_sem])|exact trivial|exact Sub.refl _|omega)
   ·exact bools_pur _
theorem n_group {l : List Bool} {w : Nat} (hw : l.length = w) (hw1 : w ≤ 1000) (hcl : p.cs.length ≤ 1000) (hc : ∀ c,c ∈ p.cs → 0 ≤ c ∧ c < w) : Does Tryz.prog 241 [] [.agg [flD fl],pD p,boolsD l] (boolsD (grpN p.cs l)) []:=by
 have hml : (p.cs.map (fun c=>l.getD c.toNat false)).length = p.cs.length:=List.length_map _
 have hgr : grpN p.cs l = p.cs.map (fun c=>l.getD c.toNat false) ++ [false]:=rfl
 rw [hgr]
 generalize hm : p.cs.map (fun c=>l.getD c.toNat false) = m at *
 have hma : ∀ (i : Nat) (c : Int),p.cs[i]? = some c → m[i]? = some (l.getD c.toNat false):=fun i c h=>by rw [← hm,List.getElem?_map,h]; rfl
 have htk : (m.map Bo ++ [Bo false]).take (p.cs.length + 1) = (m ++ [false]).map Bo:=by rw [List.map_append]; exact List.take_of_length_le (by rw [List.length_append,List.length_map,hml]; exact Nat.le_refl _)
 have htm0 : (m.map Bo).take p.cs.length = m.map Bo:=by rw [← hml]; exact take_all Bo _
 refine Bg c_Z39 mixed (go1 trivial ?_)
 refine dw_for (c:=2) (l:=fun i=>[(2,boolsD l),(4,.ref 1000000 0),(7,.own 1000001 1 i),(11,intsD p.cs),(12,I p.cs.length),(13,I i),(1000000,.obj [I p.k,I p.t,.sl 5 (p.es.map eD),intsD p.cs,.sl 5 (p.ks.map pD)]),(1000001,.row 1 ((m.take i).map Bo))]) p.cs.length (fun _=>True) 0 trivial ((wk_row 7 2000090 1 (by decide) (by decide) rfl rfl).trans (Wk.list [2000004,2000090] rfl rfl ?_)) (fun i hi _=>?_) (Nat.zero_le _)
 ·repeat' (first|(conv in hold _=>simp (disch:=omega) only [go_sem])|exact trivial|exact Sub.refl _|omega)
  (repeat' apply And.intro) <;> rfl
 ·have htm : ((m.take i).map Bo).take i = (m.take i).map Bo:=take_map Bo (by omega)
  have htl : (m.take i).length = i:=take_len (by omega)
  rcases at_or_end hi with ⟨c,hci,hlt⟩ | rfl
  ·obtain ⟨c0,c1⟩:=hc c (List.mem_of_getElem? hci)
   obtain ⟨k,rfl⟩:=Int.eq_ofNat_of_zero_le c0
   obtain ⟨b,hb,hgb⟩:=bool_at (l:=l) (i:=k) (by omega)
   have hnx:=take_next (hma i _ hci)
   rw [Int.toNat_natCast,hgb] at hnx
   refine go1 (cj3 @hci @hb @htm) ?_
   refine ⟨hlt,trivial,Wk.list [1000000,2000023] rfl rfl ?_⟩
   repeat' (first|(conv in hold _=>simp (disch:=omega) only [go_sem,hnx,htm,List.length_map,htl])|exact trivial|exact Sub.refl _|omega)
   rw [List.map_append]
   rfl
  ·have e1 : m.take p.cs.length = m:=List.take_of_length_le (by omega)
   rw [e1]
   refine go1F (cj2 @htm0 @hml) ?_
   refine fin_wk (wk_frz 6 2000027 (by decide) (by decide) rfl ?_) ?_
   rotate_left
   (conv in hold _=>simp (disch:=omega) only [go_sem,htk,htm0,hml,List.length_map,List.length_append,Nat.le_refl])
   ·refine fin_L [] ?_ ?_ rfl ?_
    repeat' (first|(conv in hold _=>simp (disch:=omega) only [go_sem])|exact trivial|exact Sub.refl _|omega)
   ·exact D.purL_iff.2 (fun d hd=>by
     rcases List.mem_append.1 hd with h | h
     ·obtain ⟨b,_,rfl⟩:=List.mem_map.1 h; rfl
     ·rw [List.mem_singleton.1 h]; rfl)
end
end Go.Proofs.YtefldihjbaodnaaGreat

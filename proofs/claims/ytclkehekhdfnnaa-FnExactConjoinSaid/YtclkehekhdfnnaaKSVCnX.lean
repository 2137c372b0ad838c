/-
  Conjunctions of lists of any length, the answer a tree of one's own. No condition.
-/
import Derived.Test.YtclkehekhdfnnaaKSDca
import Derived.Test.YtclkehekhdfnnaaKSDcd
import Derived.Test.YtclkehekhdfnnaaKSVCn
import Derived.Test.YtclkehekhdfnnaaKSVClN
import Derived.Test.YtclkehekhdfnnaaKSVLawX
set_option maxHeartbeats 4000000
set_option maxRecDepth 100000
set_option linter.unusedVariables false
set_option linter.unusedSimpArgs false
namespace Go.Proofs.Ytclkehekhdfnnaa
open Go.RowKit
def clE (e : E) : List (List TB × Nat):=[([],0),([tb1 0 5 (e.ks.map eD)],1)]
theorem rcE_of {P : Program} {xo : List Nat} {f : FuncId} {n : Nat} {dc : DC} {rs : List Res} (hc : cfun P xo f = some (n,dc,rs)) (hm : P.follows .mixedOrders = true) {ds : List D} (e : E) (hl : ds.length ≤ n)
  (hd : ∀ m0,dwp P 0 dc (hold (entYC 0 [.fam (famOf (fmB (clE e)) 0 m0)] 0 0 ds)) (FinRC rs (eK 0 e) (fmB (clE e)) 0 m0 1) (fun _ _=>False) (FinRC rs (eK 0 e) (fmB (clE e)) 0 m0 1)) : RCalls P f [] ds [⟨0,5,e.ks.map eD⟩] 1 (eK 0 e):=by
 refine rcalls_of hc hm (fmB (clE e)) 0 1 (fun κ=>if κ = 0 then 0 else 2000000) hl (eK_low _ _) rfl (List.Perm.refl _) (List.Perm.refl _) (fun it hit _=>?_) (fun κ h=>absurd h (Nat.not_lt_zero κ)) (fun κ hκ=>?_) (Nat.zero_le _) (by omega) (fun m0=>?_)
 ·obtain rfl:=List.mem_singleton.1 hit
  exact Nat.zero_lt_one
 ·show nb ≤ if κ = 0 then _ else 2000000
  rw [if_neg (by omega)]; decide
 ·have e : (eK 0 e).rk (fun κ=>if κ = 0 then 0 else 2000000) = eK 0 e:=by
   rw [eK_rk,if_pos rfl]
  rw [e]
  exact hd m0
theorem rcE_leaf {P : Program} {f : FuncId} {ds : List D} {e : E} (h : Does P f [] ds (eD e) []) (h0 : e.ks = []) (hp : D.purL ds = true) : RCalls P f [] ds [⟨0,5,e.ks.map eD⟩] 1 (eK 0 e):=by
 have h1 : eK 0 e = eD e:=eK_leaf h0 0
 rw [h1,h0]
 rw [eD_eq,h0] at h ⊢
 exact (rcalls_nil (post:=[⟨0,5,[]⟩]) (top':=0) h hp rfl (fun it hit=>by obtain rfl:=List.mem_singleton.1 hit; rfl)).top (by omega)
theorem Conjoin_rc (l : List E) (hl : l.length ≤ 1048576) : RCalls Try.prog 20 [] [.sl 5 (l.map eD)] [⟨0,5,(cnV l).ks.map eD⟩] 1 (eK 0 (cnV l)):=by
 have hi:=Conjoin_impl l hl
 by_cases hok : l.length ≤ 9 ∧ eOk (cn l) 6 8
 ·rw [cnV_t hok.1 hok.2] at hi ⊢
  cases l with
  | nil=>exact rcE_leaf hi rfl rfl
  | cons x r=>
   obtain ⟨h9,hok⟩:=hok
   rw [List.length_cons] at h9
   have hlm : ((x :: r).map eD).length = r.length + 1:=by rw [List.length_map,List.length_cons]
   have hg0 : ((x :: r).map eD)[0]? = some (eD x):=rfl
   have hdr : ((x :: r).map eD).drop 1 = r.map eD:=rfl
   have hve:=implValidExpr_ok (cn (x :: r)) 6
   rw [decide_eq_true ⟨by decide,hok⟩] at hve
   have hsm:=esz_small _ 8 hok (by decide)
   have hcl:=cloneExpr_rc (cn (x :: r)) (by omega)
   rw [eD_eq] at hcl
   obtain ⟨D0,hD0⟩ : ∃ D0,D0 = (x :: r).map eD:=⟨_,rfl⟩
   rw [← hD0] at hlm hg0 hdr ⊢
   have hxe:=eD_eq x
   have htk : D0.take (r.length + 1) = D0:=List.take_of_length_le (by omega)
   have hlen1 : ((r.length : Int) + 1 == 0) = false:=by rw [beq_eq_false_iff_ne]; omega
   have htn : ((r.length : Int) + 1).toNat = r.length + 1:=by omega
   have hrl : (r.map eD).length = r.length:=List.length_map _
   refine rcE_of c_Z21 mixed (cn (x :: r)) (Nat.le_of_ble_eq_true rfl) (fun m0=>?_)
   unfold eK
   rcases kD_two 0 5 ((cn (x :: r)).ks.map eD) with k1 | k1
   all_goals (
    have k2 : (eK 0 (cn (x :: r))).rk (keyR [] 0) = .agg [I (cn (x :: r)).k,I (cn (x :: r)).c,Bo (cn (x :: r)).v.b,I (cn (x :: r)).v.n,kD 0 5 ((cn (x :: r)).ks.map eD)]:=eK_rk _ _ _
    rw [k1] at k2 ⊢
    conv=>arg 3; whnf
    repeat' (first|with_reducible refine acc_none ?_ | (conv in hold _=>simp (disch:=omega) only [go_sem,hlm,hg0,hdr,hlen1,htk,htn,hrl])|refine Stp.go ?_|(with_reducible first|refine it_pos rfl ?_|refine it_neg (by decide) ?_|refine st_nil rfl ?_|refine s_op ?_ ?_|exact trivial)|((with_reducible first|refine dw_reg0 ?_|refine dw_regB ?_);(conv=>arg 3;whnf))|(refine Spl.go (fun hq he=>?_) (fun hq he=>?_)<;>first|(exfalso;clear hq;omega)|((try first|(conv=>arg 8;simp only [hq])|(conv=>arg 4;simp only [hq]));clear hq))|((with_reducible first|refine c_split (fun hq=>?_) (fun hq=>?_)|refine q_split (fun hq=>?_) (fun hq=>?_))<;>(try first|(conv=>arg 8;simp only [hq])|(conv=>arg 4;simp only [hq])))|(with_reducible refine fin_0 ?_ (by first|rfl|(conv=>lhs;simp only [go_sem,hlm,hg0,hdr,hlen1,htk,htn,hrl])) ?_)|exact Sub.refl _|omega)
    refine dw_for (c:=2) (l:=fun j=>[(gh,.gho 0 [.fam (famOf (fmB (clE (cn (x :: r)))) 0 m0)] 0 0),(2,.ref 1000000 0),(3,.ref 1000001 0),(19,.sl 5 (r.map eD)),(20,I r.length),(21,I j),(1000000,.obj [I 0,I 0,Bo false,I 0,.nul]),(1000001,.obj [I ((r.take j).foldl cnStep x).k,I ((r.take j).foldl cnStep x).c,Bo ((r.take j).foldl cnStep x).v.b,I ((r.take j).foldl cnStep x).v.n,.sl 5 (((r.take j).foldl cnStep x).ks.map eD)])]) r.length (fun _=>True) 0 trivial (Wk.listK [2000002,2000003] rfl rfl ?_) (fun j hj _=>?_) (Nat.zero_le _)
    ·repeat' (first|(conv in hold _=>simp (disch:=omega) only [go_sem,hrl])|exact trivial|exact Sub.refl _|omega)
     (repeat' apply And.intro) <;> rfl
    ·rcases at_or_end hj with ⟨y,hy,hlt⟩ | rfl
     ·have hnx : (r.take (j + 1)).foldl cnStep x = .mk 8 0 ⟨false,0⟩ [(r.take j).foldl cnStep x,y]:=by rw [take_next hy,List.foldl_append]; rfl
      repeat' (first|with_reducible refine acc_none ?_ | (conv in hold _=>simp (disch:=omega) only [go_sem,List.getElem?_map,hy,Option.map_some,hrl])|refine Stp.go ?_|(with_reducible first|refine it_pos rfl ?_|refine it_neg (by decide) ?_|refine st_nil rfl ?_|refine s_op ?_ ?_|exact trivial)|((with_reducible first|refine dw_reg0 ?_|refine dw_regB ?_);(conv=>arg 3;whnf))|(refine Spl.go (fun hq he=>?_) (fun hq he=>?_)<;>first|(exfalso;clear hq;omega)|((try first|(conv=>arg 8;simp only [hq])|(conv=>arg 4;simp only [hq]));clear hq))|((with_reducible first|refine c_split (fun hq=>?_) (fun hq=>?_)|refine q_split (fun hq=>?_) (fun hq=>?_))<;>(try first|(conv=>arg 8;simp only [hq])|(conv=>arg 4;simp only [hq])))|(with_reducible refine fin_0 ?_ (by first|rfl|(conv=>lhs;simp only [go_sem,List.getElem?_map,hy,Option.map_some,hrl])) ?_)|exact Sub.refl _|omega)
      refine ⟨hlt,trivial,Wk.listK [1000000,1000001] rfl rfl ?_⟩
      repeat' (first|(conv in hold _=>simp (disch:=omega) only [go_sem,hnx])|exact trivial|exact Sub.refl _|omega)
     ·have e1 : (r.take r.length).foldl cnStep x = cn (x :: r):=by rw [List.take_length]; rfl
      repeat' (first|with_reducible refine acc_none ?_ | (conv in hold _=>simp (disch:=omega) only [go_sem,e1])|refine Stp.go ?_|(with_reducible first|refine it_pos rfl ?_|refine it_neg (by decide) ?_|refine st_nil rfl ?_|refine s_op ?_ ?_|exact trivial)|((with_reducible first|refine dw_reg0 ?_|refine dw_regB ?_);(conv=>arg 3;whnf))|(refine Spl.go (fun hq he=>?_) (fun hq he=>?_)<;>first|(exfalso;clear hq;omega)|((try first|(conv=>arg 8;simp only [hq])|(conv=>arg 4;simp only [hq]));clear hq))|((with_reducible first|refine c_split (fun hq=>?_) (fun hq=>?_)|refine q_split (fun hq=>?_) (fun hq=>?_))<;>(try first|(conv=>arg 8;simp only [hq])|(conv=>arg 4;simp only [hq])))|(with_reducible refine fin_0 ?_ (by first|rfl|(conv=>lhs;simp only [go_sem,e1])) ?_)|exact Sub.refl _|omega)
      refine c_doesE (hve) ?_ ?_ ?_
      ·((try (conv=>rhs;simp (disch:=omega) only [go_sem])); try rfl)
      ·first|rfl|(conv=>lhs;simp only [go_sem])
      repeat' ((fail_if_success (with_reducible first | refine s_call ?_ | refine s_cal ?_ | refine s_inv ?_)); first | with_reducible refine acc_none ?_ | (conv in hold _=>simp (disch:=omega) only [go_sem])|refine Stp.go ?_|(with_reducible first|refine it_pos rfl ?_|refine it_neg (by decide) ?_|refine st_nil rfl ?_|refine s_op ?_ ?_|exact trivial)|((with_reducible first|refine dw_reg0 ?_|refine dw_regB ?_);(conv=>arg 3;whnf))|(refine Spl.go (fun hq he=>?_) (fun hq he=>?_)<;>first|(exfalso;clear hq;omega)|((try first|(conv=>arg 8;simp only [hq])|(conv=>arg 4;simp only [hq]));clear hq))|((with_reducible first|refine c_split (fun hq=>?_) (fun hq=>?_)|refine q_split (fun hq=>?_) (fun hq=>?_))<;>(try first|(conv=>arg 8;simp only [hq])|(conv=>arg 4;simp only [hq])))|(with_reducible refine fin_0 ?_ (by first|rfl|(conv=>lhs;simp only [go_sem])) ?_)|exact Sub.refl _|omega)
      refine s_new (ss:=clE (cn (x :: r))) (k:=0) (bs:=[]) (t:=0) (n:=1) tb1_lt hcl rfl rfl rfl (by decide) (by ((conv=>lhs; simp (disch:=omega) only [go_sem]); try rfl)) (by ((conv=>lhs; simp (disch:=omega) only [go_sem]); try rfl)) rfl (eK_low _ _) k2 ?_
      repeat' (first|with_reducible refine acc_none ?_ | (conv in hold _=>simp (disch:=omega) only [go_sem])|refine Stp.go ?_|(with_reducible first|refine it_pos rfl ?_|refine it_neg (by decide) ?_|refine st_nil rfl ?_|refine s_op ?_ ?_|exact trivial)|((with_reducible first|refine dw_reg0 ?_|refine dw_regB ?_);(conv=>arg 3;whnf))|(refine Spl.go (fun hq he=>?_) (fun hq he=>?_)<;>first|(exfalso;clear hq;omega)|((try first|(conv=>arg 8;simp only [hq])|(conv=>arg 4;simp only [hq]));clear hq))|((with_reducible first|refine c_split (fun hq=>?_) (fun hq=>?_)|refine q_split (fun hq=>?_) (fun hq=>?_))<;>(try first|(conv=>arg 8;simp only [hq])|(conv=>arg 4;simp only [hq])))|(with_reducible refine fin_0 ?_ (by first|rfl|(conv=>lhs;simp only [go_sem])) ?_)|exact Sub.refl _|omega)
      refine fin_RC (by ((conv=>lhs; simp (disch:=omega) only [go_sem]); try rfl)) ?_ ?_
      ·repeat' (first|(conv in hold _=>simp (disch:=omega) only [go_sem])|exact trivial|exact Sub.refl _|omega)
      ·(try simp only [List.length_map])
       exact (by ((conv=>lhs; simp (disch:=omega) only [go_sem]); try rfl)))
 ·rw [cnV_f hok] at hi ⊢
  refine rcE_leaf hi rfl ?_
  rfl
theorem cnV_sz (l : List E) : eszL (cnV l).ks ≤ 1048576:=by
 by_cases hok : l.length ≤ 9 ∧ eOk (cn l) 6 8
 ·rw [cnV_t hok.1 hok.2]
  have h1:=esz_small _ 8 hok.2 (by decide)
  have h2:=esz_eq (cn l)
  omega
 ·rw [cnV_f hok]
  exact Nat.zero_le _
end Go.Proofs.Ytclkehekhdfnnaa

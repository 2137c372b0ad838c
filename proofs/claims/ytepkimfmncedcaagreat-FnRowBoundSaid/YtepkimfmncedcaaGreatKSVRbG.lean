/-
  RowBound of both packages for plans that fit. No condition.
-/
import Derived.Test.YtepkimfmncedcaaGreatKSDca
import Derived.Test.YtepkimfmncedcaaGreatJSVLaw
import Derived.Test.YtepkimfmncedcaaGreatKSVRbE
import Derived.Test.YtepkimfmncedcaaGreatJSVPlanE
import Derived.Test.YtepkimfmncedcaaGreatJSVWidF
import Derived.Test.YtepkimfmncedcaaGreatJSVGo
set_option maxHeartbeats 4000000
set_option maxRecDepth 100000
set_option linter.unusedVariables false
set_option linter.unusedSimpArgs false
namespace Go.Proofs.YtepkimfmncedcaaGreat
open Go.RowKit
theorem fine_of {ws : List Int} : ∀ p : Pl, FineE ws p → Fine ws.length p := by
  refine Pl.indA (fun p ih h => .mk h.fields h.scan (fun x hx => ih x hx (h.kid hx)))
theorem RowBound_fit {db : List Ta} {p : Pl} (hf : fitB db p) (hs : psz p ≤ 1048576) {cnt : List Int} (hlen : cnt.length = (natI (dbWs db)).length) (hl : (natI (dbWs db)).length ≤ 1048576) (hc : cntOk cnt) :
    Does Tryz.prog 19 [] [pD p, intsD (natI (dbWs db)), intsD cnt] (I (rbC cnt p)) [] ∧ Does Tryz.prog 18 [] [pD p, intsD (natI (dbWs db)), intsD cnt] (I (rbC cnt p)) [] := by
  have hw := PV_ok hf.2
  obtain ⟨_, h1, h2⟩ := PlanWidth_fn p hs (natI (dbWs db)) hl
  have hne := hf.2
  have hfine : Fine (natI (dbWs db)).length p := fine_of p (wd_fine p 8 (by rw [← PV_t hw]; exact hne))
  generalize natI (dbWs db) = ws at *
  generalize PV ws p = w at *
  have e0 : (w == 0) = false := beq_eq_false_iff_ne.2 hne
  have e1 : ((cnt.length : Int) != (ws.length : Int)) = false := by rw [bne_eq_false_iff_eq]; omega
  have hfine' : Fine cnt.length p := by rw [hlen]; exact hfine
  have r1 := rowBound_spec hc p hfine'
  have r2 := derive_ok hc hfine' hs
  constructor
  · refine Bg c_Z156 mixed (go1 trivial ?_)
    refine Uc (cj2 @e0 @e1) (h1) (go1 (cj2 @e0 @e1) ?_)
    refine dw_for (c := 1) (l := fun i => [(2, intsD cnt), (3, .ref 1000000 0), (7, I i), (1000000, .obj [I p.k, I p.t, .sl 5 (p.es.map eD), intsD p.cs, .sl 5 (p.ks.map pD)])]) cnt.length (fun _ => True) 0 trivial (Wk.list [2000003] rfl rfl ?_) (fun i hi _ => ?_) (Nat.zero_le _)
    · repeat' (first|(conv in hold _=>simp (disch:=omega) only [go_sem])|exact trivial|exact Sub.refl _|omega)
      exact rfl
    · rcases at_or_end hi with ⟨x, hx, hlt⟩ | rfl
      · have hr := inRange_ok x 0 400
        rw [decide_eq_true (hc i x hx)] at hr
        refine go1 @hx ?_
        refine Uc trivial (hr) (go1 trivial ?_)
        refine ⟨hlt, trivial, Wk.list [1000000] rfl rfl ?_⟩
        repeat' (first|(conv in hold _=>simp (disch:=omega) only [go_sem])|exact trivial|exact Sub.refl _|omega)
      · refine go1 trivial ?_
        exact Uc trivial (r1) (go0 trivial)
  · refine Bg c_Z145 mixed (go1 trivial ?_)
    refine Uc (cj2 @e0 @e1) (h2) (go1 (cj2 @e0 @e1) ?_)
    refine dw_for (c := 1) (l := fun i => [(2, intsD cnt), (3, .ref 1000000 0), (20, intsD cnt), (21, I cnt.length), (22, I i), (1000000, .obj [I p.k, I p.t, .sl 5 (p.es.map eD), intsD p.cs, .sl 5 (p.ks.map pD)])]) cnt.length (fun _ => True) 0 trivial (Wk.list [2000003] rfl rfl ?_) (fun i hi _ => ?_) (Nat.zero_le _)
    · repeat' (first|(conv in hold _=>simp (disch:=omega) only [go_sem])|exact trivial|exact Sub.refl _|omega)
      exact rfl
    · rcases at_or_end hi with ⟨x, hx, hlt⟩ | rfl
      · have hx4 := hc i x hx
        refine go1 @hx ?_
        refine ⟨hlt, trivial, Wk.list [1000000] rfl rfl ?_⟩
        repeat' (first|(conv in hold _=>simp (disch:=omega) only [go_sem])|exact trivial|exact Sub.refl _|omega)
      · refine go1 trivial ?_
        exact Uc trivial (r2) (go0 trivial)
end Go.Proofs.YtepkimfmncedcaaGreat

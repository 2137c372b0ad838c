/-
  The steps that apply to a plan, as the program hands them out; StepsFor of the program. No condition.
-/
import Derived.Test.YtgpdmgaemhelgaaGreatKSDca
import Derived.Test.YtgpdmgaemhelgaaGreatJSVEsz
import Derived.Test.YtgpdmgaemhelgaaGreatJSVWid
import Derived.Test.YtgpdmgaemhelgaaGreatJSVRiE
import Derived.Test.YtgpdmgaemhelgaaGreatJSVStD
import Derived.Test.YtgpdmgaemhelgaaGreatKSVStS
import Derived.Test.YtgpdmgaemhelgaaGreatJSVYld
import Derived.Test.YtgpdmgaemhelgaaGreatRows
import Derived.Test.YtgpdmgaemhelgaaGreatJSVBox
import Derived.Test.YtgpdmgaemhelgaaGreatJSVClC
set_option maxHeartbeats 4000000
set_option maxRecDepth 100000
set_option linter.unusedVariables false
set_option linter.unusedSimpArgs false
namespace Go.Proofs.YtgpdmgaemhelgaaGreat
open Go.RowKit
theorem tupP_at {xs : List (List Int × Pl)} {i : Nat} {es : List D} (h : (xs.map tupP)[i]? = some (.tup es)) : ∃ l a,xs[i]? = some (l,a) ∧ es = [intsD l,pD a]:=by
 rw [List.getElem?_map] at h
 cases hr : xs[i]? with
 | none=>rw [hr] at h; cases h
 | some r=>
  rw [hr] at h
  simp only [Option.map_some,Option.some.injEq,tupP,D.tup.injEq] at h
  exact ⟨r.1,r.2,rfl,h.symm⟩
def tupS (s : Int × List Int) : D:=.tup [stE s]
theorem tupS_at {xs : List (Int × List Int)} {i : Nat} {es : List D} (h : (xs.map tupS)[i]? = some (.tup es)) : ∃ s,xs[i]? = some s ∧ es = [stE s]:=by
 rw [List.getElem?_map] at h
 cases hr : xs[i]? with
 | none=>rw [hr] at h; cases h
 | some r=>
  rw [hr] at h
  simp only [Option.map_some,Option.some.injEq,tupS,D.tup.injEq] at h
  exact ⟨r,rfl,h.symm⟩
theorem clonePathRaw_ok (a : Option Addr) (c : Nat) : Does Tryz.prog 108 [] [.v (.slice a 0 c)] (.sl 1 []) []:=by
 cases a with
 | none=>
  refine does0 c_Z4 mixed (Nat.le_of_ble_eq_true rfl) ?_
  conv=>arg 3; whnf
  repeat' (first|with_reducible refine acc_none ?_ | (conv in hold _=>simp (disch:=omega) only [go_sem,Option.isNone_none,bne_tf])|refine Stp.go ?_|(with_reducible first|refine it_pos rfl ?_|refine it_neg (by decide) ?_|refine st_nil rfl ?_|refine s_op ?_ ?_|exact trivial)|((with_reducible first|refine dw_reg0 ?_|refine dw_regB ?_);(conv=>arg 3;whnf))|(refine Spl.go (fun hq he=>?_) (fun hq he=>?_)<;>first|(exfalso;clear hq;omega)|((try first|(conv=>arg 8;simp only [hq])|(conv=>arg 4;simp only [hq]));clear hq))|((with_reducible first|refine c_split (fun hq=>?_) (fun hq=>?_)|refine q_split (fun hq=>?_) (fun hq=>?_))<;>(try first|(conv=>arg 8;simp only [hq])|(conv=>arg 4;simp only [hq])))|(with_reducible refine fin_0 ?_ (by first|rfl|(conv=>lhs;simp only [go_sem,Option.isNone_none,bne_tf])) ?_)|exact Sub.refl _|omega)
  exact Sub.nul 1
 | some A=>
  refine Bg c_Z4 mixed (go1R trivial ?_)
  (with_reducible first | refine dw_reg0 ?_ | refine dw_regB ?_)
  conv=>arg 3; whnf
  refine go1R trivial ?_
  (with_reducible first | refine dw_reg0 ?_ | refine dw_regB ?_)
  conv=>arg 3; whnf
  repeat' ((fail_if_success (with_reducible first | refine dw_reg0 ?_ | refine dw_regB ?_)); first | with_reducible refine acc_none ?_ | (conv in hold _=>simp (disch:=omega) only [go_sem,Option.isNone_some,bne_ff])|refine Stp.go ?_|(with_reducible first|refine it_pos rfl ?_|refine it_neg (by decide) ?_|refine st_nil rfl ?_|refine s_op ?_ ?_|exact trivial)|((with_reducible first|refine dw_reg0 ?_|refine dw_regB ?_);(conv=>arg 3;whnf))|(refine Spl.go (fun hq he=>?_) (fun hq he=>?_)<;>first|(exfalso;clear hq;omega)|((try first|(conv=>arg 8;simp only [hq])|(conv=>arg 4;simp only [hq]));clear hq))|((with_reducible first|refine c_split (fun hq=>?_) (fun hq=>?_)|refine q_split (fun hq=>?_) (fun hq=>?_))<;>(try first|(conv=>arg 8;simp only [hq])|(conv=>arg 4;simp only [hq])))|(with_reducible refine fin_0 ?_ (by first|rfl|(conv=>lhs;simp only [go_sem,Option.isNone_some,bne_ff])) ?_)|exact Sub.refl _|omega)
  (with_reducible first | refine dw_reg0 ?_ | refine dw_regB ?_)
  conv=>arg 3; whnf
  refine Stp.go ?_
  refine s_pre (pre_raw (t:=0) 1 (by decide) rfl) ?_
  refine go1F trivial ?_
  refine fin_wk (wk_frz 2 2000007 (by decide) (by decide) rfl ?_) ?_
  rotate_left
  (conv in hold _=>simp (disch:=omega) only [go_sem])
  ·refine fin_L [] ?_ ?_ rfl ?_
   all_goals exact Ag trivial
  ·rfl
theorem clonePathNone_ok : Does Tryz.prog 108 [] [.sl 1 []] (.sl 1 []) []:=by
 intro w F m xs hxl hHle hwf hfz hblk hnone hinj
 match xs,hxl with
 | [x],_=>
  have h0:=hfz 0 _ x rfl rfl
  have hx : ∃ a c,x = .slice a 0 c:=by
   cases h0 with
   | sl0 _ _ a c=>exact ⟨_,_,rfl⟩
   | sl _ _ _ b off c=>exact ⟨_,_,rfl⟩
  obtain ⟨a,c,rfl⟩:=hx
  refine clonePathRaw_ok a c w F m [.slice a 0 c] rfl hHle hwf (fun i d y hd hy=>?_) hblk hnone hinj
  match i with
  | 0=>
   obtain rfl : D.v (.slice a 0 c) = d:=by simpa using hd
   obtain rfl : Value.slice a 0 c = y:=by simpa using hy
   exact .v m _
  | i + 1=>simp at hd
theorem clonePath_ok (cs : List Int) (hl : cs.length < 1000000) : Does Tryz.prog 108 [] [intsD cs] (intsD cs) []:=by
 cases cs with
 | nil=>exact clonePathNone_ok
 | cons c r=>
  have e1 : ((c :: r).map I).length = (c :: r).length:=List.length_map ..
  have e2 : ((c :: r).map I).take (c :: r).length = (c :: r).map I:=take_all I _
  have hp : D.purL ((c :: r).map I) = true:=ints_pur _
  have hl2 : 0 < ((c :: r).map I).length:=by rw [e1]; exact Nat.succ_pos _
  have hl3 : ((c :: r).map I).length < 1000000:=by rw [e1]; exact hl
  unfold intsD
  generalize (c :: r).map I = rr at *
  have hrr:=fun L=>ren_pure.renL_pure L rr hp
  have hta : rr.take rr.length = rr:=List.take_length
  refine Bg c_Z4 mixed (go1F trivial ?_)
  refine fin_wk (wk_frz 2 2000007 (by decide) (by decide) rfl ?_) ?_
  rotate_left
  (conv in hold _=>simp (disch:=omega) only [go_sem,hta,hrr,Nat.le_refl])
  ·refine fin_L [] ?_ ?_ rfl ?_
   all_goals exact Ag (cj2 @hta @hrr)
  ·exact hp
section
variable {ws : List Int} (hw : wsOk ws) {p : Pl} {w : Int} (h : Wf ws p 8 w)
include hw h
theorem possibleSteps_yields : Yields Tryz.prog 106 [.ptr [I p.k, I p.t, .sl 5 (p.es.map eD), intsD p.cs, .sl 5 (p.ks.map pD)], .ptr [intsD ws]] ((stepsP ws p).map tupS) := by
  have hs := wf_size h
  rw [pw_8] at hs
  have h1 := rewriteRules_ok
  have h2 := partsOf_ok p
  have hY := partsOf_yields p (by omega)
  rw [pD_eq] at h2
  have hfst := pt_fst p []
  have hpth : ∀ i l a, (ptP p [])[i]? = some (l, a) → (pathsP p [])[i]? = some l ∧ paOf p l = some a ∧ l.length ≤ 8 := fun i l a hx => by
    have hm := List.mem_of_getElem? hx
    have e1 : (pathsP p [])[i]? = some l := by rw [← hfst, List.getElem?_map, hx]; rfl
    exact ⟨e1, pt_path hm, by have := pathsP_short h [] l (List.mem_of_getElem? e1); simpa using this⟩
  have hlen : (ptP p []).length = (pathsP p []).length := by rw [← hfst, List.length_map]
  unfold stepsP
  generalize pathsP p [] = ls at *
  generalize ptP p [] = ps at *
  have hrl := rules_len
  have hrp := rules_pur
  obtain ⟨C, hC⟩ : ∃ C : Nat → Nat, ∀ j, C j = (stepsTo ws p (ls.take j)).length := ⟨_, fun _ => rfl⟩
  obtain ⟨S, hS⟩ : ∃ S, S = stepsTo ws p ls := ⟨_, rfl⟩
  have hCS : ∀ j, C j ≤ S.length := fun j => by rw [hC, hS]; exact stepsTo_mono ws p ls j
  have hCend : C ps.length = S.length := by rw [hC, hS, hlen, List.take_length]
  have hC0 : C 0 = 0 := by rw [hC]; rfl
  have hCm : ∀ j k, j ≤ k → C j ≤ C k := fun j k hjk => by
    rw [hC, hC]
    have := stepsTo_mono ws p (ls.take k) j
    rw [List.take_take, Nat.min_eq_left hjk] at this
    exact this
  have hstop : ∀ e, e < S.length → ∃ i0, i0 < ps.length ∧ C i0 ≤ e ∧ e < C (i0 + 1) ∧ ∀ j, j ≤ i0 → C j ≤ e := fun e he => by
    rw [hS] at he
    obtain ⟨i0, l, hl, h1, h2⟩ := step_part ws p ls e he
    rw [← hC] at h1 h2
    refine ⟨i0, by rw [hlen]; exact (List.getElem?_eq_some_iff.1 hl).1, h1, ?_, fun j hj => Nat.le_trans (hCm j i0 hj) h1⟩
    rw [hC, stepsTo_next hl, List.length_append, ← hC]
    exact h2
  have hround : ∀ (j : Nat) (l : List Int) (a : Pl), ps[j]? = some (l, a) → ∃ c : Nat → Nat, c 0 = 0 ∧ C (j + 1) = C j + c 12 ∧ ∀ n, n < 12 → ∃ c1 c2 c3 : D, c1.pur = true ∧ c2.pur = true ∧ c3.pur = true ∧ rulesD[n]? = some (.agg [c1, c2, c3]) ∧
      ((Does Tryz.prog 86 [] [.agg [c1, c2, c3], .agg [I a.k, I a.t, .sl 5 (a.es.map eD), .sl 1 (a.cs.map I), .sl 5 (a.ks.map pD)], .sl 1 (ws.map I), I (8 - (l.length : Int))] (.tup [pD zP, Bo false]) [] ∧ c (n + 1) = c n) ∨
       ∃ q, Does Tryz.prog 86 [] [.agg [c1, c2, c3], .agg [I a.k, I a.t, .sl 5 (a.es.map eD), .sl 1 (a.cs.map I), .sl 5 (a.ks.map pD)], .sl 1 (ws.map I), I (8 - (l.length : Int))] (.tup [pD q, Bo true]) [] ∧ c (n + 1) = c n + 1 ∧ c (n + 1) ≤ c 12 ∧ l.length ≤ 8 ∧ (S.map tupS)[C j + c n]? = some (.tup [.agg [I n, .sl 1 (l.map I)]])) := by
    intro j l a hx
    obtain ⟨hl, ha, hl8⟩ := hpth j l a hx
    obtain ⟨u, ed, hd, hu, _, _⟩ := rep_wf hw l h ha
    have hlev : (((8 - l.length : Nat)) : Int) = 8 - (l.length : Int) := by omega
    refine ⟨fun n => (stepsAt ws p l (n - 1)).length, rfl, by rw [hC, hC, stepsTo_next hl, List.length_append], fun n hn => ?_⟩
    obtain ⟨c1, c2, c3, hdr, h3⟩ := rule_at hw hu (by omega) (8 - l.length) (by omega) n hn
    have hpu := (D.purL_iff.1 hrp) _ (List.mem_of_getElem? hdr)
    simp only [D.pur, D.purL, Bool.and_eq_true] at hpu
    obtain ⟨hc1, hc2, hc3, _⟩ := hpu
    rw [hlev, pD_eq] at h3
    unfold intsD at h3
    refine ⟨c1, c2, c3, hc1, hc2, hc3, hdr, ?_⟩
    have hlv := apP_lv hw h ha (n : Int)
    cases n with
    | zero =>
      rw [show ruP ws ((0 : Nat) : Int) a = none from rfl, lvP_none] at h3
      exact .inl ⟨h3, rfl⟩
    | succ m =>
      have hcast : ((m + 1 : Nat) : Int) = (m : Int) + 1 := by omega
      cases ho : lvP ws (8 - l.length) (ruP ws ((m + 1 : Nat) : Int) a) with
      | none =>
        rw [ho] at h3 hlv
        have hn : (apP ws ((m : Int) + 1) l p).isSome = false := by rw [← hcast, ← hlv]; rfl
        refine .inl ⟨h3, ?_⟩
        show (stepsAt ws p l (m + 1)).length = (stepsAt ws p l m).length
        rw [stepsAt, if_neg (by rw [hn]; exact Bool.false_ne_true), List.append_nil]
      | some q =>
        rw [ho] at h3 hlv
        have hn : (apP ws ((m : Int) + 1) l p).isSome = true := by rw [← hcast, ← hlv]; rfl
        have hst : (stepsAt ws p l (m + 1)).length = (stepsAt ws p l m).length + 1 := by rw [stepsAt, if_pos hn, List.length_append]; rfl
        obtain ⟨t, ht⟩ := stepsAt_pre ws p l (n := m + 1) (m := 11) (by omega)
        have hix := step_at hl (by omega) hn
        refine .inr ⟨q, h3, hst, ?_, hl8, ?_⟩
        · show (stepsAt ws p l (m + 1)).length ≤ (stepsAt ws p l 11).length
          rw [ht, List.length_append]
          omega
        · rw [List.getElem?_map, hS, hC]
          show ((stepsTo ws p ls)[(stepsTo ws p (ls.take j)).length + (stepsAt ws p l m).length]?).map tupS = _
          rw [hix, hcast]
          rfl
  rw [← hS]
  generalize rulesD = rs at *
  refine yields c_Z21 mixed (Nat.le_of_ble_eq_true rfl) (fun i e => ?_)
  conv => arg 3; whnf
  refine go1 trivial ?_
  refine Uc trivial (h1) (go1 trivial ?_)
  refine Uc @intsD.eq_1 (h2) (go1 @intsD.eq_1 ?_)
  have hrs : D.purL rs = true := hrp
  have hrr := fun L => ren_pure.renL_pure L rs hrp
  by_cases hel : S.length ≤ e
  · refine dw_rng 149 [.ptr [I p.k, I p.t, .sl 5 (p.es.map eD), intsD p.cs, .sl 5 (p.ks.map pD)]] (ps.map tupP) 2 2 [(1, .ptr [I p.k, I p.t, .sl 5 (p.es.map eD), intsD p.cs, .sl 5 (p.ks.map pD)]), (2, .ptr [intsD ws]), (3, .ref 1000000 0), (4, .ref 1000001 0), (13, .fn 149 [.ptr [I p.k, I p.t, .sl 5 (p.es.map eD), intsD p.cs, .sl 5 (p.ks.map pD)]])] (fun j => [(1000000, .obj [.v (.func (.yield i) #[] #[])]), (1000001, .obj [.sl 3 rs]), (gh, .gho i (S.map tupS) e (C j))]) hY (by kernel_rfl) rfl (Nat.zero_le _) (Nat.le_refl _) (by decide) ?_ (fun j => namesOK_of rfl) (Wk.list [2000003, 2000004] rfl rfl ?_) rfl (fun j es h => by obtain ⟨_, _, _, rfl⟩ := tupP_at h; rfl) (fun j es hes hp => ?_) ?_
    · simp (disch := omega) only [go_sem, intsD, and_self, Nat.reduceLT]
    · exact Ag (cj2 @hC0 @hrr)
    · obtain ⟨l, a, hx, rfl⟩ := tupP_at hes
      obtain ⟨c, hc0, hc12, hcs⟩ := hround j l a hx
      obtain ⟨_, _, hl8⟩ := hpth j l a hx
      have hj1 := hCS (j + 1)
      rw [pD_eq a]
      refine go1 @intsD.eq_1 ?_
      refine dw_for (c := 3) (l := fun n => [(2, .ptr [intsD ws]), (3, .ref 1000000 0), (5, intsD l), (6, .ref 1000002 0), (16, .sl 3 rs), (17, I 12), (18, I n), (1000000, .obj [.v (.func (.yield i) #[] #[])]), (1000001, .obj [.sl 3 rs]), (1000002, .obj [I a.k, I a.t, .sl 5 (a.es.map eD), intsD a.cs, .sl 5 (a.ks.map pD)]), (gh, .gho i (S.map tupS) e (C j + c n))]) 12 (fun n => C j + c n ≤ e) 0 (by omega) (Wk.list [1000000, 1000001, 2000006] rfl rfl ?_) (fun n hn hJ => ?_) (Nat.zero_le _)
      · repeat' (first|(conv in hold _=>simp (disch:=omega) only [go_sem, hrl, hc0, Nat.add_zero])|exact trivial|exact Sub.refl _|omega)
        exact ⟨rfl, rfl⟩
      · by_cases hn12 : n < 12
        · obtain ⟨c1, c2, c3, hc1, hc2, hc3, hdr, hcases⟩ := hcs n hn12
          rcases hcases with ⟨h3, hcn⟩ | ⟨q, h3, hcn, hcle, _, hix⟩
          · refine go1 (cj7 @hdr @intsD.eq_1 @hrl @hc1 @hc2 @hc3 @Bool.and_self) ?_
            refine Uc (cj7 @hdr @intsD.eq_1 @hrl @hc1 @hc2 @hc3 @Bool.and_self) (h3) (go1 (cj7 @hdr @intsD.eq_1 @hrl @hc1 @hc2 @hc3 @Bool.and_self) ?_)
            refine ⟨hn12, by omega, Wk.list [1000000, 1000001, 1000002] rfl rfl ?_⟩
            exact Ag (cj2 @intsD.eq_1 @hcn)
          · have h4 := clonePath_ok l (by omega)
            unfold intsD at h4
            refine go1 (cj7 @hdr @intsD.eq_1 @hrl @hc1 @hc2 @hc3 @Bool.and_self) ?_
            refine Uc (cj7 @hdr @intsD.eq_1 @hrl @hc1 @hc2 @hc3 @Bool.and_self) (h3) (go1 (cj7 @hdr @intsD.eq_1 @hrl @hc1 @hc2 @hc3 @Bool.and_self) ?_)
            refine Uc trivial (h4) (go1 trivial ?_)
            refine v_yld (by ((conv => lhs; simp (disch := omega) only [go_sem]); try rfl)) (hJ) (hix) (by first | rfl | (simp only [go_sem])) ?_
            refine go1 trivial ?_
            refine ⟨hn12, by omega, Wk.list [1000000, 1000001, 1000002] rfl rfl ?_⟩
            repeat' (first|(conv in hold _=>simp (disch:=omega) only [go_sem, intsD, hcn])|exact trivial|exact Sub.refl _|omega)
            exact congrArg (fun n => D.gho i (S.map tupS) e n) (by omega)
        · obtain rfl : n = 12 := by omega
          refine go1 trivial ?_
          refine Wk.list [1000000, 1000001] rfl rfl ?_
          exact Ag (cj2 @hc12 @intsD.eq_1)
    · rw [List.length_map, hCend]
      refine go1 trivial ?_
      refine ⟨S.length, ?_, ?_⟩
      · ((conv => lhs; simp (disch := omega) only [go_sem]); try rfl)
      exact .inl ⟨by rw [List.length_map], by rw [List.length_map]; exact hel⟩
  · obtain ⟨i0, hi0, hi1, hi2, hmono⟩ := hstop e (by omega)
    refine dw_rngX 149 [.ptr [I p.k, I p.t, .sl 5 (p.es.map eD), intsD p.cs, .sl 5 (p.ks.map pD)]] (ps.map tupP) i0 2 2 [(1, .ptr [I p.k, I p.t, .sl 5 (p.es.map eD), intsD p.cs, .sl 5 (p.ks.map pD)]), (2, .ptr [intsD ws]), (3, .ref 1000000 0), (4, .ref 1000001 0), (13, .fn 149 [.ptr [I p.k, I p.t, .sl 5 (p.es.map eD), intsD p.cs, .sl 5 (p.ks.map pD)]])] (fun j => [(1000000, .obj [.v (.func (.yield i) #[] #[])]), (1000001, .obj [.sl 3 rs]), (gh, .gho i (S.map tupS) e (C j))]) hY (by kernel_rfl) rfl (Nat.zero_le _) (Nat.le_refl _) (by decide) ?_ (fun j => namesOK_of rfl) (Wk.list [2000003, 2000004] rfl rfl ?_) rfl (fun j es h => by obtain ⟨_, _, _, rfl⟩ := tupP_at h; rfl) (by rw [List.length_map]; exact hi0) (fun j es hj hes hp => ?_) (fun es hes hp => ?_)
    · simp (disch := omega) only [go_sem, intsD, and_self, Nat.reduceLT]
    · exact Ag (cj2 @hC0 @hrr)
    · obtain ⟨l, a, hx, rfl⟩ := tupP_at hes
      obtain ⟨c, hc0, hc12, hcs⟩ := hround j l a hx
      obtain ⟨_, _, hl8⟩ := hpth j l a hx
      have hj1 := hmono (j + 1) (by omega)
      rw [pD_eq a]
      refine go1 @intsD.eq_1 ?_
      refine dw_for (c := 3) (l := fun n => [(2, .ptr [intsD ws]), (3, .ref 1000000 0), (5, intsD l), (6, .ref 1000002 0), (16, .sl 3 rs), (17, I 12), (18, I n), (1000000, .obj [.v (.func (.yield i) #[] #[])]), (1000001, .obj [.sl 3 rs]), (1000002, .obj [I a.k, I a.t, .sl 5 (a.es.map eD), intsD a.cs, .sl 5 (a.ks.map pD)]), (gh, .gho i (S.map tupS) e (C j + c n))]) 12 (fun n => C j + c n ≤ e) 0 (by omega) (Wk.list [1000000, 1000001, 2000006] rfl rfl ?_) (fun n hn hJ => ?_) (Nat.zero_le _)
      · repeat' (first|(conv in hold _=>simp (disch:=omega) only [go_sem, hrl, hc0, Nat.add_zero])|exact trivial|exact Sub.refl _|omega)
        exact ⟨rfl, rfl⟩
      · by_cases hn12 : n < 12
        · obtain ⟨c1, c2, c3, hc1, hc2, hc3, hdr, hcases⟩ := hcs n hn12
          rcases hcases with ⟨h3, hcn⟩ | ⟨q, h3, hcn, hcle, _, hix⟩
          · refine go1 (cj7 @hdr @intsD.eq_1 @hrl @hc1 @hc2 @hc3 @Bool.and_self) ?_
            refine Uc (cj7 @hdr @intsD.eq_1 @hrl @hc1 @hc2 @hc3 @Bool.and_self) (h3) (go1 (cj7 @hdr @intsD.eq_1 @hrl @hc1 @hc2 @hc3 @Bool.and_self) ?_)
            refine ⟨hn12, by omega, Wk.list [1000000, 1000001, 1000002] rfl rfl ?_⟩
            exact Ag (cj2 @intsD.eq_1 @hcn)
          · have h4 := clonePath_ok l (by omega)
            unfold intsD at h4
            refine go1 (cj7 @hdr @intsD.eq_1 @hrl @hc1 @hc2 @hc3 @Bool.and_self) ?_
            refine Uc (cj7 @hdr @intsD.eq_1 @hrl @hc1 @hc2 @hc3 @Bool.and_self) (h3) (go1 (cj7 @hdr @intsD.eq_1 @hrl @hc1 @hc2 @hc3 @Bool.and_self) ?_)
            refine Uc trivial (h4) (go1 trivial ?_)
            refine v_yld (by ((conv => lhs; simp (disch := omega) only [go_sem]); try rfl)) (hJ) (hix) (by first | rfl | (simp only [go_sem])) ?_
            refine go1 trivial ?_
            refine ⟨hn12, by omega, Wk.list [1000000, 1000001, 1000002] rfl rfl ?_⟩
            repeat' (first|(conv in hold _=>simp (disch:=omega) only [go_sem, intsD, hcn])|exact trivial|exact Sub.refl _|omega)
            exact congrArg (fun n => D.gho i (S.map tupS) e n) (by omega)
        · obtain rfl : n = 12 := by omega
          refine go1 trivial ?_
          refine Wk.list [1000000, 1000001] rfl rfl ?_
          exact Ag (cj2 @hc12 @intsD.eq_1)
    · obtain ⟨l, a, hx, rfl⟩ := tupP_at hes
      obtain ⟨c, hc0, hc12, hcs⟩ := hround i0 l a hx
      obtain ⟨_, _, hl8⟩ := hpth i0 l a hx
      rw [pD_eq a]
      refine go1 @intsD.eq_1 ?_
      refine dw_for (c := 3) (l := fun n => [(2, .ptr [intsD ws]), (3, .ref 1000000 0), (5, intsD l), (6, .ref 1000002 0), (16, .sl 3 rs), (17, I 12), (18, I n), (1000000, .obj [.v (.func (.yield i) #[] #[])]), (1000001, .obj [.sl 3 rs]), (1000002, .obj [I a.k, I a.t, .sl 5 (a.es.map eD), intsD a.cs, .sl 5 (a.ks.map pD)]), (gh, .gho i (S.map tupS) e (C i0 + c n))]) 12 (fun n => C i0 + c n ≤ e) 0 (by omega) (Wk.list [1000000, 1000001, 2000006] rfl rfl ?_) (fun n hn hJ => ?_) (Nat.zero_le _)
      · repeat' (first|(conv in hold _=>simp (disch:=omega) only [go_sem, hrl, hc0, Nat.add_zero])|exact trivial|exact Sub.refl _|omega)
        exact ⟨rfl, rfl⟩
      · by_cases hn12 : n < 12
        · obtain ⟨c1, c2, c3, hc1, hc2, hc3, hdr, hcases⟩ := hcs n hn12
          rcases hcases with ⟨h3, hcn⟩ | ⟨q, h3, hcn, hcle, _, hix⟩
          · refine go1 (cj7 @hdr @intsD.eq_1 @hrl @hc1 @hc2 @hc3 @Bool.and_self) ?_
            refine Uc (cj7 @hdr @intsD.eq_1 @hrl @hc1 @hc2 @hc3 @Bool.and_self) (h3) (go1 (cj7 @hdr @intsD.eq_1 @hrl @hc1 @hc2 @hc3 @Bool.and_self) ?_)
            refine ⟨hn12, by omega, Wk.list [1000000, 1000001, 1000002] rfl rfl ?_⟩
            exact Ag (cj2 @intsD.eq_1 @hcn)
          · have h4 := clonePath_ok l (by omega)
            unfold intsD at h4
            refine go1 (cj7 @hdr @intsD.eq_1 @hrl @hc1 @hc2 @hc3 @Bool.and_self) ?_
            refine Uc (cj7 @hdr @intsD.eq_1 @hrl @hc1 @hc2 @hc3 @Bool.and_self) (h3) (go1 (cj7 @hdr @intsD.eq_1 @hrl @hc1 @hc2 @hc3 @Bool.and_self) ?_)
            refine Uc trivial (h4) (go1 trivial ?_)
            refine v_yld (by ((conv => lhs; simp (disch := omega) only [go_sem]); try rfl)) (hJ) (hix) (by first | rfl | (simp only [go_sem])) ?_
            repeat' (first|with_reducible refine acc_none ?_ | (conv in hold _=>simp (disch:=omega) only [go_sem])|refine Stp.go ?_|(with_reducible first|refine it_pos rfl ?_|refine it_neg (by decide) ?_|refine st_nil rfl ?_|refine s_op ?_ ?_|exact trivial)|((with_reducible first|refine dw_reg0 ?_|refine dw_regB ?_);(conv=>arg 3;whnf))|(refine Spl.go (fun hq he=>?_) (fun hq he=>?_)<;>first|(exfalso;clear hq;omega)|((try first|(conv=>arg 8;simp only [hq])|(conv=>arg 4;simp only [hq]));clear hq))|((with_reducible first|refine c_split (fun hq=>?_) (fun hq=>?_)|refine q_split (fun hq=>?_) (fun hq=>?_))<;>(try first|(conv=>arg 8;simp only [hq])|(conv=>arg 4;simp only [hq])))|(with_reducible refine fin_0 ?_ (by first|rfl|(conv=>lhs;simp only [go_sem])) ?_)|exact Sub.refl _|omega)
            · have hke : C i0 + c n = e := Classical.byContradiction he
              refine ⟨[(1000000, .obj [.v (.func (.yield i) #[] #[])]), (1000001, .obj [.sl 3 rs]), (gh, .gho i (S.map tupS) e (e + 1))], namesOK_of rfl, Wk.list [1000000, 1000001] rfl rfl ?_, ?_⟩
              · exact Ag (cj2 @hke @intsD.eq_1)
              · refine ⟨(e + 1), ?_, ?_⟩
                · ((conv => lhs; simp (disch := omega) only [go_sem]); try rfl)
                exact .inr ⟨rfl, by rw [List.length_map]; omega⟩
            · refine ⟨hn12, by omega, Wk.list [1000000, 1000001, 1000002] rfl rfl ?_⟩
              repeat' (first|(conv in hold _=>simp (disch:=omega) only [go_sem, intsD, hcn])|exact trivial|exact Sub.refl _|omega)
              exact congrArg (fun n => D.gho i (S.map tupS) e n) (by omega)
        · obtain rfl : n = 12 := by omega
          omega
end
end Go.Proofs.YtgpdmgaemhelgaaGreat
set_option maxHeartbeats 4000000
set_option maxRecDepth 100000
set_option linter.unusedVariables false
set_option linter.unusedSimpArgs false
namespace Go.Proofs.YtgpdmgaemhelgaaGreat
open Go.RowKit
theorem stE_mem (s : Int × List Int) : stE s = .agg [I s.1,.sl 1 (s.2.map I)]:=rfl
end Go.Proofs.YtgpdmgaemhelgaaGreat
set_option maxHeartbeats 4000000
set_option maxRecDepth 100000
set_option linter.unusedVariables false
set_option linter.unusedSimpArgs false
namespace Go.Proofs.YtgpdmgaemhelgaaGreat
open Go.RowKit
theorem appendSeq_steps {f : FuncId} (hf : enters Tryz.prog f = true) {caps : List D} (hcp : D.purL caps = true) (S : List (Int × List Int)) (hl : S.length ≤ 20000000) (hY : Yields Tryz.prog f caps (S.map tupS)) :
  Does Tryz.prog 105 [] [.nul,.fn f caps] (.own 1000000 2 S.length) [.row 2 (S.map stE)]:=by
 have hren:=fun L=>ren_pure.renL_pure L caps hcp
 refine Bk c_Z0 mixed 0 (go1 trivial ?_)
 refine dw_rng f caps (S.map tupS) 1 2 [(2,.ref 1000000 0),(6,.fn f caps)] (fun i=>[(1000000,.obj [.own 1000001 2 i]),(1000001,.row 2 ((S.take i).map stE))]) hY hf hcp (Nat.zero_le _) (by decide) (by decide) ?_ (fun i=>namesOK_of rfl) ((wk_rowO 2000002 3000000 2 0 (by decide) (by decide) (by decide) rfl rfl rfl).trans (Wk.list [2000002,3000000] rfl rfl ?_)) rfl (fun i es h=>by obtain ⟨_,_,rfl⟩:=tupS_at h; rfl) (fun i es h hp=>?_) ?_
 ·simp (disch:=omega) only [go_sem,hren,and_self,Nat.reduceLT]
 ·exact Ag @hren
 ·obtain ⟨s,hr,rfl⟩:=tupS_at h
  have hlt:=(List.getElem?_eq_some_iff.1 hr).1
  have hmk : ((S.take i).map stE).take i = (S.take i).map stE:=take_map stE (by omega)
  have hnx:=take_next hr
  have htl:=take_len (vs:=S) (i:=i) (by omega)
  rw [stE_mem s]
  refine go1 @htl ?_
  refine Wk.list [1000000,2000011] rfl rfl ?_
  repeat' (first|(conv in hold _=>simp (disch:=omega) only [go_sem,List.length_map,htl])|exact trivial|exact Sub.refl _|omega)
  rw [hmk,hnx,List.map_append]
  rfl
 ·have e1 : S.take S.length = S:=List.take_length
  refine go1 @e1 ?_
  refine fin_L [1000001] ?_ ?_ rfl ?_
  all_goals exact Ag @e1
theorem collect_steps {f : FuncId} (hf : enters Tryz.prog f = true) {caps : List D} (hcp : D.purL caps = true) (S : List (Int × List Int)) (hl : S.length ≤ 20000000) (hY : Yields Tryz.prog f caps (S.map tupS)) :
  Does Tryz.prog 58 [] [.fn f caps] (.own 1000000 2 S.length) [.row 2 (S.map stE)]:=by
 have hren:=fun L=>ren_pure.renL_pure L caps hcp
 have ha:=appendSeq_steps hf hcp S hl hY
 refine Bk c_Z8 mixed 0 (go1 trivial ?_)
 refine UcR [3000001] @hren (ha) (go1 @hren ?_)
 refine fin_L [3000001] ?_ ?_ rfl ?_
 all_goals exact Ag trivial
theorem possibleSteps_ok (p : Pl) (ws : List Int) : Does Tryz.prog 59 [] [pD p,intsD ws] (.fn 106 [.ptr [I p.k,I p.t,.sl 5 (p.es.map eD),intsD p.cs,.sl 5 (p.ks.map pD)],.ptr [intsD ws]]) []:=by
 refine Bg c_Z31 mixed (go1F trivial ?_)
 refine fin_wk (wk_fro 4 2000002 (by decide) (by decide) rfl ?_) ?_
 rotate_left
 (conv in hold _=>simp (disch:=omega) only [go_sem])
 ·refine fin_wk (wk_fro 4 2000003 (by decide) (by decide) rfl ?_) ?_
  rotate_left
  (conv in hold _=>simp (disch:=omega) only [go_sem])
  ·refine fin_L [] ?_ ?_ rfl ?_
   all_goals exact Ag trivial
  ·rfl
 ·rfl
theorem StepsFor_impl (p : Pl) (hs : psz p ≤ 1048576) (ws : List Int) (hl : ws.length ≤ 1048576) : Does Tryz.prog 22 [] [pD p,intsD ws] (.sl 2 ((stpO ws p).map stE)) []:=by
 obtain ⟨_,_,h1⟩:=PlanWidth_fn p hs ws hl
 have hsl:=stpO_len (ws:=ws) hs
 unfold stpO at hsl ⊢
 by_cases hz : PV ws p = 0
 ·rw [if_pos hz]
  rw [hz] at h1
  refine Bg c_Z108 mixed (go1 @intsD.eq_1 ?_)
  refine Uc @intsD.eq_1 (h1) (go1 @intsD.eq_1 ?_)
  exact Sub.nul 2
 ·rw [if_neg hz] at hsl ⊢
  obtain ⟨hw,hwf⟩:=PV_wf hz
  have hY:=possibleSteps_yields hw hwf
  have hne : (PV ws p == 0) = false:=beq_eq_false_iff_ne.2 hz
  have h2:=possibleSteps_ok p ws
  rw [pD_eq] at h2
  have h3:=collect_steps (by kernel_rfl) rfl _ hsl hY
  generalize PV ws p = w at *
  generalize stepsP ws p = S at *
  have hta:=take_all stE S
  have hlm : (S.map stE).length = S.length:=List.length_map ..
  unfold intsD at h2 h3
  refine Bg c_Z108 mixed (go1F @intsD.eq_1 ?_)
  refine Uc (cj2 @intsD.eq_1 @hne) (h1) (go1F (cj2 @intsD.eq_1 @hne) ?_)
  refine Uc @intsD.eq_1 (h2) (go1F @intsD.eq_1 ?_)
  refine UcR [3000001] @intsD.eq_1 (h3) (go1F @intsD.eq_1 ?_)
  refine fin_wk (wk_frz 4 3000001 (by decide) (by decide) rfl ?_) ?_
  rotate_left
  (conv in hold _=>simp (disch:=omega) only [go_sem,hta,hlm,Nat.le_refl])
  ·refine fin_L [] ?_ ?_ rfl ?_
   all_goals exact Ag (cj2 @hta @hlm)
  ·exact stE_pur _
section
variable {ws : List Int} (hw : wsOk ws) {p : Pl} {w : Int} (h : Wf ws p 8 w)
include hw h
end
end Go.Proofs.YtgpdmgaemhelgaaGreat
set_option maxHeartbeats 4000000
set_option maxRecDepth 100000
set_option linter.unusedVariables false
set_option linter.unusedSimpArgs false
namespace Go.Proofs.YtgpdmgaemhelgaaGreat
open Go.RowKit
theorem DrawStepsFor_ok (cs : List Nat) (hc : ∀ b,b ∈ cs → b < 256) : ∃ (p : Pl) (ws : List Int),Does Tryz.prog 25 [] [bytesD cs] (.tup [pD p,intsD ws]) [] ∧ psz p ≤ 11100 ∧ (2 ≤ ws.length ∧ ws.length ≤ 3):=by
 have hs : Src (cs.take 2000):=⟨fun b hb=>hc b (List.mem_of_mem_take hb),by rw [List.length_take]; omega⟩
 have hr:=newReader_ok cs
 obtain ⟨p,ws,q,hp,hwl,_,hz,hq0,hq1⟩:=planAndWidths_ok hs 0 (by decide)
 refine ⟨p,ws,?_,hz,hwl⟩
 refine Bg c_Z45 mixed (go1 trivial ?_)
 refine UcR [3000001] trivial (hr) (go1 trivial ?_)
 exact UcR [3000001] trivial (hp) (go0 trivial)
end Go.Proofs.YtgpdmgaemhelgaaGreat

/-
  Drawn tables. No condition.
-/
import Derived.Test.YtibknjpbbeackaaGreatKSDca
import Derived.Test.YtibknjpbbeackaaGreatJSDcg
import Derived.Test.YtibknjpbbeackaaGreatJSVDrawTb
import Derived.Test.YtibknjpbbeackaaGreatJSVGo
import Derived.Test.YtibknjpbbeackaaGreatKSDcd
import Derived.Test.YtibknjpbbeackaaGreatJSDcj
import Derived.Test.YtibknjpbbeackaaGreatJSVGrp
import Derived.Test.YtibknjpbbeackaaGreatKSVCnt
import Derived.Test.YtibknjpbbeackaaGreatJSVGateE
set_option maxHeartbeats 4000000
set_option maxRecDepth 100000
set_option linter.unusedVariables false
set_option linter.unusedSimpArgs false
namespace Go.Proofs.YtibknjpbbeackaaGreat
open Go.RowKit
theorem rsz_le {k : Nat} : ∀ l : List (List V), (∀ r, r ∈ l → r.length ≤ k) → rsz l ≤ l.length * (k + 1)
  | [], _ => Nat.zero_le _
  | a :: l, h => by
    have h1 := h a (List.mem_cons_self ..)
    have h2 := rsz_le l (fun r hr => h r (List.mem_cons_of_mem _ hr))
    rw [rsz, List.length_cons, Nat.add_mul]
    omega
theorem randomTable_own {bs : List Nat} (hs : Src bs) (w : Nat) (hw : w < 1000) (m : Nat) (hm : m ≤ 100) (p : Nat) (hp : p < 600000000) : ∃ (rs : List (List V)) (q : Nat),
    (Does Tryz.prog 82 [rdD bs p] [.ref 1000000 0, I w, I m] (.agg [I w, .own 1000001 1 rs.length]) [rdD bs q, .row 1 ((srt rs).map rowD)] ∧ RsW w rs ∧ rs.length ≤ m) ∧ p ≤ q ∧ q ≤ p + 201000 := by
  obtain ⟨k, hk, k0, k1, _⟩ := pick_ok hs p (by omega) ((m : Int) + 1) (by omega)
  have hk1 := k1 (by omega)
  obtain ⟨n, rfl⟩ := Int.eq_ofNat_of_zero_le k0
  have hnm : n ≤ m := by omega
  have hnw : n * (w * 2) ≤ 100 * 2000 := Nat.mul_le_mul (by omega) (by omega)
  obtain ⟨rs, ps, hl, h0, hd, hp0, hp1⟩ := draws (fun p (v : List V) q => Does Tryz.prog 128 [rdD bs p] [.ref 1000000 0, I w] (rowD v) [rdD bs q] ∧ v.length = w ∧ ∀ u, u ∈ v → u.ok) 800000000 (w * 2) (fun p hp => randomRow_fz hs w hw p hp) n (p + 1) (by omega)
  have hr : RsW w rs := fun r hr => by
    obtain ⟨i, hi⟩ := List.mem_iff_getElem?.1 hr
    exact (hd i r hi).2
  have ht := tableOf_own w w hw rs (by omega) hr
  refine ⟨rs, ps n, ⟨?_, hr, by omega⟩, by omega, by omega⟩
  refine Bk c_Z91 mixed 1 (go1 trivial ?_)
  refine UcR [1000000] trivial (hk) (go1 trivial ?_)
  refine dw_for (c := 3) (l := fun i => [(0, .ref 1000000 0), (1, I w), (2, I m), (6, .ref 1000001 0), (7, .own 1000002 1 i), (8, I ((n : Int) - i)), (1000000, rdD bs (ps i)), (1000001, .obj [I 0, .nul]), (1000002, .row 1 ((rs.take i).map rowD))]) n (fun _ => True) 0 trivial ((wk_row 7 2000090 1 (by decide) (by decide) rfl rfl).trans (Wk.list [1000000, 2000006, 2000090] rfl rfl ?_)) (fun i hi _ => ?_) (Nat.zero_le _)
  · rw [h0]
    repeat' (first|(conv in hold _=>simp (disch:=omega) only [go_sem])|exact trivial|exact Sub.refl _|omega)
    exact congrArg (fun n => D.v (Value.int .i64 n)) (by omega)
  · have htl := take_len (vs := rs) (i := i) (by omega)
    have hmk := take_map rowD (vs := rs) (i := i) (by omega)
    by_cases hlt : i < n
    · obtain ⟨x, hx⟩ : ∃ x, rs[i]? = some x := ⟨_, List.getElem?_eq_getElem (by omega)⟩
      have hdi := (hd i x hx).1
      have hnx := take_next hx
      refine go1 trivial ?_
      refine UcR [1000000] trivial (hdi) (go1 trivial ?_)
      refine ⟨hlt, trivial, Wk.list [1000000, 1000001, 2000023] rfl rfl ?_⟩
      repeat' (first|(conv in hold _=>simp (disch:=omega) only [go_sem, List.length_map, htl])|exact trivial|exact Sub.refl _|omega)
      refine ⟨congrArg (fun n => D.v (Value.int .i64 n)) (by omega), ?_⟩
      rw [hmk, hnx, List.map_append]
      rfl
    · obtain rfl : i = n := by omega
      have e1 : rs.take i = rs := List.take_of_length_le (by omega)
      have e2 : (rs.map rowD).take i = rs.map rowD := by rw [← hl]; exact take_all rowD rs
      refine go1C @e1 ?_
      refine s_pre (pre_frz (t := 25) (g := 1000002) (by decide) (by decide) rfl ?_) ?_
      rotate_left
      refine go1 (cj3 @e1 @e2 @hl) ?_
      refine c_doesR [3000001] (ht) (callOK_of rfl (Nat.le_of_ble_eq_true rfl) rfl ?_ ?_) ?_ ?_
      · repeat' (first|(conv in hold _=>simp (disch:=omega) only [go_sem])|exact trivial|exact Sub.refl _|omega)
      · repeat' (first|(conv in hold _=>simp (disch:=omega) only [go_sem])|exact trivial|exact Sub.refl _|omega)
      · ((conv=>rhs;simp (disch:=omega) only [go_sem]); try rfl)
      repeat' (first|with_reducible refine acc_none ?_ | (conv in hold _=>simp (disch:=omega) only [go_sem])|refine Stp.go ?_|(with_reducible first|refine it_pos rfl ?_|refine it_neg (by decide) ?_|refine st_nil rfl ?_|refine s_op ?_ ?_|exact trivial)|((with_reducible first|refine dw_reg0 ?_|refine dw_regB ?_);(conv=>arg 3;whnf))|(refine Spl.go (fun hq he=>?_) (fun hq he=>?_)<;>first|(exfalso;clear hq;omega)|((try first|(conv=>arg 8;simp only [hq])|(conv=>arg 4;simp only [hq]));clear hq))|((with_reducible first|refine c_split (fun hq=>?_) (fun hq=>?_)|refine q_split (fun hq=>?_) (fun hq=>?_))<;>(try first|(conv=>arg 8;simp only [hq])|(conv=>arg 4;simp only [hq])))|(with_reducible refine fin_0 ?_ (by first|rfl|(conv=>lhs;simp only [go_sem])) ?_)|exact Sub.refl _|omega)
      · refine fin_L [1000000, 3000001] ?_ ?_ rfl ?_
        repeat' (first|(conv in hold _=>simp (disch:=omega) only [go_sem])|exact trivial|exact Sub.refl _|omega)
      · exact rows_pur _
structure NearT (w m : Nat) (t : Ta) : Prop where
  len : t.rows.length ≤ m + 1
  row : ∀ r, r ∈ t.rows → r.length ≤ w + 7
theorem NearT.sz {w m : Nat} {t : Ta} (h : NearT w m t) (hw : w ≤ 100) (hm : m ≤ 100) : rsz t.rows ≤ 20000 := by
  have h1 := rsz_le t.rows h.row
  have h2 := h.len
  have h3 : t.rows.length * (w + 7 + 1) ≤ 101 * 108 := Nat.mul_le_mul (by omega) (by omega)
  omega
theorem anyTable_w {bs : List Nat} (hs : Src bs) (w : Nat) (hw0 : 0 < w) (hw : w < 100) (m : Nat) (hm : m ≤ 100) (p : Nat) (hp : p < 500000000) : ∃ (t : Ta) (q : Nat),
    (Does Tryz.prog 54 [rdD bs p] [.ref 1000000 0, I w, I m] (taD t) [rdD bs q] ∧ NearT w m t ∧ 0 ≤ t.w ∧ t.w ≤ 100) ∧ p ≤ q ∧ q ≤ p + 300000 := by
  obtain ⟨rs, q, ⟨ht, hr, hl⟩, q0, q1⟩ := randomTable_own hs w (by omega) m hm p (by omega)
  obtain ⟨k, hk, k0, k1, _⟩ := pick_ok hs q (by omega) 20 (by omega)
  have hsl := srt_len rs
  have hsr : RsW w (srt rs) := srt_rsw hr
  have hrow : ∀ r, r ∈ srt rs → r.length ≤ w + 7 := fun r hm => by have := (hsr r hm).1; omega
  have htk : ((srt rs).map rowD).take rs.length = (srt rs).map rowD := by rw [← hsl]; exact take_all rowD (srt rs)
  by_cases h0 : k = 0
  · obtain ⟨x, hx, hm⟩ := one_ok hs (q + 1) (by omega) [0, 7, 2] (by decide) (by decide)
    simp only [List.mem_cons, List.not_mem_nil, or_false] at hm
    refine ⟨⟨x, srt rs⟩, q + 2, ⟨?_, ⟨by show (srt rs).length ≤ m + 1; omega, hrow⟩, by show 0 ≤ x; omega, by show x ≤ 100; omega⟩, by omega, by omega⟩
    refine Bk c_Z139 mixed 1 (go1F trivial ?_)
    refine UcR [1000000, 3000001] trivial (ht) (go1F trivial ?_)
    refine UcR [1000000] trivial (hk) (go1F trivial ?_)
    refine UcR [1000000] trivial (hx) (go1 trivial ?_)
    refine fin_wk (wk_frzO 2000006 3000001 (by decide) (by decide) rfl (by decide) rfl ?_) ?_
    rotate_left
    (conv in hold _=>simp (disch:=omega) only [go_sem, htk, hsl, List.length_map, Nat.le_refl])
    · refine fin_L [1000000] ?_ ?_ rfl ?_
      repeat' (first|(conv in hold _=>simp (disch:=omega) only [go_sem])|exact trivial|exact Sub.refl _|omega)
    · exact rows_pur _
  · by_cases hn : rs.length = 0
    · have hrs : rs = [] := List.length_eq_zero_iff.1 hn
      refine ⟨⟨w, srt rs⟩, q + 1, ⟨?_, ⟨by show (srt rs).length ≤ m + 1; omega, hrow⟩, by show (0 : Int) ≤ w; omega, by show (w : Int) ≤ 100; omega⟩, by omega, by omega⟩
      refine Bk c_Z139 mixed 1 (go1F trivial ?_)
      refine UcR [1000000, 3000001] trivial (ht) (go1F trivial ?_)
      refine c_doesR [1000000] (hk) (callOK_of rfl (Nat.le_of_ble_eq_true rfl) rfl ?_ ?_) ?_ ?_
      · repeat' (first|(conv in hold _=>simp (disch:=omega) only [go_sem])|exact trivial|exact Sub.refl _|omega)
      · repeat' (first|(conv in hold _=>simp (disch:=omega) only [go_sem])|exact trivial|exact Sub.refl _|omega)
      · ((conv=>rhs;simp (disch:=omega) only [go_sem]); try rfl)
      repeat' (first|with_reducible refine acc_none ?_ | (conv in hold _=>simp (disch:=omega) only [go_sem])|refine Stp.go ?_|(with_reducible first|refine it_pos rfl ?_|refine it_neg (by decide) ?_|refine st_nil rfl ?_|refine s_op ?_ ?_|exact trivial)|((with_reducible first|refine dw_reg0 ?_|refine dw_regB ?_);(conv=>arg 3;whnf))|(refine Spl.go (fun hq he=>?_) (fun hq he=>?_)<;>first|(exfalso;clear hq;omega)|((try first|(conv=>arg 8;simp only [hq])|(conv=>arg 4;simp only [hq]));clear hq))|((with_reducible first|refine c_split (fun hq=>?_) (fun hq=>?_)|refine q_split (fun hq=>?_) (fun hq=>?_))<;>(try first|(conv=>arg 8;simp only [hq])|(conv=>arg 4;simp only [hq])))|exact Sub.refl _|omega)
      all_goals
        refine fin_wk (wk_frzO 2000006 3000001 (by decide) (by decide) rfl (by decide) rfl ?_) ?_
        rotate_left
        (conv in hold _=>simp (disch:=omega) only [go_sem, htk, hsl, List.length_map, Nat.le_refl])
        · refine fin_L [1000000] ?_ ?_ rfl ?_
          repeat' (first|(conv in hold _=>simp (disch:=omega) only [go_sem])|exact trivial|exact Sub.refl _|omega)
        · exact rows_pur _
    · obtain ⟨r0, hr0⟩ : ∃ r, (srt rs)[0]? = some r := ⟨_, List.getElem?_eq_getElem (by omega)⟩
      have hr0m := hsr r0 (List.mem_of_getElem? hr0)
      have hcp := copyRow_ok r0 (by omega)
      by_cases h1 : k = 1
      · have htk2 : ((srt rs).map rowD ++ [rowD r0]).take (rs.length + 1) = (srt rs ++ [r0]).map rowD := by
          rw [List.map_append]
          exact List.take_of_length_le (by rw [List.length_append, List.length_map, hsl]; exact Nat.le_refl _)
        rw [rowD] at htk2
        refine ⟨⟨w, srt rs ++ [r0]⟩, q + 1, ⟨?_, ⟨by show (srt rs ++ [r0]).length ≤ m + 1; rw [List.length_append, hsl]; show rs.length + 1 ≤ m + 1; omega, fun r hrm => ?_⟩, by show (0 : Int) ≤ w; omega, by show (w : Int) ≤ 100; omega⟩, by omega, by omega⟩
        · refine Bk c_Z139 mixed 1 (go1F trivial ?_)
          refine UcR [1000000, 3000001] trivial (ht) (go1F trivial ?_)
          refine UcR [1000000] @hr0 (hk) (go1F @hr0 ?_)
          refine Uc (cj2 @htk @hsl) (hcp) (go1F (cj2 @htk @hsl) ?_)
          refine fin_wk (wk_frzO 2000006 2000034 (by decide) (by decide) rfl (by decide) rfl ?_) ?_
          rotate_left
          (conv in hold _=>simp (disch:=omega) only [go_sem, htk, htk2, hsl, List.length_map, List.length_append, Nat.le_refl])
          · refine fin_L [1000000] ?_ ?_ rfl ?_
            repeat' (first|(conv in hold _=>simp (disch:=omega) only [go_sem])|exact trivial|exact Sub.refl _|omega)
          · exact (show D.purL ((srt rs).map rowD ++ [r0].map rowD) = true by rw [← List.map_append]; exact rows_pur _)
        · rcases List.mem_append.1 hrm with hrm | hrm
          · exact hrow r hrm
          · rw [List.mem_singleton.1 hrm]
            exact hrow r0 (List.mem_of_getElem? hr0)
      · by_cases h2 : k = 2
        · obtain ⟨x, q', ⟨hx, hxl, _⟩, q2, q3⟩ := anyRow_ok hs w hw0 (by omega) (q + 1) (by omega)
          have htk3 : ((srt rs).map rowD).set 0 (rowD x) = ((srt rs).set 0 x).map rowD := by rw [List.map_set]
          have htk4 : (((srt rs).set 0 x).map rowD).take rs.length = ((srt rs).set 0 x).map rowD := List.take_of_length_le (by rw [List.length_map, List.length_set, hsl]; exact Nat.le_refl _)
          rw [rowD] at htk3
          refine ⟨⟨w, (srt rs).set 0 x⟩, q', ⟨?_, ⟨by show ((srt rs).set 0 x).length ≤ m + 1; rw [List.length_set]; omega, fun r hrm => ?_⟩, by show (0 : Int) ≤ w; omega, by show (w : Int) ≤ 100; omega⟩, by omega, by omega⟩
          · refine Bk c_Z139 mixed 1 (go1F trivial ?_)
            refine UcR [1000000, 3000001] trivial (ht) (go1F trivial ?_)
            refine UcR [1000000] @hr0 (hk) (go1F @hr0 ?_)
            refine UcR [1000000] @hr0 (hx) (go1F @hr0 ?_)
            refine fin_wk (wk_frzO 2000006 3000001 (by decide) (by decide) rfl (by decide) rfl ?_) ?_
            rotate_left
            (conv in hold _=>simp (disch:=omega) only [go_sem, htk3, htk4, hsl, List.length_map, List.length_set, Nat.le_refl])
            · refine fin_L [1000000] ?_ ?_ rfl ?_
              repeat' (first|(conv in hold _=>simp (disch:=omega) only [go_sem])|exact trivial|exact Sub.refl _|omega)
            · exact (by rw [htk3]; exact rows_pur _)
          · rcases List.mem_or_eq_of_mem_set hrm with hrm | rfl
            · exact hrow r hrm
            · omega
        · refine ⟨⟨w, srt rs⟩, q + 1, ⟨?_, ⟨by show (srt rs).length ≤ m + 1; omega, hrow⟩, by show (0 : Int) ≤ w; omega, by show (w : Int) ≤ 100; omega⟩, by omega, by omega⟩
          refine Bk c_Z139 mixed 1 (go1F trivial ?_)
          refine UcR [1000000, 3000001] trivial (ht) (go1F trivial ?_)
          refine UcR [1000000] trivial (hk) (go1F trivial ?_)
          refine fin_wk (wk_frzO 2000006 3000001 (by decide) (by decide) rfl (by decide) rfl ?_) ?_
          rotate_left
          (conv in hold _=>simp (disch:=omega) only [go_sem, htk, hsl, List.length_map, Nat.le_refl])
          · refine fin_L [1000000] ?_ ?_ rfl ?_
            repeat' (first|(conv in hold _=>simp (disch:=omega) only [go_sem])|exact trivial|exact Sub.refl _|omega)
          · exact rows_pur _
end Go.Proofs.YtibknjpbbeackaaGreat
set_option maxHeartbeats 4000000
set_option maxRecDepth 100000
set_option linter.unusedVariables false
set_option linter.unusedSimpArgs false
namespace Go.Proofs.YtibknjpbbeackaaGreat
open Go.RowKit
def tupG (g : List V × Nat) : D := .tup [rowsD (List.replicate g.2 g.1)]
theorem tupG_at {gs : List (List V × Nat)} {i : Nat} {es : List D} (h : (gs.map tupG)[i]? = some (.tup es)) : ∃ g, gs[i]? = some g ∧ es = [rowsD (List.replicate g.2 g.1)] := by
  rw [List.getElem?_map] at h
  cases hr : gs[i]? with
  | none => rw [hr] at h; cases h
  | some r =>
    rw [hr] at h
    simp only [Option.map_some, Option.some.injEq, tupG, D.tup.injEq] at h
    exact ⟨r, rfl, h.symm⟩
theorem take_next_run {w : Nat} {l : List (List V)} (hw : RsW w l) (hw6 : w ≤ 6) (ha : Asc l) (hl : l.length ≤ 400) {i : Nat} {g : List V × Nat} (h : (grp l)[i]? = some g) :
    Does Tryz.prog 75 [.obj [rowsD (restG l i), .fn 46 []]] [.ref 1000000 0, rowD g.1] (rowsD (List.replicate g.2 g.1)) [.obj [rowsD (restG l (i + 1)), .fn 46 []]] := by
  have hsub := restG_sub l i
  have hg := hw g.1 (grp_mem (List.mem_of_getElem? h)).1
  have hrw := rsw_sub hsub hw
  obtain ⟨a, b, ⟨hab, a1, a2, b1, b2⟩, hT⟩ := take_ok (restG l i) g.1 (by have := hsub.length_le; omega) hg.2 (fun x hx => ⟨by rw [(hrw x hx).1, hg.1], by rw [(hrw x hx).1]; exact hw6, (hrw x hx).2⟩) (asc_take hrw (asc_sub hsub ha) hg.1 hg.2)
  obtain ⟨e1, e2⟩ := take_run hw ha h hab a1 b1 b2
  rw [e1, e2] at hT
  exact hT
theorem runs_ok {w : Nat} {l : List (List V)} (hw : RsW w l) (hw6 : w ≤ 6) (ha : Asc l) (hl : l.length ≤ 400) :
    Yields Tryz.prog 115 [.ptr [rowsD l], .ptr [.fn 46 []]] ((grp l).map tupG) := by
  refine yields c_Z18 mixed (Nat.le_of_ble_eq_true rfl) (fun i e => ?_)
  conv => arg 3; whnf
  refine go1 trivial ?_
  refine dw_for (c := 1) (l := fun j => [(0, .v (.func (.yield i) #[] #[])), (4, .ref 1000000 0), (1000000, .obj [rowsD (restG l j), .fn 46 []]), (gh, .gho i ((grp l).map tupG) e j)]) (grp l).length (fun j => j ≤ e) 0 (Nat.zero_le _) (Wk.list [2000004] rfl rfl ?_) (fun j hj hJ => ?_) (Nat.zero_le _)
  · rw [restG_0]
    repeat' (first|(conv in hold _=>simp (disch:=omega) only [go_sem])|exact trivial|exact Sub.refl _|omega)
  · by_cases hlt : j < (grp l).length
    · have hg := List.getElem?_eq_getElem hlt
      generalize (grp l)[j] = g at hg
      have hg2 := (grp_mem (List.mem_of_getElem? hg)).2
      have hT := take_next_run hw hw6 ha hl hg
      have hn := restG_next hg
      have h0 : (restG l j)[0]? = some g.1 := by rw [hn, List.getElem?_append_left (by rw [List.length_replicate]; omega), List.getElem?_replicate, if_pos (by omega)]
      have hpos : 0 < (restG l j).length := (List.getElem?_eq_some_iff.1 h0).1
      generalize restG l j = R at *
      refine go1 @h0 ?_
      refine UcR [1000000] trivial (hT) (go1 trivial ?_)
      refine v_yld (by ((conv => lhs; simp (disch := omega) only [go_sem]); try rfl)) (hJ) ((by rw [List.getElem?_map, hg]; rfl)) (by first | rfl | (simp only [go_sem])) ?_
      repeat' (first|with_reducible refine acc_none ?_ | (conv in hold _=>simp (disch:=omega) only [go_sem])|refine Stp.go ?_|(with_reducible first|refine it_pos rfl ?_|refine it_neg (by decide) ?_|refine st_nil rfl ?_|refine s_op ?_ ?_|exact trivial)|((with_reducible first|refine dw_reg0 ?_|refine dw_regB ?_);(conv=>arg 3;whnf))|(refine Spl.go (fun hq he=>?_) (fun hq he=>?_)<;>first|(exfalso;clear hq;omega)|((try first|(conv=>arg 8;simp only [hq])|(conv=>arg 4;simp only [hq]));clear hq))|((with_reducible first|refine c_split (fun hq=>?_) (fun hq=>?_)|refine q_split (fun hq=>?_) (fun hq=>?_))<;>(try first|(conv=>arg 8;simp only [hq])|(conv=>arg 4;simp only [hq])))|(with_reducible refine fin_0 ?_ (by first|rfl|(conv=>lhs;simp only [go_sem])) ?_)|exact Sub.refl _|omega)
      · refine ⟨(j + 1), ?_, ?_⟩
        · ((conv => lhs; simp (disch := omega) only [go_sem]); try rfl)
        simp only [List.length_map]
        omega
      · refine ⟨hlt, by omega, Wk.list [1000000] rfl rfl ?_⟩
        repeat' (first|(conv in hold _=>simp (disch:=omega) only [go_sem])|exact trivial|exact Sub.refl _|omega)
    · have hR : restG l j = [] := restG_end (by omega)
      rw [hR]
      refine go1 trivial ?_
      refine ⟨j, ?_, ?_⟩
      · ((conv => lhs; simp (disch := omega) only [go_sem]); try rfl)
      simp only [List.length_map]
      omega
theorem runsOf_ok (l : List (List V)) : Does Tryz.prog 74 [] [rowsD l, .fn 46 []] (.fn 115 [.ptr [rowsD l], .ptr [.fn 46 []]]) [] := by
  refine Bg c_Z20 mixed (go1F trivial ?_)
  refine fin_wk (wk_fro 4 2000002 (by decide) (by decide) rfl ?_) ?_
  rotate_left
  (conv in hold _=>simp (disch:=omega) only [go_sem])
  · refine fin_wk (wk_fro 4 2000003 (by decide) (by decide) rfl ?_) ?_
    rotate_left
    (conv in hold _=>simp (disch:=omega) only [go_sem])
    · refine fin_L [] ?_ ?_ rfl ?_
      repeat' (first|(conv in hold _=>simp (disch:=omega) only [go_sem])|exact trivial|exact Sub.refl _|omega)
    · rfl
  · rfl
def tupM (lb : List (List V)) (g : List V × Nat) : D := .tup [rowsD (List.replicate g.2 g.1), rowsD (List.replicate (cntE g.1 lb) g.1)]
theorem tupM_at {lb : List (List V)} {gs : List (List V × Nat)} {i : Nat} {es : List D} (h : (gs.map (tupM lb))[i]? = some (.tup es)) : ∃ g, gs[i]? = some g ∧ es = [rowsD (List.replicate g.2 g.1), rowsD (List.replicate (cntE g.1 lb) g.1)] := by
  rw [List.getElem?_map] at h
  cases hr : gs[i]? with
  | none => rw [hr] at h; cases h
  | some r =>
    rw [hr] at h
    simp only [Option.map_some, Option.some.injEq, tupM, D.tup.injEq] at h
    exact ⟨r, rfl, h.symm⟩
theorem take_match {w : Nat} {la lb : List (List V)} (hw : RsW w la) (hwb : RsW w lb) (hw6 : w ≤ 6) (ha : Asc la) (hb : Asc lb) (hl : lb.length ≤ 400) {i : Nat} {g : List V × Nat} (h : (grp la)[i]? = some g) :
    Does Tryz.prog 75 [.obj [rowsD (restB lb (grp la) i), .fn 46 []]] [.ref 1000000 0, rowD g.1] (rowsD (List.replicate (cntE g.1 lb) g.1)) [.obj [rowsD (restB lb (grp la) (i + 1)), .fn 46 []]] := by
  have hsub := restB_sub lb (grp la) i
  have hg := hw g.1 (grp_mem (List.mem_of_getElem? h)).1
  have hrw := rsw_sub hsub hwb
  obtain ⟨a, b, ⟨hab, a1, a2, b1, b2⟩, hT⟩ := take_ok (restB lb (grp la) i) g.1 (by have := hsub.length_le; omega) hg.2 (fun x hx => ⟨by rw [(hrw x hx).1, hg.1], by rw [(hrw x hx).1]; exact hw6, (hrw x hx).2⟩) (asc_take hrw (asc_sub hsub hb) hg.1 hg.2)
  obtain ⟨e1, e2⟩ := take_filter hab a1 a2 b1 b2
  have e3 : restB lb (grp la) (i + 1) = (restB lb (grp la) i).filter (fun x => decide (0 < cmpR x g.1)) := by
    rw [restB, List.getD_eq_getElem?_getD, h, Option.getD_some]
  rw [restB_cnt hw ha h i (Nat.le_refl _)] at e1
  rw [e1, e2, ← e3] at hT
  exact hT
theorem matched_ok {w : Nat} {la lb : List (List V)} (hw : RsW w la) (hwb : RsW w lb) (hw6 : w ≤ 6) (ha : Asc la) (hb : Asc lb) (hla : la.length ≤ 400) (hlb : lb.length ≤ 400) :
    Yields Tryz.prog 73 [.ptr [rowsD lb], .ptr [.fn 46 []], .ptr [rowsD la]] ((grp la).map (tupM lb)) := by
  have hY := runs_ok hw hw6 ha hla
  have h1 := runsOf_ok la
  refine yields c_Z12 mixed (Nat.le_of_ble_eq_true rfl) (fun i e => ?_)
  conv => arg 3; whnf
  refine go1 trivial ?_
  refine Uc trivial (h1) (go1 trivial ?_)
  have hp0 : ∀ (j : Nat) (g : List V × Nat), (grp la)[j]? = some g → (List.replicate g.2 g.1)[0]? = some g.1 ∧ 0 < g.2 := fun j g hg => by
    have := (grp_mem (List.mem_of_getElem? hg)).2
    exact ⟨by rw [List.getElem?_replicate, if_pos (by omega)], by omega⟩
  by_cases hel : e < (grp la).length
  · refine dw_rngX 115 [.ptr [rowsD la], .ptr [.fn 46 []]] ((grp la).map tupG) e 2 2 [(4, .ref 1000000 0), (5, .ref 1000001 0), (12, .fn 115 [.ptr [rowsD la], .ptr [.fn 46 []]])] (fun j => [(1000000, .obj [.v (.func (.yield i) #[] #[])]), (1000001, .obj [rowsD (restB lb (grp la) j), .fn 46 []]), (gh, .gho i ((grp la).map (tupM lb)) e j)]) hY (by kernel_rfl) rfl (Nat.zero_le _) (Nat.le_refl _) (by decide) ?_ (fun j => namesOK_of rfl) (Wk.list [2000004, 2000005] rfl rfl ?_) rfl (fun j es h => by obtain ⟨_, _, rfl⟩ := tupG_at h; rfl) (by rw [List.length_map]; exact hel) (fun j es hj h hp => ?_) (fun es h hp => ?_)
    · simp (disch := omega) only [go_sem, and_self, Nat.reduceLT]
    · repeat' (first|(conv in hold _=>simp (disch:=omega) only [go_sem])|exact trivial|exact Sub.refl _|omega)
      exact rfl
    · obtain ⟨g, hg, rfl⟩ := tupG_at h
      obtain ⟨h0, hpos⟩ := hp0 j g hg
      have hT := take_match hw hwb hw6 ha hb hlb hg
      refine go1 @h0 ?_
      refine UcR [1000001] trivial (hT) (go1 trivial ?_)
      refine v_yld (by ((conv => lhs; simp (disch := omega) only [go_sem]); try rfl)) ((show j ≤ e by omega)) ((by rw [List.getElem?_map, hg]; rfl)) (by first | rfl | (simp only [go_sem])) ?_
      refine go1 trivial ?_
      refine Wk.list [1000000, 1000001] rfl rfl ?_
      repeat' (first|(conv in hold _=>simp (disch:=omega) only [go_sem])|exact trivial|exact Sub.refl _|omega)
    · obtain ⟨g, hg, rfl⟩ := tupG_at h
      obtain ⟨h0, hpos⟩ := hp0 e g hg
      have hT := take_match hw hwb hw6 ha hb hlb hg
      refine go1 @h0 ?_
      refine UcR [1000001] trivial (hT) (go1 trivial ?_)
      refine v_yld (by ((conv => lhs; simp (disch := omega) only [go_sem]); try rfl)) ((Nat.le_refl e)) ((by rw [List.getElem?_map, hg]; rfl)) (by first | rfl | (simp only [go_sem])) ?_
      refine go1 trivial ?_
      refine ⟨[(1000000, .obj [.v (.func (.yield i) #[] #[])]), (1000001, .obj [rowsD (restB lb (grp la) (e + 1)), .fn 46 []]), (gh, .gho i ((grp la).map (tupM lb)) e (e + 1))], namesOK_of rfl, Wk.list [1000000, 1000001] rfl rfl ?_, ?_⟩
      · repeat' (first|(conv in hold _=>simp (disch:=omega) only [go_sem])|exact trivial|exact Sub.refl _|omega)
      · refine ⟨(e + 1), ?_, ?_⟩
        · ((conv => lhs; simp (disch := omega) only [go_sem]); try rfl)
        exact .inr ⟨rfl, by rw [List.length_map]; exact hel⟩
  · refine dw_rng 115 [.ptr [rowsD la], .ptr [.fn 46 []]] ((grp la).map tupG) 2 2 [(4, .ref 1000000 0), (5, .ref 1000001 0), (12, .fn 115 [.ptr [rowsD la], .ptr [.fn 46 []]])] (fun j => [(1000000, .obj [.v (.func (.yield i) #[] #[])]), (1000001, .obj [rowsD (restB lb (grp la) j), .fn 46 []]), (gh, .gho i ((grp la).map (tupM lb)) e j)]) hY (by kernel_rfl) rfl (Nat.zero_le _) (Nat.le_refl _) (by decide) ?_ (fun j => namesOK_of rfl) (Wk.list [2000004, 2000005] rfl rfl ?_) rfl (fun j es h => by obtain ⟨_, _, rfl⟩ := tupG_at h; rfl) (fun j es h hp => ?_) ?_
    · simp (disch := omega) only [go_sem, and_self, Nat.reduceLT]
    · repeat' (first|(conv in hold _=>simp (disch:=omega) only [go_sem])|exact trivial|exact Sub.refl _|omega)
      exact rfl
    · obtain ⟨g, hg, rfl⟩ := tupG_at h
      obtain ⟨h0, hpos⟩ := hp0 j g hg
      have hjl := (List.getElem?_eq_some_iff.1 hg).1
      have hT := take_match hw hwb hw6 ha hb hlb hg
      refine go1 @h0 ?_
      refine UcR [1000001] trivial (hT) (go1 trivial ?_)
      refine v_yld (by ((conv => lhs; simp (disch := omega) only [go_sem]); try rfl)) ((show j ≤ e by omega)) ((by rw [List.getElem?_map, hg]; rfl)) (by first | rfl | (simp only [go_sem])) ?_
      refine go1 trivial ?_
      refine Wk.list [1000000, 1000001] rfl rfl ?_
      repeat' (first|(conv in hold _=>simp (disch:=omega) only [go_sem])|exact trivial|exact Sub.refl _|omega)
    · refine go1 trivial ?_
      refine ⟨(grp la).length, ?_, ?_⟩
      · ((conv => lhs; simp (disch := omega) only [go_sem]); try rfl)
      exact .inl ⟨by rw [List.length_map], by rw [List.length_map]; omega⟩
theorem matchedRuns_ok (la lb : List (List V)) : Does Tryz.prog 45 [] [rowsD la, rowsD lb, .fn 46 []] (.fn 73 [.ptr [rowsD lb], .ptr [.fn 46 []], .ptr [rowsD la]]) [] := by
  refine Bg c_Z15 mixed (go1F trivial ?_)
  refine fin_wk (wk_fro 6 2000003 (by decide) (by decide) rfl ?_) ?_
  rotate_left
  (conv in hold _=>simp (disch:=omega) only [go_sem])
  · refine fin_wk (wk_fro 6 2000004 (by decide) (by decide) rfl ?_) ?_
    rotate_left
    (conv in hold _=>simp (disch:=omega) only [go_sem])
    · refine fin_wk (wk_fro 6 2000005 (by decide) (by decide) rfl ?_) ?_
      rotate_left
      (conv in hold _=>simp (disch:=omega) only [go_sem])
      · refine fin_L [] ?_ ?_ rfl ?_
        repeat' (first|(conv in hold _=>simp (disch:=omega) only [go_sem])|exact trivial|exact Sub.refl _|omega)
      · rfl
    · rfl
  · rfl
end Go.Proofs.YtibknjpbbeackaaGreat

/-
  The law that groups count all rows. No condition.
-/
import Derived.Test.YtibknjpbbeackaaGreatKSDcWEpC
import Derived.Test.YtibknjpbbeackaaGreatKSDca
import Derived.Test.YtibknjpbbeackaaGreatJSVCplE
import Derived.Test.YtibknjpbbeackaaGreatJSVGo
set_option maxHeartbeats 4000000
set_option maxRecDepth 100000
set_option linter.unusedVariables false
set_option linter.unusedSimpArgs false
namespace Go.Proofs.YtibknjpbbeackaaGreat
open Go.RowKit
theorem gc_x (x : Pl) : Sub (.agg [I 8, I 0, .nul, .sl 1 [I 0], .sl 5 [pD x]]) (pD (grP [0] x)) := plS (Sub.nul 5) (Sub.refl _) (Sub.refl _)
def totG (T : List (List V)) (i : Nat) : Int := ((T.take i).map (fun r => (r.getD 1 ⟨false, 0⟩).n)).sum
theorem totG_next {T : List (List V)} {i : Nat} {u : V} {c : Int} (h : T[i]? = some [u, ⟨false, c⟩]) : totG T (i + 1) = totG T i + c := by
  unfold totG
  rw [take_next h, List.map_append, List.sum_append]
  simp
theorem totG_le {T : List (List V)} {m : Nat} (h : ∀ r, r ∈ T → ∃ v c, r = [v, ⟨false, c⟩] ∧ 1 ≤ c ∧ c ≤ (m : Int)) : ∀ i, i ≤ T.length → 0 ≤ totG T i ∧ totG T i ≤ (i : Int) * m
  | 0, _ => ⟨Int.le_refl _, by show (0 : Int) ≤ _; simp⟩
  | i + 1, hi => by
    obtain ⟨h1, h2⟩ := totG_le h i (by omega)
    obtain ⟨r, hr⟩ : ∃ r, T[i]? = some r := ⟨_, List.getElem?_eq_getElem (by omega)⟩
    obtain ⟨v, c, rfl, h3, h4⟩ := h r (List.mem_of_getElem? hr)
    rw [totG_next hr]
    have : ((i + 1 : Nat) : Int) * m = (i : Int) * m + m := by rw [Int.natCast_add, Int.add_mul]; simp
    omega
theorem does_FnGroupCounts (bs : List Nat) (hb : ∀ b, b ∈ bs → b < 256) : Does Tryz.prog 13 [] [bytesD bs] (Bo true) [] := by
  by_cases hlen : bs.length ≤ 1048576
  · obtain ⟨x, db, hd, hz, hdl, hsm, hrb⟩ := DrawEvalPlan_ok bs hb
    obtain ⟨h1, h2⟩ := EvalPlan_fn x (by omega) db (by omega) hsm.sz
    have h3 := equalTables_same (EP db x) (EP_small db x)
    by_cases hf : fitB db x
    · obtain ⟨n, hn, hwt, hdw, hT⟩ := fit_wt hf
      have hn6 := hwt.pos hdw.wid
      have z1 : psz (grP [0] x) ≤ 1048576 := by
        have : psz (grP [0] x) = psz x + 2 := by unfold grP; rw [psk_one, eszL]; simp only [List.length_cons, List.length_nil]; omega
        omega
      have k1 := ((EvalPlan_fn _ z1 db (by omega) hsm.sz).1).weak (es := [.agg [I 8, I 0, .nul, .sl 1 [I 0], .sl 5 [pD x]], tasD db]) ⟨gc_x x, Sub.refl _, trivial⟩ (Sub.refl _)
      rw [EO_t hf] at h1 h2
      rw [EP_t hf] at h1 h2 h3
      by_cases hg : fitB db (grP [0] x)
      · have hfew := hT.few
        have hgl := grpL_len [0] (evP db x).rows
        rw [EP_t hg, EO_t hg, gr_ev, tabT_s (by omega)] at k1
        have hrow : ∀ r, r ∈ srt (grpL [0] (evP db x).rows) → ∃ v c, r = [v, ⟨false, c⟩] ∧ 1 ≤ c ∧ c ≤ ((evP db x).rows.length : Int) := fun r hr => grp_row hT.row hn6.1 (mem_srt.1 hr)
        have hsum := gr_sum hT.row hn6.1
        have hnext := fun (i : Nat) (u v : V) (c d : Int) => gr_next (i := i) (u := u) (v := v) (c := c) (d := d) hT.row hn6.1
        have hTl := srt_len (grpL [0] (evP db x).rows)
        generalize srt (grpL [0] (evP db x).rows) = T at k1 hrow hsum hnext hTl
        have htot := totG_le hrow
        have hte := hT.eta
        generalize (evP db x).rows = rs at hte hfew hgl hsum htot hTl hrow
        rw [hte] at h1 h2 h3
        have hend : totG T T.length = (rs.length : Int) := by unfold totG; rw [List.take_length]; exact hsum
        have hcap : ∀ i, i ≤ T.length → 0 ≤ totG T i ∧ totG T i ≤ 160000 := fun i hi => by
          obtain ⟨a1, a2⟩ := htot i hi
          have : (i : Int) * (rs.length : Int) ≤ 400 * 400 := Int.mul_le_mul (by omega) (by omega) (by omega) (by omega)
          omega
        refine Bg c_Z55 mixed (go1 @bytesD.eq_1 ?_)
        refine Uc @bytesD.eq_1 (hd) (go1 @bytesD.eq_1 ?_)
        refine Uc @bytesD.eq_1 (h1) (go1 @bytesD.eq_1 ?_)
        refine Uc @bytesD.eq_1 (h2) (go1 @bytesD.eq_1 ?_)
        refine Uc @bytesD.eq_1 (h3) (go1 @bytesD.eq_1 ?_)
        refine Uc @bytesD.eq_1 (k1) (go1 @bytesD.eq_1 ?_)
        refine dw_for (c := 2) (l := fun i => [(2, Bo false), (5, .ref 1000000 0), (9, .ref 1000001 0), (10, Bo true), (11, I (totG T i)), (12, I i), (1000000, .obj [I n, rowsD rs]), (1000001, .obj [I 2, rowsD T])]) T.length (fun _ => True) 0 trivial (Wk.list [2000005, 2000009] rfl rfl ?_) (fun i hi _ => ?_) (Nat.zero_le _)
        · repeat' (first|(conv in hold _=>simp (disch:=omega) only [go_sem, bytesD, List.length_map, beq_self_eq_true, bne_self_eq_false])|exact trivial|exact Sub.refl _|omega)
          (repeat' apply And.intro) <;> first | rfl | exact congrArg (fun n => D.v (Value.int .i64 n)) (by omega)
        · rcases at_or_end hi with ⟨r, hr, hlt⟩ | rfl
          · obtain ⟨u, c, rfl, hc1, hc2⟩ := hrow r (List.mem_of_getElem? hr)
            have hb := hcap i hi
            have hnx := totG_next hr
            by_cases h0 : i = 0
            · refine go1 (cj2 @bytesD.eq_1 @hr) ?_
              refine ⟨hlt, trivial, Wk.list [1000000, 1000001] rfl rfl ?_⟩
              repeat' (first|(conv in hold _=>simp (disch:=omega) only [go_sem, bytesD, List.length_map, beq_self_eq_true, bne_self_eq_false, hnx])|exact trivial|exact Sub.refl _|omega)
            · obtain ⟨j, rfl⟩ : ∃ j, i = j + 1 := ⟨i - 1, by omega⟩
              obtain ⟨q, hq⟩ : ∃ q, T[j]? = some q := ⟨_, List.getElem?_eq_getElem (by omega)⟩
              obtain ⟨v, d, rfl, _, _⟩ := hrow q (List.mem_of_getElem? hq)
              have hne := hnext j u v c d hr hq
              have hne2 : (u.b == v.b && u.n == v.n) = false := by
                rw [Bool.eq_false_iff, ne_eq, Bool.and_eq_true, beq_iff_eq, beq_iff_eq]
                intro h
                refine hne ?_
                cases u
                cases v
                simp only at h
                rw [h.1, h.2]
              have hj1 : (((j + 1 : Nat) : Int) - 1).toNat = j := by omega
              have hj2 : ((j : Int) + 1).toNat = j + 1 := by omega
              have hj3 : ((j : Int) + 1 - 1).toNat = j := by omega
              refine go1 (cj7 @bytesD.eq_1 @hr @hq @hne2 @hj1 @hj2 @hj3) ?_
              refine ⟨hlt, trivial, Wk.list [1000000, 1000001] rfl rfl ?_⟩
              repeat' (first|(conv in hold _=>simp (disch:=omega) only [go_sem, bytesD, List.length_map, beq_self_eq_true, bne_self_eq_false, hnx])|exact trivial|exact Sub.refl _|omega)
          · exact go0 (cj2 @bytesD.eq_1 @hend)
      · rw [EP_f hg, EO_f hg] at k1
        generalize evP db x = t at *
        refine Bg c_Z55 mixed (go1 @bytesD.eq_1 ?_)
        refine Uc @bytesD.eq_1 (hd) (go1 @bytesD.eq_1 ?_)
        refine Uc @bytesD.eq_1 (h1) (go1 @bytesD.eq_1 ?_)
        refine Uc @bytesD.eq_1 (h2) (go1 @bytesD.eq_1 ?_)
        refine Uc @bytesD.eq_1 (h3) (go1 @bytesD.eq_1 ?_)
        refine Uc @bytesD.eq_1 (k1) (go1 @bytesD.eq_1 ?_)
        refine dw_for (c := 2) (l := fun i => [(2, Bo false), (5, .ref 1000000 0), (9, .ref 1000001 0), (10, Bo false), (11, I 0), (12, I i), (1000000, .obj [I t.w, rowsD t.rows]), (1000001, .obj [I 0, rowsD []])]) 0 (fun _ => True) 0 trivial (Wk.list [2000005, 2000009] rfl rfl ?_) (fun i hi _ => ?_) (Nat.zero_le _)
        · repeat' (first|(conv in hold _=>simp (disch:=omega) only [go_sem, bytesD, List.length_map, beq_self_eq_true, bne_self_eq_false])|exact trivial|exact Sub.refl _|omega)
          (repeat' apply And.intro) <;> first | rfl | exact congrArg (fun n => D.v (Value.int .i64 n)) (by omega)
        · obtain rfl : i = 0 := by omega
          exact go0 @bytesD.eq_1
    · rw [EO_f hf] at h1 h2
      refine Bg c_Z55 mixed (go1 @bytesD.eq_1 ?_)
      refine Uc @bytesD.eq_1 (hd) (go1 @bytesD.eq_1 ?_)
      refine Uc @bytesD.eq_1 (h1) (go1 @bytesD.eq_1 ?_)
      refine Uc @bytesD.eq_1 (h2) (go1 @bytesD.eq_1 ?_)
      refine Uc @bytesD.eq_1 (h3) (go1 @bytesD.eq_1 ?_)
      exact Uc @bytesD.eq_1 (h3) (go0 @bytesD.eq_1)
  · exact Bg c_Z55 mixed (go0 @bytesD.eq_1)
theorem walk_FnGroupCounts (a : Option Addr) (len cap : Nat) (zs : List Int) (w : World) (h : IsRow .u8 w a len cap zs) :
    Calls Tryz.prog 13 #[.slice a len cap] w fun e W' => e = .returned (.bool true) ∧ Below w.heap.size w W' := walk_of does_FnGroupCounts a len cap zs w h
end Go.Proofs.YtibknjpbbeackaaGreat

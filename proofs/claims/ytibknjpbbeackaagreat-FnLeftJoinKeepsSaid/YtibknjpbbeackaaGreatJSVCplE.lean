/-
  How many rows a plan has at most. No condition.
-/
import Derived.Test.YtibknjpbbeackaaGreatJSVCpl
import Derived.Test.YtibknjpbbeackaaGreatJSVTru
import Derived.Test.YtibknjpbbeackaaGreatJSVWidC
import Derived.Test.YtibknjpbbeackaaGreatKSDca
import Derived.Test.YtibknjpbbeackaaGreatJSDcg
import Derived.Test.YtibknjpbbeackaaGreatJSVEvS
import Derived.Test.YtibknjpbbeackaaGreatJSVLaw
import Derived.Test.YtibknjpbbeackaaGreatJSVGo
import Derived.Test.YtibknjpbbeackaaGreatJSVDst
set_option maxHeartbeats 4000000
set_option maxRecDepth 100000
set_option linter.unusedVariables false
set_option linter.unusedSimpArgs false
namespace Go.Proofs.YtibknjpbbeackaaGreat
open Go.RowKit
theorem tabT_len (w : Int) (l : List (List V)) : (tabT w l).rows.length ≤ l.length := by
  by_cases h : l.length ≤ 400
  · rw [tabT_s h]; exact Nat.le_of_eq (srt_len l)
  · rw [tabT_n h]; exact Nat.zero_le _
theorem dstL_len (rs : List (List V)) : (dstL rs rs.length).length ≤ rs.length := by
  have h := (dstL_sub rs rs.length (Nat.le_refl _)).length_le
  rw [List.take_length] at h
  exact h
theorem grpL_len (cs : List Int) (rs : List (List V)) : (grpL cs rs).length ≤ rs.length := by
  have h := groG_inv cs rs rs.length (Nat.le_refl _)
  rw [List.take_length] at h
  unfold grpL
  rw [List.length_zipWith]
  exact Nat.le_trans (Nat.min_le_left _ _) h.few
theorem rows_rb {ws : List Nat} {db : List Ta} (hs : ∀ t, t ∈ db → t.rows.length ≤ 5) {p : Pl} {n : Nat} (h : Wt ws p n) : (evP db p).rows.length ≤ rb p := by
  induction h with
  | @scan p j w hk ht hw hks =>
    rw [evP_0 hks, rb_0 hks]
    unfold opT
    rw [if_pos hk, ht, Int.toNat_natCast, List.getD_eq_getElem?_getD]
    cases hj : db[j]? with
    | none => exact Nat.zero_le _
    | some t => exact hs t (List.mem_of_getElem? hj)
  | @filter p q w e hk hks hes hq he ih =>
    rw [evP_1 hks, rb_1 hks]
    unfold opT
    rw [if_neg (by omega), if_pos hk]
    exact Nat.le_trans (tabT_len _ _) (Nat.le_trans (List.length_filter_le _ _) ih)
  | @project p q w hk hks hq hes hl ih =>
    rw [evP_1 hks, rb_1 hks]
    unfold opT
    rw [if_neg (by omega), if_neg (by omega), if_pos hk]
    exact Nat.le_trans (tabT_len _ _) (by rw [List.length_map]; exact ih)
  | @join p q r wa wb e hk hks hes hq hr he hw iq ir =>
    rw [evP_2 hks, rb_2 hks, if_neg (by omega)]
    unfold opT
    rw [if_neg (by omega), if_neg (by omega), if_neg (by omega), if_pos hk]
    exact Nat.le_trans (tabT_len _ _) (Nat.le_trans (joiL_len _ _ _ _ _) (Nat.mul_le_mul iq (Nat.succ_le_succ ir)))
  | @union p q r w hk hks hq hr iq ir =>
    rw [evP_2 hks, rb_2 hks, if_pos hk]
    unfold opT
    rw [if_neg (by omega), if_neg (by omega), if_neg (by omega), if_neg (by omega), if_pos hk]
    exact Nat.le_trans (tabT_len _ _) (by rw [List.length_append]; omega)
  | @distinct p q w hk hks hq ih =>
    rw [evP_1 hks, rb_1 hks]
    unfold opT
    rw [if_neg (by omega), if_neg (by omega), if_neg (by omega), if_neg (by omega), if_neg (by omega), if_pos hk]
    exact Nat.le_trans (dstL_len _) ih
  | @group p q w hk hks hq hc hl ih =>
    rw [evP_1 hks, rb_1 hks]
    unfold opT
    rw [if_neg (by omega), if_neg (by omega), if_neg (by omega), if_neg (by omega), if_neg (by omega), if_neg (by omega)]
    exact Nat.le_trans (tabT_len _ _) (Nat.le_trans (grpL_len _ _) ih)
end Go.Proofs.YtibknjpbbeackaaGreat
set_option maxHeartbeats 4000000
set_option maxRecDepth 100000
set_option linter.unusedVariables false
set_option linter.unusedSimpArgs false
namespace Go.Proofs.YtibknjpbbeackaaGreat
open Go.RowKit
def joP (k : Int) (e : E) (p q : Pl) : Pl := .mk k 0 [e] [] [p, q]
theorem jo_ev {db : List Ta} {k : Int} (hk : k = 4 ∨ k = 5) {e : E} {p q : Pl} : evP db (joP k e p q) = tabT ((evP db p).w + (evP db q).w) (joiL (k == 5) (evP db q).w.toNat e (evP db p).rows (evP db q).rows) := by
  rw [evP_2 (q := p) (r := q) rfl]
  unfold opT
  rw [if_neg (show ¬ (joP k e p q).k = 1 from fun h => by have h : k = 1 := h; omega), if_neg (show ¬ (joP k e p q).k = 2 from fun h => by have h : k = 2 := h; omega), if_neg (show ¬ (joP k e p q).k = 3 from fun h => by have h : k = 3 := h; omega), if_pos (show (joP k e p q).k = 4 ∨ (joP k e p q).k = 5 from hk)]
  rfl
theorem fit_join {db : List Ta} {x : Pl} (hf : fitB db x) (hk : x.k = 4 ∨ x.k = 5) : ∃ (e : E) (q r : Pl) (wa wb : Nat), x = joP x.k e q r ∧ (Wt (dbWs db) q wa ∧ Wt (dbWs db) r wb) ∧ TabW wa (evP db q) ∧ TabW wb (evP db r) ∧ (1 ≤ wa ∧ 1 ≤ wb ∧ wa + wb ≤ 6) ∧ TabW (wa + wb) (evP db x) := by
  obtain ⟨n, hn, hwt, hd, hT⟩ := fit_wt hf
  have hw := PV_ok hf.2
  have hfl := wd_fields (by have := hf.2; rw [PV_t hw] at this; exact this)
  unfold fields at hfl
  cases hwt with
  | scan h1 _ _ _ => omega
  | filter h1 _ _ _ _ => omega
  | project h1 _ _ _ _ => omega
  | union h1 _ _ _ => omega
  | distinct h1 _ _ => omega
  | group h1 _ _ _ _ => omega
  | @join _ q r wa wb e h1 hks hes hq hr he hwl =>
    have ha := hq.pos hd.wid
    have hb := hr.pos hd.wid
    refine ⟨e, q, r, wa, wb, ?_, ⟨hq, hr⟩, (evalPlan_ok hd hq).1, (evalPlan_ok hd hr).1, by omega, hT⟩
    cases x with
    | mk k t es cs ks =>
      have h2 : es = [e] := hes
      have h3 : ks = [q, r] := hks
      have h4 : t = 0 := by simp only [Pl.k, Pl.t] at hfl hk; omega
      have h5 : cs = [] := List.length_eq_zero_iff.1 (by simp only [Pl.k, Pl.cs] at hfl hk; omega)
      rw [h2, h3, h4, h5]
      rfl
theorem fit_kid {db : List Ta} {p x : Pl} (h : fitB db p) (hx : x ∈ p.ks) : fitB db x := ⟨h.1, PV_kid h.2 hx⟩
theorem small_5 {db : List Ta} (h : smallDb db) : ∀ t, t ∈ db → t.rows.length ≤ 5 := fun t ht => (h t ht).1
theorem out_some (n : Nat) (e : E) (r : List V) (rb : List (List V)) : outL true n e r rb ≠ [] := by
  unfold outL
  split
  · exact List.cons_ne_nil _ _
  · rename_i h
    intro h0
    rw [h0] at h
    exact h rfl
theorem out_len (n : Nat) (e : E) (r : List V) (rb : List (List V)) : 1 ≤ (outL true n e r rb).length := by
  have := out_some n e r rb
  cases h : outL true n e r rb with
  | nil => exact absurd h this
  | cons a l => rw [List.length_cons]; omega
theorem joi_keep (n : Nat) (e : E) (rb : List (List V)) : ∀ ra : List (List V), ra.length ≤ (joiL true n e ra rb).length
  | [] => Nat.le_refl _
  | a :: ra => by
    have h1 : joiL true n e (a :: ra) rb = outL true n e a rb ++ joiL true n e ra rb := List.flatMap_cons
    have := out_len n e a rb
    have := joi_keep n e rb ra
    rw [h1, List.length_append, List.length_cons]
    omega
theorem out_head {n : Nat} {e : E} {r x : List V} {rb : List (List V)} (h : x ∈ outL true n e r rb) : x.take r.length = r := by
  have hh : ∀ y : List V, (r ++ y).take r.length = r := fun y => List.take_left ..
  unfold outL at h
  split at h
  · rw [List.mem_singleton.1 h]; exact hh _
  · unfold mtL at h
    obtain ⟨y, _, rfl⟩ := List.mem_map.1 (List.mem_filter.1 h).1
    exact hh y
theorem joi_head {wa : Nat} {n : Nat} {e : E} {ra rb : List (List V)} (h : ∀ r, r ∈ ra → r.length = wa) (z : List V) : (∃ x, x ∈ joiL true n e ra rb ∧ x.take wa = z) ↔ z ∈ ra := by
  constructor
  · rintro ⟨x, hx, hz⟩
    obtain ⟨r, hr, hx⟩ := List.mem_flatMap.1 hx
    have h1 := out_head hx
    rw [h r hr] at h1
    rw [← hz, h1]
    exact hr
  · intro hz
    have h2 := out_some n e z rb
    cases h3 : outL true n e z rb with
    | nil => exact absurd h3 h2
    | cons x l =>
      have hx : x ∈ outL true n e z rb := by rw [h3]; exact List.mem_cons_self ..
      have h1 := out_head hx
      rw [h z hz] at h1
      exact ⟨x, List.mem_flatMap.2 ⟨z, hz, hx⟩, h1⟩
end Go.Proofs.YtibknjpbbeackaaGreat
set_option maxHeartbeats 4000000
set_option maxRecDepth 100000
set_option linter.unusedVariables false
set_option linter.unusedSimpArgs false
namespace Go.Proofs.YtibknjpbbeackaaGreat
open Go.RowKit
theorem psk_one (k : Int) (es : List E) (cs : List Int) (p : Pl) : psz (.mk k 0 es cs [p]) = eszL es + cs.length + psz p + 1 := by
  rw [psz, pszL, pszL]
  omega
theorem psk_two (k : Int) (es : List E) (cs : List Int) (p q : Pl) : psz (.mk k 0 es cs [p, q]) = eszL es + cs.length + psz p + psz q + 2 := by
  rw [psz, pszL, pszL, pszL]
  omega
theorem wt_bound {db : List Ta} (h : smallDb db) {x : Pl} {n : Nat} (hw : Wt (dbWs db) x n) : (evP db x).rows.length ≤ rb x := rows_rb (small_5 h) hw
theorem fit_fields {db : List Ta} {x : Pl} (hf : fitB db x) : fields x := by
  have hw := PV_ok hf.2
  have h := hf.2
  rw [PV_t hw] at h
  exact wd_fields h
end Go.Proofs.YtibknjpbbeackaaGreat
set_option maxHeartbeats 4000000
set_option maxRecDepth 100000
set_option linter.unusedVariables false
set_option linter.unusedSimpArgs false
namespace Go.Proofs.YtibknjpbbeackaaGreat
open Go.RowKit
/-! Groups. -/
theorem isK_iff {key a : List V} : isK key a = true ↔ a = key := by
  unfold isK
  rw [beq_iff_eq]
  exact ⟨cmpR_eq, fun h => by rw [h]; exact cmpR_self key⟩
theorem sum_set : ∀ (l : List Int) (i : Nat) (c : Int), l[i]? = some c → (l.set i (c + 1)).sum = l.sum + 1
  | [], i, c, h => by simp at h
  | a :: l, 0, c, h => by
    obtain rfl : a = c := by simpa using h
    rw [List.set_cons_zero, List.sum_cons, List.sum_cons]
    omega
  | a :: l, i + 1, c, h => by
    have := sum_set l i c (by simpa using h)
    rw [List.set_cons_succ, List.sum_cons, List.sum_cons, this]
    omega
structure GroK (cs : List Int) (rs : List (List V)) (n : Nat) (s : List (List V) × List Int) : Prop where
  mem : ∀ k, k ∈ s.1 ↔ ∃ r, r ∈ rs.take n ∧ pkR cs r = k
  one : s.1.Nodup
  sum : s.2.sum = n
  pos : ∀ c, c ∈ s.2 → 1 ≤ c
  same : s.2.length = s.1.length
theorem groK (cs : List Int) (rs : List (List V)) : ∀ i, i ≤ rs.length → GroK cs rs i (groG cs (rs.take i))
  | 0, _ => ⟨fun k => ⟨(fun h => by cases h), (fun ⟨r, h, _⟩ => by rw [List.take_zero] at h; cases h)⟩, List.nodup_nil, rfl, (fun c h => by cases h), rfl⟩
  | i + 1, hi => by
    obtain ⟨x, hx⟩ : ∃ x, rs[i]? = some x := ⟨_, List.getElem?_eq_getElem (by omega)⟩
    obtain ⟨h1, h2, h3, h4, h5⟩ := groK cs rs i (by omega)
    have htk := take_next hx
    rw [groG_next hx]
    generalize groG cs (rs.take i) = s at h1 h2 h3 h4 h5
    have hmem : ∀ k, (∃ r, r ∈ rs.take (i + 1) ∧ pkR cs r = k) ↔ (k ∈ s.1 ∨ k = pkR cs x) := fun k => by
      rw [h1 k, htk]
      constructor
      · rintro ⟨r, hr, he⟩
        rcases List.mem_append.1 hr with hr | hr
        · exact Or.inl ⟨r, hr, he⟩
        · exact Or.inr (by rw [← he, List.mem_singleton.1 hr])
      · rintro (⟨r, hr, he⟩ | he)
        · exact ⟨r, List.mem_append_left _ hr, he⟩
        · exact ⟨x, List.mem_append_right _ (List.mem_singleton.2 rfl), he.symm⟩
    generalize pkR cs x = key at hmem
    unfold stpG
    split
    · rename_i hp
      have hn : key ∉ s.1 := fun hk => by
        have := List.findIdx_lt_length.2 ⟨key, hk, isK_iff.2 rfl⟩
        unfold posG at hp
        omega
      refine ⟨fun k => ?_, List.nodup_append.2 ⟨h2, List.nodup_cons.2 ⟨List.not_mem_nil, List.nodup_nil⟩, fun a ha b hb => ?_⟩, ?_, fun c hc => ?_, ?_⟩
      · rw [hmem k, List.mem_append, List.mem_singleton]
      · rw [List.mem_singleton.1 hb]
        exact fun h => hn (h ▸ ha)
      · rw [List.sum_append, h3]; simp
      · rcases List.mem_append.1 hc with hc | hc
        · exact h4 c hc
        · rw [List.mem_singleton.1 hc]; decide
      · rw [List.length_append, List.length_append, h5]; rfl
    · rename_i hp
      have hlt : posG key s.1 < s.1.length := Nat.lt_of_le_of_ne (posG_le key s.1) hp
      obtain ⟨a, ha⟩ : ∃ a, s.1[posG key s.1]? = some a := ⟨_, List.getElem?_eq_getElem hlt⟩
      have hak := cmpR_eq (posG_eq ha)
      have hkm : key ∈ s.1 := by rw [← hak]; exact List.mem_of_getElem? ha
      obtain ⟨c, hc⟩ : ∃ c, s.2[posG key s.1]? = some c := ⟨_, List.getElem?_eq_getElem (by omega)⟩
      have hgd : s.2.getD (posG key s.1) 0 = c := by rw [List.getD_eq_getElem?_getD, hc]; rfl
      rw [hgd]
      refine ⟨fun k => ?_, h2, ?_, fun c' hc' => ?_, ?_⟩
      · rw [hmem k]
        exact ⟨Or.inl, fun h => h.elim id (fun h => by rw [h]; exact hkm)⟩
      · show (s.2.set (posG key s.1) (c + 1)).sum = _
        rw [sum_set _ _ _ hc, h3]
        omega
      · rcases List.mem_or_eq_of_mem_set hc' with h | h
        · exact h4 c' h
        · have := h4 c (List.mem_of_getElem? hc); omega
      · show (s.2.set (posG key s.1) (c + 1)).length = _
        rw [List.length_set]
        exact h5
theorem groK_all (cs : List Int) (rs : List (List V)) : GroK cs rs rs.length (groG cs rs) := by
  have h := groK cs rs rs.length (Nat.le_refl _)
  rw [List.take_length] at h
  exact h
end Go.Proofs.YtibknjpbbeackaaGreat
set_option maxHeartbeats 4000000
set_option maxRecDepth 100000
set_option linter.unusedVariables false
set_option linter.unusedSimpArgs false
namespace Go.Proofs.YtibknjpbbeackaaGreat
open Go.RowKit
theorem ascS_of : ∀ {l : List (List V)}, Asc l → l.Nodup → AscS l
  | [], _, _ => List.Pairwise.nil
  | a :: l, ha, hn => by
    obtain ⟨h1, h2⟩ := List.pairwise_cons.1 ha
    obtain ⟨h3, h4⟩ := List.nodup_cons.1 hn
    refine List.pairwise_cons.2 ⟨fun b hb => ?_, ascS_of h2 h4⟩
    have h5 : cmpR a b ≤ 0 := h1 b hb
    have h6 : cmpR a b ≠ 0 := fun h0 => h3 (cmpR_eq h0 ▸ hb)
    omega
theorem pk_0 {r : List V} (h : 1 ≤ r.length) : ∃ v, r[0]? = some v ∧ pkR [0] r = [v] ∧ prjR [colE 0] r = [v] := by
  obtain ⟨v, hv⟩ : ∃ v, r[0]? = some v := ⟨_, List.getElem?_eq_getElem (by omega)⟩
  refine ⟨v, hv, ?_, ?_⟩
  · unfold pkR
    rw [List.map_cons, List.map_nil]
    show [r.getD 0 ⟨false, 0⟩] = [v]
    rw [List.getD_eq_getElem?_getD, hv]
    rfl
  · unfold prjR
    rw [List.map_cons, List.map_nil, ev_colE hv]
theorem zip_snd {α β γ : Type} (f : α → β → γ) (g : γ → β) : ∀ (l : List α) (m : List β), (∀ a, a ∈ l → ∀ b, g (f a b) = b) → m.length = l.length → (List.zipWith f l m).map g = m
  | [], [], _, _ => rfl
  | a :: l, b :: m, hg, h => by rw [List.zipWith_cons_cons, List.map_cons, hg a (List.mem_cons_self ..), zip_snd f g l m (fun a ha => hg a (List.mem_cons_of_mem _ ha)) (by simpa using h)]
  | [], _ :: _, _, h => by simp at h
  | _ :: _, [], _, h => by simp at h
theorem zip_fstR {β : Type} (f : List V → β → List V) (g : List V → List V) : ∀ (l : List (List V)) (m : List β), (∀ a, a ∈ l → ∀ b, g (f a b) = a) → m.length = l.length → (List.zipWith f l m).map g = l
  | [], [], _, _ => rfl
  | a :: l, b :: m, hg, h => by rw [List.zipWith_cons_cons, List.map_cons, hg a (List.mem_cons_self ..), zip_fstR f g l m (fun a ha => hg a (List.mem_cons_of_mem _ ha)) (by simpa using h)]
  | [], _ :: _, _, h => by simp at h
  | _ :: _, [], _, h => by simp at h
theorem zipW_mem {α β γ : Type} {f : α → β → γ} : ∀ {l : List α} {m : List β} {x : γ}, x ∈ List.zipWith f l m → ∃ a b, a ∈ l ∧ b ∈ m ∧ x = f a b
  | [], _, x, h => by simp at h
  | _ :: _, [], x, h => by simp at h
  | a :: l, b :: m, x, h => by
    rw [List.zipWith_cons_cons] at h
    rcases List.mem_cons.1 h with rfl | h
    · exact ⟨a, b, List.mem_cons_self .., List.mem_cons_self .., rfl⟩
    · obtain ⟨a', b', h1, h2, h3⟩ := zipW_mem h
      exact ⟨a', b', List.mem_cons_of_mem _ h1, List.mem_cons_of_mem _ h2, h3⟩
section
variable {n : Nat} {rs : List (List V)} (hr : RsW n rs) (hn : 1 ≤ n)
include hr hn
theorem key_one {k : List V} (h : k ∈ (groG [0] rs).1) : ∃ v, k = [v] := by
  obtain ⟨r, hm, he⟩ := ((groK_all [0] rs).mem k).1 h
  obtain ⟨v, _, h1, _⟩ := pk_0 (r := r) (by have := (hr r (List.mem_of_mem_take hm)).1; omega)
  exact ⟨v, by rw [← he, h1]⟩
theorem grp_keys : (grpL [0] rs).map (prjR [colE 0]) = (groG [0] rs).1 := by
  unfold grpL
  refine zip_fstR _ _ _ _ (fun a ha b => ?_) (groK_all [0] rs).same
  obtain ⟨v, rfl⟩ := key_one hr hn ha
  unfold prjR
  rw [List.map_cons, List.map_nil, ev_colE (v := v) rfl]
theorem grp_cnts : (grpL [0] rs).map (fun r => (r.getD 1 ⟨false, 0⟩).n) = (groG [0] rs).2 := by
  unfold grpL
  refine zip_snd _ _ _ _ (fun a ha b => ?_) (groK_all [0] rs).same
  obtain ⟨v, rfl⟩ := key_one hr hn ha
  rfl
theorem grp_row {x : List V} (h : x ∈ grpL [0] rs) : ∃ v c, x = [v, ⟨false, c⟩] ∧ 1 ≤ c ∧ c ≤ rs.length := by
  unfold grpL at h
  obtain ⟨a, c, ha, hc, rfl⟩ := zipW_mem h
  obtain ⟨v, rfl⟩ := key_one hr hn ha
  have hi := groG_inv [0] rs rs.length (Nat.le_refl _)
  rw [List.take_length] at hi
  exact ⟨v, c, rfl, (groK_all [0] rs).pos c hc, (hi.cnt c hc).2⟩
theorem grp_nodup : ((srt (grpL [0] rs)).map (prjR [colE 0])).Nodup := by
  rw [((srt_perm (grpL [0] rs)).map (prjR [colE 0])).nodup_iff, grp_keys hr hn]
  exact (groK_all [0] rs).one
theorem grp_dst : srt ((srt (grpL [0] rs)).map (prjR [colE 0])) = dstL (srt (rs.map (prjR [colE 0]))) (srt (rs.map (prjR [colE 0]))).length := by
  have hp : RsW 1 (rs.map (prjR [colE 0])) := rsw_prj (w := n) hr (es := [colE 0]) (fun e he => by rw [List.mem_singleton.1 he]; exact col_ok (by omega) 8)
  have hm : ∀ x, x ∈ (srt (grpL [0] rs)).map (prjR [colE 0]) ↔ x ∈ rs.map (prjR [colE 0]) := fun x => by
    rw [((srt_perm (grpL [0] rs)).map (prjR [colE 0])).mem_iff, grp_keys hr hn, (groK_all [0] rs).mem x, List.take_length, List.mem_map]
    constructor
    · rintro ⟨r, h1, h2⟩
      obtain ⟨v, _, h3, h4⟩ := pk_0 (r := r) (by have := (hr r h1).1; omega)
      exact ⟨r, h1, by rw [h4, ← h3, h2]⟩
    · rintro ⟨r, h1, h2⟩
      obtain ⟨v, _, h3, h4⟩ := pk_0 (r := r) (by have := (hr r h1).1; omega)
      exact ⟨r, h1, by rw [h3, ← h4, h2]⟩
  have hq : RsW 1 ((srt (grpL [0] rs)).map (prjR [colE 0])) := fun x hx => hp x ((hm x).1 hx)
  obtain ⟨d1, d2⟩ := dst_ascS (srt_rsw hp) (srt_asc hp)
  refine ascS_unique (dst_rsw (srt_rsw hp)) (ascS_of (srt_asc hq) ((srt_perm _).nodup_iff.2 (grp_nodup hr hn))) d1 fun x => ?_
  rw [mem_srt, hm, d2, mem_srt]
end
theorem gk_ev {db : List Ta} {x : Pl} {n : Nat} (h : TabW n (evP db x)) (hn : 1 ≤ n) : evP db (prP [colE 0] (grP [0] x)) = evP db (diP (prP [colE 0] x)) := by
  have hf := h.few
  have hgl := grpL_len [0] (evP db x).rows
  have e1 : ∀ w : Int, tabT w (grpL [0] (evP db x).rows) = ⟨w, srt (grpL [0] (evP db x).rows)⟩ := fun w => tabT_s (by omega)
  have e2 : ∀ w : Int, tabT w ((srt (grpL [0] (evP db x).rows)).map (prjR [colE 0])) = ⟨w, srt ((srt (grpL [0] (evP db x).rows)).map (prjR [colE 0]))⟩ := fun w => tabT_s (by rw [List.length_map, srt_len]; omega)
  have e3 : ∀ w : Int, tabT w ((evP db x).rows.map (prjR [colE 0])) = ⟨w, srt ((evP db x).rows.map (prjR [colE 0]))⟩ := fun w => tabT_s (by rw [List.length_map]; omega)
  rw [pr_ev, gr_ev, di_ev, pr_ev, e1, e3]
  show tabT _ ((srt _).map _) = _
  rw [e2]
  show Ta.mk _ _ = Ta.mk _ _
  rw [grp_dst h.row hn]
theorem sum_perm : ∀ {l m : List Int}, l.Perm m → l.sum = m.sum := fun h => by
  induction h with
  | nil => rfl
  | cons a _ ih => rw [List.sum_cons, List.sum_cons, ih]
  | swap a b l => rw [List.sum_cons, List.sum_cons, List.sum_cons, List.sum_cons]; omega
  | trans _ _ h1 h2 => rw [h1, h2]
theorem gr_sum {n : Nat} {rs : List (List V)} (hr : RsW n rs) (hn : 1 ≤ n) : ((srt (grpL [0] rs)).map (fun r => (r.getD 1 ⟨false, 0⟩).n)).sum = rs.length := by
  rw [sum_perm ((srt_perm (grpL [0] rs)).map _), grp_cnts hr hn]
  exact (groK_all [0] rs).sum
theorem gr_next {n : Nat} {rs : List (List V)} (hr : RsW n rs) (hn : 1 ≤ n) {i : Nat} {u v : V} {c d : Int} (hi : (srt (grpL [0] rs))[i + 1]? = some [u, ⟨false, c⟩]) (hj : (srt (grpL [0] rs))[i]? = some [v, ⟨false, d⟩]) : u ≠ v := fun he => by
  have h := grp_nodup hr hn
  have h1 : ((srt (grpL [0] rs)).map (prjR [colE 0]))[i + 1]? = some [u] := by rw [List.getElem?_map, hi]; exact congrArg some (by unfold prjR; rw [List.map_cons, List.map_nil, ev_colE (v := u) rfl])
  have h2 : ((srt (grpL [0] rs)).map (prjR [colE 0]))[i]? = some [v] := by rw [List.getElem?_map, hj]; exact congrArg some (by unfold prjR; rw [List.map_cons, List.map_nil, ev_colE (v := v) rfl])
  obtain ⟨l1, e1⟩ := List.getElem?_eq_some_iff.1 h1
  obtain ⟨l2, e2⟩ := List.getElem?_eq_some_iff.1 h2
  exact List.pairwise_iff_getElem.1 h i (i + 1) l2 l1 (Nat.lt_succ_self i) (by rw [e1, e2, he])
end Go.Proofs.YtibknjpbbeackaaGreat

/-
  Folding keeps values, and sizes do not grow. No condition.
-/
import Derived.Test.YtnakdmodegfibaaVFoldK
import Derived.Test.YtnakdmodegfibaaVWLaws
set_option maxHeartbeats 4000000
set_option maxRecDepth 100000
namespace Go.Proofs.Ytnakdmodegfibaa
open Go.RowKit

theorem evL_const {row : List V} : ∀ {l : List E}, l.all isC = true → evL l [] = evL l row
  | [], _ => by rw [evL, evL]
  | e :: l, h => by
    rw [List.all_cons, Bool.and_eq_true] at h
    have hk : e.k = 2 := beq_iff_eq.1 h.1
    rw [evL, evL, evL_const h.2, ev_const hk, ev_const hk]
theorem ev_kids {k c : Int} {v : V} {l m : List E} {r s : List V} (h1 : ¬ k = 1) (h : evL l r = evL m s) : ev (.mk k c v l) r = ev (.mk k c v m) s := by
  rw [ev, ev, if_neg h1, if_neg h1, h]
theorem isC_ev {e : E} {row : List V} {f : V → Int} {z : Int} (h : (isC e && f e.v == z) = true) : f (ev e row) = z := by
  rw [Bool.and_eq_true] at h
  rw [ev_const (beq_iff_eq.1 h.1)]
  exact beq_iff_eq.1 h.2
theorem comb_8 {a b : V} (h : tr a = 0 ∨ tr b = 0) : comb 8 a b = ⟨false, 0⟩ := by
  have : andTr (tr a) (tr b) = 0 := by
    unfold andTr
    have ha := tr_range a
    have hb := tr_range b
    (repeat' split) <;> omega
  unfold comb
  rw [if_pos rfl, this]
  rfl
theorem comb_9 {a b : V} (h : tr a = 1 ∨ tr b = 1) : comb 9 a b = ⟨false, 1⟩ := by
  have : andTr (notTr (tr a)) (notTr (tr b)) = 0 := by
    have ha := tr_range a
    have hb := tr_range b
    unfold andTr notTr
    (repeat' split) <;> omega
  unfold comb
  rw [if_neg (by decide), if_pos rfl, this]
  rfl
theorem ev_foldTop {e : E} {w : Int} {d : Nat} (h : eOk e w d) (row : List V) : ev (foldTop e) row = ev e row := by
  unfold foldTop
  split
  · rfl
  · rename_i hemp
    have hlen : ¬ e.ks = [] := fun h' => hemp (by rw [h']; rfl)
    split
    · rename_i hall
      have hk1 : ¬ e.k = 1 := fun h' => by
        rcases eOk_kids h with ⟨_, h2⟩ | ⟨h2, _⟩ | ⟨h2, _⟩
        · exact hlen h2
        · omega
        · omega
      rw [ev_const (by rfl)]
      show ev e [] = ev e row
      cases e with
      | mk k c v ks => exact ev_kids hk1 (evL_const hall)
    · split
      · rename_i h8
        obtain ⟨hk, ha⟩ := h8
        rw [ev_const (by rfl)]
        show (⟨false, 0⟩ : V) = ev e row
        obtain ⟨x, hx, hz⟩ := List.any_eq_true.1 ha
        rw [itr_tr0] at hz
        have hz := isC_ev (row := row) hz
        rcases eOk_kids h with ⟨_, h2⟩ | ⟨h2, _⟩ | ⟨_, a, b, hks, _⟩
        · exact (hlen h2).elim
        · omega
        · rw [ev_two (by omega) (by omega) (by omega) (by omega) hks, hk, comb_8]
          rw [hks] at hx
          rcases List.mem_cons.1 hx with rfl | hx
          · exact Or.inl hz
          · obtain rfl : x = b := by simpa using hx
            exact Or.inr hz
      · split
        · rename_i h9
          obtain ⟨hk, ha⟩ := h9
          rw [ev_const (by rfl)]
          show (⟨false, 1⟩ : V) = ev e row
          obtain ⟨x, hx, hz⟩ := List.any_eq_true.1 ha
          rw [itr_tr2] at hz
          have hz := isC_ev (row := row) hz
          rcases eOk_kids h with ⟨_, h2⟩ | ⟨h2, _⟩ | ⟨_, a, b, hks, _⟩
          · exact (hlen h2).elim
          · omega
          · rw [ev_two (by omega) (by omega) (by omega) (by omega) hks, hk, comb_9]
            rw [hks] at hx
            rcases List.mem_cons.1 hx with rfl | hx
            · exact Or.inl hz
            · obtain rfl : x = b := by simpa using hx
              exact Or.inr hz
        · rfl
theorem ev_foldE {w : Int} (row : List V) : ∀ (e : E) (d : Nat), eOk e w d → ev (foldE e) row = ev e row := by
  refine E.ind (fun e ih d h => ?_)
  have h1 := (eOk_iff e w d).1 h
  rw [foldE_eq, ev_foldTop (foldKids_ok h fun x hx => foldE_ok x (d - 1) (h1.2.2.1 x hx))]
  have hl : evL (foldL e.ks) row = evL e.ks row := by
    rw [foldL_map, evL_map, evL_map, List.map_map]
    exact List.map_congr_left (fun x hx => ih x hx (d - 1) (h1.2.2.1 x hx))
  by_cases hk : e.k = 1
  · have h0 : e.ks = [] := by
      rcases eOk_kids h with ⟨_, h2⟩ | ⟨h2, _⟩ | ⟨h2, _⟩
      · exact h2
      · omega
      · omega
    rw [h0]
    cases e with
    | mk k c v ks => obtain rfl : ks = [] := h0; rw [foldL]; rfl
  · cases e with
    | mk k c v ks => exact ev_kids hk hl
theorem esz_foldE : ∀ e : E, esz (foldE e) ≤ esz e := by
  refine E.ind (fun e ih => ?_)
  have hl : ∀ l : List E, (∀ x, x ∈ l → esz (foldE x) ≤ esz x) → eszL (foldL l) ≤ eszL l := by
    intro l
    induction l with
    | nil => intro _; rw [foldL]; exact Nat.le_refl _
    | cons x l ihl =>
      intro h
      have h1 := h x (List.mem_cons_self ..)
      have h2 := ihl (fun y hy => h y (List.mem_cons_of_mem _ hy))
      rw [foldL, eszL, eszL]
      omega
  have h1 := hl e.ks ih
  have h2 := esz_eq e
  have h3 := esz_eq (.mk e.k e.c e.v (foldL e.ks))
  rw [E.ks_mk] at h3
  rw [foldE_eq]
  rcases foldTop_or (.mk e.k e.c e.v (foldL e.ks)) with h | ⟨v, h⟩
  · rw [h]; omega
  · rw [h, esz_eq]
    show 1 + eszL [] ≤ _
    rw [eszL]
    omega
end Go.Proofs.Ytnakdmodegfibaa

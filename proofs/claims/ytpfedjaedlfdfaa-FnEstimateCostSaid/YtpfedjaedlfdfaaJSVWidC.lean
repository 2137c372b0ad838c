/-
  Sorted rows. Plain lemmas.
-/
import Derived.Test.YtpfedjaedlfdfaaJSVCmpR
import Derived.Test.YtpfedjaedlfdfaaJSDcVWidC
import Derived.Test.YtpfedjaedlfdfaaKSDca
import Derived.Test.YtpfedjaedlfdfaaKSVWidB
import Derived.Test.YtpfedjaedlfdfaaJSVTbD
set_option linter.unusedVariables false
namespace Go.Proofs.Ytpfedjaedlfdfaa
open Go.RowKit
/-- Valid rows of a width. -/
def RsW (w : Nat) (rs : List (List V)) : Prop := ∀ r, r ∈ rs → r.length = w ∧ ∀ v, v ∈ r → v.ok
def leR (a b : List V) : Prop := cmpR a b ≤ 0
def Asc (l : List (List V)) : Prop := l.Pairwise leR
def ins (r : List V) : List (List V) → List (List V)
  | [] => [r]
  | x :: l => if cmpR x r ≤ 0 then x :: ins r l else r :: x :: l
def srt (rs : List (List V)) : List (List V) := rs.foldl (fun acc r => ins r acc) []
theorem srt_next {rs : List (List V)} {i : Nat} {r : List V} (h : rs[i]? = some r) : srt (rs.take (i + 1)) = ins r (srt (rs.take i)) := by
  unfold srt
  rw [take_next h, List.foldl_append]
  rfl
theorem ins_perm (r : List V) : ∀ l, (ins r l).Perm (r :: l)
  | [] => List.Perm.refl _
  | x :: l => by
    rw [ins]
    split
    · exact ((ins_perm r l).cons x).trans (List.Perm.swap r x l)
    · exact List.Perm.refl _
theorem fold_perm : ∀ (rs acc : List (List V)), (rs.foldl (fun acc r => ins r acc) acc).Perm (acc ++ rs)
  | [], acc => by rw [List.append_nil]; exact List.Perm.refl _
  | r :: rs, acc => by
    rw [List.foldl_cons]
    refine (fold_perm rs (ins r acc)).trans ?_
    exact ((ins_perm r acc).append_right rs).trans List.perm_middle.symm
theorem srt_perm (rs : List (List V)) : (srt rs).Perm rs := fold_perm rs []
theorem srt_len (rs : List (List V)) : (srt rs).length = rs.length := (srt_perm rs).length_eq
theorem RsW.perm {w : Nat} {a b : List (List V)} (h : RsW w a) (hp : b.Perm a) : RsW w b := fun r hr => h r (hp.mem_iff.1 hr)
theorem RsW.tail {w : Nat} {r : List V} {l : List (List V)} (h : RsW w (r :: l)) : RsW w l := fun x hx => h x (List.mem_cons_of_mem _ hx)
theorem RsW.take {w : Nat} {l : List (List V)} (h : RsW w l) (i : Nat) : RsW w (l.take i) := fun x hx => h x (List.mem_of_mem_take hx)
theorem le_trans {w : Nat} {a b c : List V} (ha : a.length = w ∧ ∀ v, v ∈ a → v.ok) (hb : b.length = w ∧ ∀ v, v ∈ b → v.ok) (hc : c.length = w ∧ ∀ v, v ∈ c → v.ok) (h1 : leR a b) (h2 : leR b c) : leR a c :=
  (cmpR_trans a b c (by omega) (by omega) ha.2 hb.2 hc.2 h1).1 h2
theorem not_le {w : Nat} {a b : List V} (ha : a.length = w ∧ ∀ v, v ∈ a → v.ok) (hb : b.length = w ∧ ∀ v, v ∈ b → v.ok) (h : ¬ leR a b) : leR b a := by
  have := cmpR_anti a b (by omega) ha.2 hb.2
  unfold leR at *
  omega
theorem ins_asc {w : Nat} {r : List V} : ∀ {l : List (List V)}, RsW w (r :: l) → Asc l → Asc (ins r l)
  | [], _, _ => List.pairwise_singleton ..
  | x :: l, h, ha => by
    have hr := h r (List.mem_cons_self ..)
    have hx := h x (by simp)
    obtain ⟨h1, h2⟩ := List.pairwise_cons.1 ha
    rw [ins]
    split
    · rename_i hc
      refine List.pairwise_cons.2 ⟨fun y hy => ?_, ins_asc (fun z hz => h z (by rcases List.mem_cons.1 hz with rfl | hz <;> simp [*])) h2⟩
      rcases List.mem_cons.1 ((ins_perm r l).mem_iff.1 hy) with rfl | hy
      · exact hc
      · exact h1 y hy
    · rename_i hc
      have hrx := not_le hx hr hc
      refine List.pairwise_cons.2 ⟨fun y hy => ?_, ha⟩
      rcases List.mem_cons.1 hy with rfl | hy
      · exact hrx
      · exact le_trans hr hx (h y (by simp [hy])) hrx (h1 y hy)
theorem fold_asc {w : Nat} : ∀ (rs acc : List (List V)), RsW w (acc ++ rs) → Asc acc → Asc (rs.foldl (fun acc r => ins r acc) acc)
  | [], _, _, h => h
  | r :: rs, acc, h, ha => by
    rw [List.foldl_cons]
    refine fold_asc rs _ (h.perm ?_) (ins_asc (fun x hx => h x (by rcases List.mem_cons.1 hx with rfl | hx <;> simp [*])) ha)
    exact ((ins_perm r acc).append_right rs).trans List.perm_middle.symm
theorem srt_asc {w : Nat} {rs : List (List V)} (h : RsW w rs) : Asc (srt rs) := fold_asc rs [] h List.Pairwise.nil
theorem srt_rsw {w : Nat} {rs : List (List V)} (h : RsW w rs) : RsW w (srt rs) := h.perm (srt_perm rs)
/-- Where a row is put in. -/
theorem ins_at (r : List V) : ∀ (l : List (List V)) (p : Nat), p ≤ l.length → (∀ (j : Nat) (x : List V), j < p → l[j]? = some x → cmpR x r ≤ 0) → (∀ x, l[p]? = some x → ¬ cmpR x r ≤ 0) → ins r l = l.take p ++ r :: l.drop p
  | [], p, hp, _, _ => by
    obtain rfl : p = 0 := by simpa using hp
    rfl
  | x :: l, 0, _, _, h2 => by
    rw [ins, if_neg (h2 x rfl)]
    rfl
  | x :: l, p + 1, hp, h1, h2 => by
    rw [ins, if_pos (h1 0 x (by omega) rfl), ins_at r l p (by simpa using hp) (fun j y hj hy => h1 (j + 1) y (by omega) (by simpa using hy)) (fun y hy => h2 y (by simpa using hy))]
    rfl
theorem asc_at {l : List (List V)} (h : Asc l) {i j : Nat} {a b : List V} (hij : i < j) (ha : l[i]? = some a) (hb : l[j]? = some b) : leR a b := by
  obtain ⟨hi, rfl⟩ := List.getElem?_eq_some_iff.1 ha
  obtain ⟨hj, rfl⟩ := List.getElem?_eq_some_iff.1 hb
  exact List.pairwise_iff_getElem.1 h i j hi hj hij
end Go.Proofs.Ytpfedjaedlfdfaa
set_option maxHeartbeats 4000000
set_option maxRecDepth 100000
namespace Go.Proofs.Ytpfedjaedlfdfaa
open Go.RowKit
/-- A kid without a width. -/
def zeroIn (ns : List Int) : Prop := ∃ j : Nat, ns[j]? = some (0 : Int)
noncomputable instance zeroDec (ns : List Int) : Decidable (zeroIn ns) := Classical.propDecidable _
noncomputable instance resDec (p : Pl) (ns : List Int) : Decidable (fieldsI p ∧ fitsV p ns) := Classical.propDecidable _
/-- The width of a plan, out of those of its kids. -/
noncomputable def resV (p : Pl) (ns : List Int) : Int := if zeroIn ns then 0 else if fieldsI p ∧ fitsV p ns then fromV p ns else 0
theorem resV_z {p : Pl} {ns : List Int} (h : zeroIn ns) : resV p ns = 0 := if_pos h
theorem resV_t {p : Pl} {ns : List Int} (h : ¬ zeroIn ns) (h1 : fieldsI p) (h2 : fitsV p ns) : resV p ns = fromV p ns := by unfold resV; rw [if_neg h, if_pos ⟨h1, h2⟩]
theorem resV_f {p : Pl} {ns : List Int} (h2 : ¬ (fieldsI p ∧ fitsV p ns)) : resV p ns = 0 := by
  unfold resV
  by_cases hz : zeroIn ns
  · rw [if_pos hz]
  · rw [if_neg hz, if_neg h2]
theorem widthWithin_main (p : Pl) (ws : List Int) (d : Nat) (hd : d < 1000) (hf : fieldsI p) (hk : ¬ p.k = 1) (hc : p.cs.length ≤ 1048576) (he : p.es.length ≤ 1048576) (ns : List Int) (hl : ns.length = p.ks.length) (hn : ∀ (j : Nat) (x : Int), ns[j]? = some x → 0 ≤ x ∧ x ≤ 6)
    (hB : ∀ (i : Nat) (x : Pl) (n : Int), p.ks[i]? = some x → ns[i]? = some n → Does Try.prog 36 [] [pD x, intsD ws, I ((d : Int) - 1)] (I n) []) : Does Try.prog 36 [] [pD p, intsD ws, I d] (I (resV p ns)) [] := by
  have ho := hasOwnFields_ok p
  rw [decide_eq_true hf] at ho
  have hf1 := hf.1
  have hks : 1 ≤ p.ks.length ∧ p.ks.length ≤ 2 := by unfold fields at hf1; omega
  have hk6 : p.k = 6 → 1 < ns.length := by unfold fields at hf1; omega
  have hfit := fitsKids_ok p ns (by omega) hc he hn (by omega) hk6
  have hfrom := widthFrom_ok p ns (by omega) hc hn (by omega)
  refine does0 c_impl_widthWithin mixed (Nat.le_of_ble_eq_true rfl) ?_
  conv => arg 3; whnf
  repeat' (first
    | with_reducible refine acc_none ?_ | (conv in hold _=>simp (disch:=omega) only [go_sem])|refine Stp.go ?_|(with_reducible first|refine it_pos rfl ?_|refine it_neg (by decide) ?_|refine st_nil rfl ?_|refine s_op ?_ ?_|exact trivial)|((with_reducible first|refine dw_reg0 ?_|refine dw_regB ?_);(conv=>arg 3;whnf))|(refine Spl.go (fun hq he=>?_) (fun hq he=>?_)<;>first|(exfalso;clear hq;omega)|((try first|(conv=>arg 8;simp only [hq])|(conv=>arg 4;simp only [hq]));clear hq))|((with_reducible first|refine c_split (fun hq=>?_) (fun hq=>?_)|refine q_split (fun hq=>?_) (fun hq=>?_))<;>(try first|(conv=>arg 8;simp only [hq])|(conv=>arg 4;simp only [hq])))|(with_reducible refine fin_0 ?_ (by first|rfl|(conv=>lhs;simp only [go_sem])) ?_)
    | (with_reducible show evC _ _ _ _ _ _ _ _ _ _ _ _
       first
       | (refine c_doesE (ho) ?_ ?_ ?_
          · ((try (conv=>rhs;simp (disch:=omega) only [go_sem])); try rfl)
          · first|rfl|(conv=>lhs;simp only [go_sem])))|exact Sub.refl _|omega)
  refine dw_for (c := 2) (l := fun i => [(1, intsD ws), (2, I d), (3, .ref 1000000 0), (7, .own 1000001 1 i), (37, .sl 5 (p.ks.map pD)), (38, I p.ks.length), (39, I i), (1000000, .obj [I p.k, I p.t, .sl 5 (p.es.map eD), intsD p.cs, .sl 5 (p.ks.map pD)]), (1000001, .row 1 ((ns.take i).map I))]) p.ks.length (fun i => ∀ (j : Nat) (n : Int), j < i → ns[j]? = some n → ¬ n = 0) 0 (fun j n hj => by omega) ((wk_row 7 2000053 1 (by decide) (by decide) rfl rfl).trans (Wk.list [2000003, 2000053] rfl rfl ?_)) (fun i hi hJ => ?_) (Nat.zero_le _)
  · repeat' (first|(conv in hold _=>simp (disch:=omega) only [go_sem])|exact trivial|exact Sub.refl _|omega)
    exact rfl
  · have hlt := take_len (vs := ns) (i := i) (by omega)
    have hmt := take_map I (vs := ns) (i := i) (by omega)
    by_cases hil : i < p.ks.length
    · obtain ⟨x, hx⟩ : ∃ x, p.ks[i]? = some x := ⟨_, List.getElem?_eq_getElem hil⟩
      obtain ⟨n, hnx, _⟩ := get_ex (ns := ns) (i := i) (by omega)
      have hix := hB i x n hx hnx
      have htn := take_next hnx
      by_cases hn0 : n = 0
      · rw [resV_z ⟨i, by rw [hnx, hn0]⟩]
        repeat' (first
          | with_reducible refine acc_none ?_ | (conv in hold _=>simp (disch:=omega) only [go_sem, List.getElem?_map, hx, Option.map_some])|refine Stp.go ?_|(with_reducible first|refine it_pos rfl ?_|refine it_neg (by decide) ?_|refine st_nil rfl ?_|refine s_op ?_ ?_|exact trivial)|((with_reducible first|refine dw_reg0 ?_|refine dw_regB ?_);(conv=>arg 3;whnf))|(refine Spl.go (fun hq he=>?_) (fun hq he=>?_)<;>first|(exfalso;clear hq;omega)|((try first|(conv=>arg 8;simp only [hq])|(conv=>arg 4;simp only [hq]));clear hq))|((with_reducible first|refine c_split (fun hq=>?_) (fun hq=>?_)|refine q_split (fun hq=>?_) (fun hq=>?_))<;>(try first|(conv=>arg 8;simp only [hq])|(conv=>arg 4;simp only [hq])))|(with_reducible refine fin_0 ?_ (by first|rfl|(conv=>lhs;simp only [go_sem, List.getElem?_map, hx, Option.map_some])) ?_)
          | (with_reducible show evC _ _ _ _ _ _ _ _ _ _ _ _
             first
             | (refine c_doesE (hix) ?_ ?_ ?_
                · ((try (conv=>rhs;simp (disch:=omega) only [go_sem, List.getElem?_map, hx, Option.map_some])); try rfl)
                · first|rfl|(conv=>lhs;simp only [go_sem, List.getElem?_map, hx, Option.map_some])))|exact Sub.refl _|omega)
      · repeat' (first
          | with_reducible refine acc_none ?_ | (conv in hold _=>simp (disch:=omega) only [go_sem, List.getElem?_map, hx, Option.map_some])|refine Stp.go ?_|(with_reducible first|refine it_pos rfl ?_|refine it_neg (by decide) ?_|refine st_nil rfl ?_|refine s_op ?_ ?_|exact trivial)|((with_reducible first|refine dw_reg0 ?_|refine dw_regB ?_);(conv=>arg 3;whnf))|(refine Spl.go (fun hq he=>?_) (fun hq he=>?_)<;>first|(exfalso;clear hq;omega)|((try first|(conv=>arg 8;simp only [hq])|(conv=>arg 4;simp only [hq]));clear hq))|((with_reducible first|refine c_split (fun hq=>?_) (fun hq=>?_)|refine q_split (fun hq=>?_) (fun hq=>?_))<;>(try first|(conv=>arg 8;simp only [hq])|(conv=>arg 4;simp only [hq])))|(with_reducible refine fin_0 ?_ (by first|rfl|(conv=>lhs;simp only [go_sem, List.getElem?_map, hx, Option.map_some])) ?_)
          | (with_reducible show evC _ _ _ _ _ _ _ _ _ _ _ _
             first
             | (refine c_doesE (hix) ?_ ?_ ?_
                · ((try (conv=>rhs;simp (disch:=omega) only [go_sem, List.getElem?_map, hx, Option.map_some])); try rfl)
                · first|rfl|(conv=>lhs;simp only [go_sem, List.getElem?_map, hx, Option.map_some])))|exact Sub.refl _|omega)
        refine ⟨hil, upto1 (P := fun _ n => ¬ n = 0) hnx hn0 hJ, Wk.list [1000000, 2000053] rfl rfl ?_⟩
        repeat' (first|(conv in hold _=>simp (disch:=omega) only [go_sem])|exact trivial|exact Sub.refl _|omega)
        rw [hmt, htn, List.map_append, List.map_cons, List.map_nil]
    · obtain rfl : i = p.ks.length := by omega
      have hz : ¬ zeroIn ns := fun ⟨j, hj⟩ => hJ j 0 (by rw [← hl]; exact (List.getElem?_eq_some_iff.1 hj).1) hj rfl
      have e1 : ns.take p.ks.length = ns := List.take_of_length_le (by omega)
      have e2 : (ns.map I).take p.ks.length = ns.map I := List.take_of_length_le (by rw [List.length_map]; omega)
      by_cases hv : fitsV p ns
      · rw [decide_eq_true hv] at hfit
        rw [resV_t hz hf hv]
        repeat' ((fail_if_success (with_reducible first | refine s_call ?_ | refine s_cal ?_ | refine s_inv ?_)); first | with_reducible refine acc_none ?_ | (conv in hold _=>simp (disch:=omega) only [go_sem, e1])|refine Stp.go ?_|(with_reducible first|refine it_pos rfl ?_|refine it_neg (by decide) ?_|refine st_nil rfl ?_|refine s_op ?_ ?_|exact trivial)|((with_reducible first|refine dw_reg0 ?_|refine dw_regB ?_);(conv=>arg 3;whnf))|(refine Spl.go (fun hq he=>?_) (fun hq he=>?_)<;>first|(exfalso;clear hq;omega)|((try first|(conv=>arg 8;simp only [hq])|(conv=>arg 4;simp only [hq]));clear hq))|((with_reducible first|refine c_split (fun hq=>?_) (fun hq=>?_)|refine q_split (fun hq=>?_) (fun hq=>?_))<;>(try first|(conv=>arg 8;simp only [hq])|(conv=>arg 4;simp only [hq])))|(with_reducible refine fin_0 ?_ (by first|rfl|(conv=>lhs;simp only [go_sem, e1])) ?_)|exact Sub.refl _|omega)
        refine s_pre (pre_frz2 (t := 56) (u := 7) (g := 1000001) (by decide) (by decide) (by decide) rfl ?_) ?_
        rotate_left
        repeat' (first|with_reducible refine acc_none ?_ | (conv in hold _=>simp (disch:=omega) only [go_sem, e1, e2, hl, Nat.le_refl])|refine Stp.go ?_|(with_reducible first|refine it_pos rfl ?_|refine it_neg (by decide) ?_|refine st_nil rfl ?_|refine s_op ?_ ?_|exact trivial)|((with_reducible first|refine dw_reg0 ?_|refine dw_regB ?_);(conv=>arg 3;whnf))|(refine Spl.go (fun hq he=>?_) (fun hq he=>?_)<;>first|(exfalso;clear hq;omega)|((try first|(conv=>arg 8;simp only [hq])|(conv=>arg 4;simp only [hq]));clear hq))|((with_reducible first|refine c_split (fun hq=>?_) (fun hq=>?_)|refine q_split (fun hq=>?_) (fun hq=>?_))<;>(try first|(conv=>arg 8;simp only [hq])|(conv=>arg 4;simp only [hq])))|(with_reducible refine fin_0 ?_ (by first|rfl|(conv=>lhs;simp only [go_sem, e1, e2, hl, Nat.le_refl])) ?_)|exact Sub.refl _|omega)
        · refine c_doesE (hfit) ?_ ?_ ?_
          · ((try (conv=>rhs;simp (disch:=omega) only [go_sem])); try rfl)
          · first|rfl|(conv=>lhs;simp only [go_sem])
          repeat' (first
            | with_reducible refine acc_none ?_ | (conv in hold _=>simp (disch:=omega) only [go_sem])|refine Stp.go ?_|(with_reducible first|refine it_pos rfl ?_|refine it_neg (by decide) ?_|refine st_nil rfl ?_|refine s_op ?_ ?_|exact trivial)|((with_reducible first|refine dw_reg0 ?_|refine dw_regB ?_);(conv=>arg 3;whnf))|(refine Spl.go (fun hq he=>?_) (fun hq he=>?_)<;>first|(exfalso;clear hq;omega)|((try first|(conv=>arg 8;simp only [hq])|(conv=>arg 4;simp only [hq]));clear hq))|((with_reducible first|refine c_split (fun hq=>?_) (fun hq=>?_)|refine q_split (fun hq=>?_) (fun hq=>?_))<;>(try first|(conv=>arg 8;simp only [hq])|(conv=>arg 4;simp only [hq])))|(with_reducible refine fin_0 ?_ (by first|rfl|(conv=>lhs;simp only [go_sem])) ?_)
            | (with_reducible show evC _ _ _ _ _ _ _ _ _ _ _ _
               first
               | (refine c_doesE (hfrom) ?_ ?_ ?_
                  · ((try (conv=>rhs;simp (disch:=omega) only [go_sem])); try rfl)
                  · first|rfl|(conv=>lhs;simp only [go_sem])))|exact Sub.refl _|omega)
        · exact ints_pur _
      · rw [decide_eq_false hv] at hfit
        rw [resV_f (fun h => hv h.2)]
        repeat' ((fail_if_success (with_reducible first | refine s_call ?_ | refine s_cal ?_ | refine s_inv ?_)); first | with_reducible refine acc_none ?_ | (conv in hold _=>simp (disch:=omega) only [go_sem, e1])|refine Stp.go ?_|(with_reducible first|refine it_pos rfl ?_|refine it_neg (by decide) ?_|refine st_nil rfl ?_|refine s_op ?_ ?_|exact trivial)|((with_reducible first|refine dw_reg0 ?_|refine dw_regB ?_);(conv=>arg 3;whnf))|(refine Spl.go (fun hq he=>?_) (fun hq he=>?_)<;>first|(exfalso;clear hq;omega)|((try first|(conv=>arg 8;simp only [hq])|(conv=>arg 4;simp only [hq]));clear hq))|((with_reducible first|refine c_split (fun hq=>?_) (fun hq=>?_)|refine q_split (fun hq=>?_) (fun hq=>?_))<;>(try first|(conv=>arg 8;simp only [hq])|(conv=>arg 4;simp only [hq])))|(with_reducible refine fin_0 ?_ (by first|rfl|(conv=>lhs;simp only [go_sem, e1])) ?_)|exact Sub.refl _|omega)
        refine s_pre (pre_frz2 (t := 56) (u := 7) (g := 1000001) (by decide) (by decide) (by decide) rfl ?_) ?_
        rotate_left
        repeat' (first|with_reducible refine acc_none ?_ | (conv in hold _=>simp (disch:=omega) only [go_sem, e1, e2, hl, Nat.le_refl])|refine Stp.go ?_|(with_reducible first|refine it_pos rfl ?_|refine it_neg (by decide) ?_|refine st_nil rfl ?_|refine s_op ?_ ?_|exact trivial)|((with_reducible first|refine dw_reg0 ?_|refine dw_regB ?_);(conv=>arg 3;whnf))|(refine Spl.go (fun hq he=>?_) (fun hq he=>?_)<;>first|(exfalso;clear hq;omega)|((try first|(conv=>arg 8;simp only [hq])|(conv=>arg 4;simp only [hq]));clear hq))|((with_reducible first|refine c_split (fun hq=>?_) (fun hq=>?_)|refine q_split (fun hq=>?_) (fun hq=>?_))<;>(try first|(conv=>arg 8;simp only [hq])|(conv=>arg 4;simp only [hq])))|(with_reducible refine fin_0 ?_ (by first|rfl|(conv=>lhs;simp only [go_sem, e1, e2, hl, Nat.le_refl])) ?_)|exact Sub.refl _|omega)
        · refine c_doesE (hfit) ?_ ?_ ?_
          · ((try (conv=>rhs;simp (disch:=omega) only [go_sem])); try rfl)
          · first|rfl|(conv=>lhs;simp only [go_sem])
          repeat' (first|with_reducible refine acc_none ?_ | (conv in hold _=>simp (disch:=omega) only [go_sem])|refine Stp.go ?_|(with_reducible first|refine it_pos rfl ?_|refine it_neg (by decide) ?_|refine st_nil rfl ?_|refine s_op ?_ ?_|exact trivial)|((with_reducible first|refine dw_reg0 ?_|refine dw_regB ?_);(conv=>arg 3;whnf))|(refine Spl.go (fun hq he=>?_) (fun hq he=>?_)<;>first|(exfalso;clear hq;omega)|((try first|(conv=>arg 8;simp only [hq])|(conv=>arg 4;simp only [hq]));clear hq))|((with_reducible first|refine c_split (fun hq=>?_) (fun hq=>?_)|refine q_split (fun hq=>?_) (fun hq=>?_))<;>(try first|(conv=>arg 8;simp only [hq])|(conv=>arg 4;simp only [hq])))|(with_reducible refine fin_0 ?_ (by first|rfl|(conv=>lhs;simp only [go_sem])) ?_)|exact Sub.refl _|omega)
        · exact ints_pur _
end Go.Proofs.Ytpfedjaedlfdfaa

/-
  The reader of a code: what its functions do. No condition.
-/
import Derived.Test.YtpfedjaedlfdfaaKSDca
import Derived.Test.YtpfedjaedlfdfaaKSDcc
import Derived.Test.YtpfedjaedlfdfaaJSVCall
import Derived.Test.YtpfedjaedlfdfaaJSV0
set_option maxHeartbeats 4000000
set_option maxRecDepth 100000
namespace Go.Proofs.Ytpfedjaedlfdfaa
open Go.RowKit
theorem newReader_ok (bs : List Nat) : Does Try.prog 31 [] [bytesD bs] (.ref 1000000 0) [rdD (bs.take 2000) 0] := by
  refine does c_spec_newReader mixed (Nat.le_of_ble_eq_true rfl) 0 rfl ?_
  conv => arg 3; whnf
  repeat' (first|with_reducible refine acc_none ?_ | (conv in hold _=>simp (disch:=omega) only [go_sem, bytesD])|refine Stp.go ?_|(with_reducible first|refine it_pos rfl ?_|refine it_neg (by decide) ?_|refine st_nil rfl ?_|refine s_op ?_ ?_|exact trivial)|((with_reducible first|refine dw_reg0 ?_|refine dw_regB ?_);(conv=>arg 3;whnf))|(refine Spl.go (fun hq he=>?_) (fun hq he=>?_)<;>first|(exfalso;clear hq;omega)|((try first|(conv=>arg 8;simp only [hq])|(conv=>arg 4;simp only [hq]));clear hq))|((with_reducible first|refine c_split (fun hq=>?_) (fun hq=>?_)|refine q_split (fun hq=>?_) (fun hq=>?_))<;>(try first|(conv=>arg 8;simp only [hq])|(conv=>arg 4;simp only [hq])))|(with_reducible refine fin_0 ?_ (by first|rfl|(conv=>lhs;simp only [go_sem, bytesD])) ?_)|exact Sub.refl _|omega)
  · refine fin_L [2000010] ?_ ?_ rfl ?_
    repeat' (first|(conv in hold _=>simp (disch:=omega) only [go_sem, bytesD])|exact trivial|exact Sub.refl _|omega)
    rw [List.map_take]; rfl
  · have e : bs.take 2000 = bs := List.take_of_length_le (by omega)
    rw [e]
    refine fin_L [2000010] ?_ ?_ rfl ?_
    repeat' (first|(conv in hold _=>simp (disch:=omega) only [go_sem, bytesD])|exact trivial|exact Sub.refl _|omega)
    rfl
theorem pick_ok {bs : List Nat} (hs : Src bs) (p : Nat) (hp : p < 1000000000) (n : Int) (hn : n < 1000000000) :
    ∃ v : Int, Does Try.prog 38 [rdD bs p] [.ref 1000000 0, I n] (I v) [rdD bs (p + 1)] ∧ 0 ≤ v ∧ (1 ≤ n → v < n) ∧ (n < 1 → v = 0) := by
  have hbs := hs.byte
  have hl := hs.len
  have hat : ∀ k : Nat, k < bs.length → ∃ b : Nat, bs[k]? = some b ∧ b < 256 := fun k hk => ⟨bs[k], List.getElem?_eq_getElem hk, hbs _ (List.getElem_mem hk)⟩
  by_cases hn1 : n < 1
  · refine ⟨0, ?_, by omega, by omega, fun _ => rfl⟩
    refine does c_spec_preader_pick mixed (Nat.le_of_ble_eq_true rfl) 1 rfl ?_
    conv => arg 3; whnf
    repeat' (first|with_reducible refine acc_none ?_ | (conv in hold _=>simp (disch:=omega) only [go_sem, bytesD, rdD])|refine Stp.go ?_|(with_reducible first|refine it_pos rfl ?_|refine it_neg (by decide) ?_|refine st_nil rfl ?_|refine s_op ?_ ?_|exact trivial)|((with_reducible first|refine dw_reg0 ?_|refine dw_regB ?_);(conv=>arg 3;whnf))|(refine Spl.go (fun hq he=>?_) (fun hq he=>?_)<;>first|(exfalso;clear hq;omega)|((try first|(conv=>arg 8;simp only [hq])|(conv=>arg 4;simp only [hq]));clear hq))|((with_reducible first|refine c_split (fun hq=>?_) (fun hq=>?_)|refine q_split (fun hq=>?_) (fun hq=>?_))<;>(try first|(conv=>arg 8;simp only [hq])|(conv=>arg 4;simp only [hq])))|(with_reducible refine fin_0 ?_ (by first|rfl|(conv=>lhs;simp only [go_sem, bytesD, rdD])) ?_)|exact Sub.refl _|omega)
    refine fin_L [1000000] ?_ ?_ rfl ?_
    repeat' (first|(conv in hold _=>simp (disch:=omega) only [go_sem, bytesD])|exact trivial|exact Sub.refl _|omega)
  · by_cases hb : bs.length = 0
    · refine ⟨0, ?_, by omega, by omega, fun _ => rfl⟩
      refine does c_spec_preader_pick mixed (Nat.le_of_ble_eq_true rfl) 1 rfl ?_
      conv => arg 3; whnf
      repeat' (first|with_reducible refine acc_none ?_ | (conv in hold _=>simp (disch:=omega) only [go_sem, bytesD, rdD])|refine Stp.go ?_|(with_reducible first|refine it_pos rfl ?_|refine it_neg (by decide) ?_|refine st_nil rfl ?_|refine s_op ?_ ?_|exact trivial)|((with_reducible first|refine dw_reg0 ?_|refine dw_regB ?_);(conv=>arg 3;whnf))|(refine Spl.go (fun hq he=>?_) (fun hq he=>?_)<;>first|(exfalso;clear hq;omega)|((try first|(conv=>arg 8;simp only [hq])|(conv=>arg 4;simp only [hq]));clear hq))|((with_reducible first|refine c_split (fun hq=>?_) (fun hq=>?_)|refine q_split (fun hq=>?_) (fun hq=>?_))<;>(try first|(conv=>arg 8;simp only [hq])|(conv=>arg 4;simp only [hq])))|(with_reducible refine fin_0 ?_ (by first|rfl|(conv=>lhs;simp only [go_sem, bytesD, rdD])) ?_)|exact Sub.refl _|omega)
      refine fin_L [1000000] ?_ ?_ rfl ?_
      repeat' (first|(conv in hold _=>simp (disch:=omega) only [go_sem, bytesD])|exact trivial|exact Sub.refl _|omega)
    · have e : (p : Int) + 1 - 1 = p := by omega
      by_cases hpl : p < bs.length
      · obtain ⟨b, hb, hb2⟩ := hat p hpl
        have h1 := Int.tmod_lt_of_pos (b : Int) (show 0 < n by omega)
        have h2 := Int.tmod_nonneg n (show (0 : Int) ≤ (b : Int) by omega)
        refine ⟨(b : Int).tmod n, ?_, by omega, by omega, by omega⟩
        refine does c_spec_preader_pick mixed (Nat.le_of_ble_eq_true rfl) 1 rfl ?_
        conv => arg 3; whnf
        repeat' (first|with_reducible refine acc_none ?_ | (conv in hold _=>simp (disch:=omega) only [go_sem, bytesD, rdD, e, List.getElem?_map, hb, Option.map_some, byteD])|refine Stp.go ?_|(with_reducible first|refine it_pos rfl ?_|refine it_neg (by decide) ?_|refine st_nil rfl ?_|refine s_op ?_ ?_|exact trivial)|((with_reducible first|refine dw_reg0 ?_|refine dw_regB ?_);(conv=>arg 3;whnf))|(refine Spl.go (fun hq he=>?_) (fun hq he=>?_)<;>first|(exfalso;clear hq;omega)|((try first|(conv=>arg 8;simp only [hq])|(conv=>arg 4;simp only [hq]));clear hq))|((with_reducible first|refine c_split (fun hq=>?_) (fun hq=>?_)|refine q_split (fun hq=>?_) (fun hq=>?_))<;>(try first|(conv=>arg 8;simp only [hq])|(conv=>arg 4;simp only [hq])))|(with_reducible refine fin_0 ?_ (by first|rfl|(conv=>lhs;simp only [go_sem, bytesD, rdD, e, List.getElem?_map, hb, Option.map_some, byteD])) ?_)|exact Sub.refl _|omega)
        refine fin_L [1000000] ?_ ?_ rfl ?_
        repeat' (first|(conv in hold _=>simp (disch:=omega) only [go_sem, bytesD])|exact trivial|exact Sub.refl _|omega)
      · have hl1 := Int.tmod_lt_of_pos (p : Int) (show (0 : Int) < bs.length by omega)
        have hl2 := Int.tmod_nonneg bs.length (show (0 : Int) ≤ p by omega)
        have hm1 := Int.tmod_lt_of_pos ((p : Int) * 7 + 3) (show (0 : Int) < bs.length by omega)
        have hm2 := Int.tmod_nonneg bs.length (show (0 : Int) ≤ (p : Int) * 7 + 3 by omega)
        obtain ⟨b1, hb1, hb1'⟩ := hat ((p : Int).tmod bs.length).toNat (by omega)
        obtain ⟨b2, hb2, hb2'⟩ := hat (((p : Int) * 7 + 3).tmod bs.length).toNat (by omega)
        have hd1 : (0 : Int) ≤ (p : Int).tdiv bs.length := Int.tdiv_nonneg (by omega) (by omega)
        have hd2 : (p : Int).tdiv bs.length ≤ p := Int.tdiv_le_self _ (by omega)
        have hx0 : (0 : Int) ≤ (b1 : Int) * 131 + (b2 : Int) * 1117 + (p : Int) * 29 + (p : Int).tdiv bs.length * 53 := by omega
        have hx1 : (b1 : Int) * 131 + (b2 : Int) * 1117 + (p : Int) * 29 + (p : Int).tdiv bs.length * 53 < 1099511627776 := by omega
        have hy0 : (0 : Int) ≤ ((b1 : Int) * 131 + (b2 : Int) * 1117 + (p : Int) * 29 + (p : Int).tdiv bs.length * 53).tdiv 64 := Int.tdiv_nonneg hx0 (by omega)
        have hy1 : ((b1 : Int) * 131 + (b2 : Int) * 1117 + (p : Int) * 29 + (p : Int).tdiv bs.length * 53).tdiv 64 ≤ (b1 : Int) * 131 + (b2 : Int) * 1117 + (p : Int) * 29 + (p : Int).tdiv bs.length * 53 := Int.tdiv_le_self _ hx0
        have hw : IntKind.i64.wrap (((b1 : Int) * 131 + (b2 : Int) * 1117 + (p : Int) * 29 + (p : Int).tdiv bs.length * 53).tdiv 64) = ((b1 : Int) * 131 + (b2 : Int) * 1117 + (p : Int) * 29 + (p : Int).tdiv bs.length * 53).tdiv 64 := wrap64 (by omega) (by omega)
        have hxr := xor_range hx0 hx1 hy0 (by omega)
        refine ⟨(intBit .xor .i64 ((b1 : Int) * 131 + (b2 : Int) * 1117 + (p : Int) * 29 + (p : Int).tdiv bs.length * 53) (((b1 : Int) * 131 + (b2 : Int) * 1117 + (p : Int) * 29 + (p : Int).tdiv bs.length * 53).tdiv 64)).tmod n, ?_, Int.tmod_nonneg n hxr, fun h => Int.tmod_lt_of_pos _ (by omega), fun h => by omega⟩
        refine does c_spec_preader_pick mixed (Nat.le_of_ble_eq_true rfl) 1 rfl ?_
        conv => arg 3; whnf
        repeat' (first|with_reducible refine acc_none ?_ | (conv in hold _=>simp (disch:=omega) only [go_sem, bytesD, rdD, e, List.getElem?_map, hb1, hb2, Option.map_some, byteD, hw])|refine Stp.go ?_|(with_reducible first|refine it_pos rfl ?_|refine it_neg (by decide) ?_|refine st_nil rfl ?_|refine s_op ?_ ?_|exact trivial)|((with_reducible first|refine dw_reg0 ?_|refine dw_regB ?_);(conv=>arg 3;whnf))|(refine Spl.go (fun hq he=>?_) (fun hq he=>?_)<;>first|(exfalso;clear hq;omega)|((try first|(conv=>arg 8;simp only [hq])|(conv=>arg 4;simp only [hq]));clear hq))|((with_reducible first|refine c_split (fun hq=>?_) (fun hq=>?_)|refine q_split (fun hq=>?_) (fun hq=>?_))<;>(try first|(conv=>arg 8;simp only [hq])|(conv=>arg 4;simp only [hq])))|(with_reducible refine fin_0 ?_ (by first|rfl|(conv=>lhs;simp only [go_sem, bytesD, rdD, e, List.getElem?_map, hb1, hb2, Option.map_some, byteD, hw])) ?_)|exact Sub.refl _|omega)
        refine fin_L [1000000] ?_ ?_ rfl ?_
        repeat' (first|(conv in hold _=>simp (disch:=omega) only [go_sem, bytesD])|exact trivial|exact Sub.refl _|omega)
theorem one_ok {bs : List Nat} (hs : Src bs) (p : Nat) (hp : p < 1000000000) (xs : List Int) (hx : 0 < xs.length) (hxl : xs.length < 1000) :
    ∃ v : Int, Does Try.prog 51 [rdD bs p] [.ref 1000000 0, .sl 1 (xs.map I)] (I v) [rdD bs (p + 1)] ∧ v ∈ xs := by
  obtain ⟨k, hk, h0, h1, _⟩ := pick_ok hs p hp xs.length (by omega)
  have h1 := h1 (by omega)
  have hkx : k.toNat < xs.length := by omega
  have e := List.getElem?_eq_getElem hkx
  refine ⟨xs[k.toNat], ?_, List.getElem_mem hkx⟩
  refine does c_spec_preader_one mixed (Nat.le_of_ble_eq_true rfl) 1 rfl ?_
  conv => arg 3; whnf
  repeat' (first
    | with_reducible refine acc_none ?_ | (conv in hold _=>simp (disch:=omega) only [go_sem, rdD, List.getElem?_map, e, Option.map_some])|refine Stp.go ?_|(with_reducible first|refine it_pos rfl ?_|refine it_neg (by decide) ?_|refine st_nil rfl ?_|refine s_op ?_ ?_|exact trivial)|((with_reducible first|refine dw_reg0 ?_|refine dw_regB ?_);(conv=>arg 3;whnf))|(refine Spl.go (fun hq he=>?_) (fun hq he=>?_)<;>first|(exfalso;clear hq;omega)|((try first|(conv=>arg 8;simp only [hq])|(conv=>arg 4;simp only [hq]));clear hq))|((with_reducible first|refine c_split (fun hq=>?_) (fun hq=>?_)|refine q_split (fun hq=>?_) (fun hq=>?_))<;>(try first|(conv=>arg 8;simp only [hq])|(conv=>arg 4;simp only [hq])))|(with_reducible refine fin_0 ?_ (by first|rfl|(conv=>lhs;simp only [go_sem, rdD, List.getElem?_map, e, Option.map_some])) ?_)
    | (with_reducible show evC _ _ _ _ _ _ _ _ _ _ _ _
       first
       | (refine c_doesR [1000000] (hk) (callOK_of rfl (Nat.le_of_ble_eq_true rfl) rfl ?_ ?_) ?_ ?_
          iterate 2 · repeat' (first|(conv in hold _=>simp (disch:=omega) only [go_sem, rdD, List.getElem?_map, e, Option.map_some])|exact trivial|exact Sub.refl _|omega)
          · ((conv=>rhs;simp (disch:=omega) only [go_sem, rdD, List.getElem?_map, e, Option.map_some]); try rfl)))|exact Sub.refl _|omega)
  refine fin_L [1000000] ?_ ?_ rfl ?_
  repeat' (first|(conv in hold _=>simp (disch:=omega) only [go_sem])|exact trivial|exact Sub.refl _|omega)
end Go.Proofs.Ytpfedjaedlfdfaa
set_option maxHeartbeats 4000000
set_option maxRecDepth 100000
namespace Go.Proofs.Ytpfedjaedlfdfaa
open Go.ChangeShapes Go.WideShapes Go.ChangeAt Go.RowKit Go.Joins Go.Deep
/-- A plan. -/
inductive Pl where
  | mk (k t : Int) (es : List E) (cs : List Int) (ks : List Pl)
namespace Pl
def k : Pl → Int
  | mk k _ _ _ _ => k
def t : Pl → Int
  | mk _ t _ _ _ => t
def es : Pl → List E
  | mk _ _ es _ _ => es
def cs : Pl → List Int
  | mk _ _ _ cs _ => cs
def ks : Pl → List Pl
  | mk _ _ _ _ ks => ks
end Pl
mutual
def pD : Pl → D
  | .mk k t es cs ks => .agg [I k, I t, .sl 5 (es.map eD), intsD cs, .sl 5 (pDL ks)]
def pDL : List Pl → List D
  | [] => []
  | p :: l => pD p :: pDL l
end
theorem pDL_map : ∀ l : List Pl, pDL l = l.map pD
  | [] => by rw [pDL]; rfl
  | p :: l => by rw [pDL, pDL_map l]; rfl
theorem pD_eq (p : Pl) : pD p = .agg [I p.k, I p.t, .sl 5 (p.es.map eD), intsD p.cs, .sl 5 (p.ks.map pD)] := by
  cases p with
  | mk k t es cs ks => rw [pD, pDL_map]; rfl
theorem plans_pur : ∀ l : List Pl, D.purL (l.map pD) = true
  | [] => rfl
  | p :: l => by rw [List.map_cons, D.purL, plans_pur l, pD_eq]; rfl
theorem plans_ren (L : List Nat) (l : List Pl) : D.renL L (l.map pD) = l.map pD := ren_pure.renL_pure L _ (plans_pur l)
theorem Pl.k_mk (k t : Int) (es : List E) (cs : List Int) (ks : List Pl) : (Pl.mk k t es cs ks).k = k := rfl
theorem Pl.t_mk (k t : Int) (es : List E) (cs : List Int) (ks : List Pl) : (Pl.mk k t es cs ks).t = t := rfl
theorem Pl.es_mk (k t : Int) (es : List E) (cs : List Int) (ks : List Pl) : (Pl.mk k t es cs ks).es = es := rfl
theorem Pl.cs_mk (k t : Int) (es : List E) (cs : List Int) (ks : List Pl) : (Pl.mk k t es cs ks).cs = cs := rfl
theorem Pl.ks_mk (k t : Int) (es : List E) (cs : List Int) (ks : List Pl) : (Pl.mk k t es cs ks).ks = ks := rfl
attribute [go_sem] pD_eq plans_pur plans_ren Pl.k_mk Pl.t_mk Pl.es_mk Pl.cs_mk Pl.ks_mk
mutual
theorem Pl.indA {P : Pl → Prop} (h : ∀ p, (∀ x, x ∈ p.ks → P x) → P p) : ∀ p, P p
  | .mk k t es cs ks => h (.mk k t es cs ks) (Pl.indL h ks)
theorem Pl.indL {P : Pl → Prop} (h : ∀ p, (∀ x, x ∈ p.ks → P x) → P p) : ∀ l : List Pl, ∀ x, x ∈ l → P x
  | [] => fun _ hx => by cases hx
  | p :: l => fun x hx => (List.mem_cons.1 hx).elim (fun he => he.symm ▸ Pl.indA h p) (Pl.indL h l x)
end
/-- All lists in a plan are such as there may be. -/
inductive MostP : Pl → Prop
  | mk {k t : Int} {es : List E} {cs : List Int} {ks : List Pl} (h1 : es.length ≤ big) (h2 : ∀ x, x ∈ es → Most x) (h3 : cs.length ≤ big) (h4 : ks.length ≤ big) (h5 : ∀ x, x ∈ ks → MostP x) : MostP (.mk k t es cs ks)
theorem MostP.lens {p : Pl} (h : MostP p) : p.es.length ≤ big ∧ p.cs.length ≤ big ∧ p.ks.length ≤ big := by cases h with | mk h1 _ h3 h4 _ => exact ⟨h1, h3, h4⟩
theorem MostP.expr {p : Pl} {x : E} (h : MostP p) (hx : x ∈ p.es) : Most x := by cases h with | mk _ h2 _ _ _ => exact h2 x hx
theorem MostP.kid {p x : Pl} (h : MostP p) (hx : x ∈ p.ks) : MostP x := by cases h with | mk _ _ _ _ h5 => exact h5 x hx
mutual
/-- How many elements a plan's lists have. -/
def psz : Pl → Nat
  | .mk _ _ es cs ks => eszL es + cs.length + pszL ks
def pszL : List Pl → Nat
  | [] => 0
  | p :: l => 1 + psz p + pszL l
end
theorem psz_eq (p : Pl) : psz p = eszL p.es + p.cs.length + pszL p.ks := by cases p; rfl
theorem pszL_len : ∀ l : List Pl, l.length ≤ pszL l
  | [] => Nat.le_refl _
  | e :: l => by
    have := pszL_len l
    rw [pszL, List.length_cons]
    omega
theorem pszL_mem {p : Pl} {l : List Pl} (h : p ∈ l) : psz p + 1 ≤ pszL l := by
  induction l with
  | nil => cases h
  | cons x l ih =>
    rw [pszL]
    rcases List.mem_cons.1 h with rfl | h
    · omega
    · have := ih h; omega
section
variable {H : Type} {enc : TypeId × Value → H} {W : World} {base b0 : Nat} {held : Bool} {r : Reach} {v : Value} {d : DataW H} {p : List MemPlace}
end
end Go.Proofs.Ytpfedjaedlfdfaa

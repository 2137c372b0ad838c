/-
  The reader of a code: what its functions do. No condition.
-/
import Derived.KernelRfl
import Derived.Test.YtlcmchjeakhajaaGreatKSDca
import Derived.Test.YtlcmchjeakhajaaGreatJSVGo
import Derived.Test.YtlcmchjeakhajaaGreatKSDcb
import Derived.Test.YtlcmchjeakhajaaGreatJSVTbD
import Derived.Test.YtlcmchjeakhajaaGreatRows
import Derived.Test.YtlcmchjeakhajaaGreatKSDcc
import Derived.Test.YtlcmchjeakhajaaGreatJSDcWEpS
import Derived.Test.YtlcmchjeakhajaaGreatJSDcVWidC
set_option maxHeartbeats 4000000
set_option maxRecDepth 100000
namespace Go.Proofs.YtlcmchjeakhajaaGreat
open Go.RowKit
theorem newReader_ok (bs : List Nat) : Does Tryz.prog 11 [] [bytesD bs] (.ref 1000000 0) [rdD (bs.take 2000) 0] := by
  refine does c_Z119 mixed (Nat.le_of_ble_eq_true rfl) 0 rfl ?_
  conv => arg 3; whnf
  repeat' (first|with_reducible refine acc_none ?_ | (conv in hold _=>simp (disch:=omega) only [go_sem, bytesD])|refine Stp.go ?_|(with_reducible first|refine it_pos rfl ?_|refine it_neg (by decide) ?_|refine st_nil rfl ?_|refine s_op ?_ ?_|exact trivial)|((with_reducible first|refine dw_reg0 ?_|refine dw_regB ?_);(conv=>arg 3;whnf))|(refine Spl.go (fun hq he=>?_) (fun hq he=>?_)<;>first|(exfalso;clear hq;omega)|((try first|(conv=>arg 8;simp only [hq])|(conv=>arg 4;simp only [hq]));clear hq))|((with_reducible first|refine c_split (fun hq=>?_) (fun hq=>?_)|refine q_split (fun hq=>?_) (fun hq=>?_))<;>(try first|(conv=>arg 8;simp only [hq])|(conv=>arg 4;simp only [hq])))|(with_reducible refine fin_0 ?_ (by first|rfl|(conv=>lhs;simp only [go_sem, bytesD])) ?_)|exact Sub.refl _|omega)
  · refine fin_L [2000010] ?_ ?_ rfl ?_
    repeat' (first|(conv in hold _=>simp (disch:=omega) only [go_sem, bytesD])|exact trivial|exact Sub.refl _|omega)
    rw [List.map_take]; rfl
  · have e : bs.take 2000 = bs := List.take_of_length_le (by omega)
    rw [e]
    refine fin_L [2000010] ?_ ?_ rfl ?_
    repeat' (first|(conv in hold _=>simp (disch:=omega) only [go_sem, bytesD])|exact trivial|exact Sub.refl _|omega)
    rfl
theorem pick_ok {bs : List Nat} (hs : Src bs) (p : Nat) (hp : p < 1000000000) (n : Int) (hn : n < 1000000000) :
    ∃ v : Int, Does Tryz.prog 26 [rdD bs p] [.ref 1000000 0, I n] (I v) [rdD bs (p + 1)] ∧ 0 ≤ v ∧ (1 ≤ n → v < n) ∧ (n < 1 → v = 0) := by
  have hbs := hs.byte
  have hl := hs.len
  have hat : ∀ k : Nat, k < bs.length → ∃ b : Nat, bs[k]? = some b ∧ b < 256 := fun k hk => ⟨bs[k], List.getElem?_eq_getElem hk, hbs _ (List.getElem_mem hk)⟩
  by_cases hn1 : n < 1
  · refine ⟨0, ?_, by omega, by omega, fun _ => rfl⟩
    refine Bk c_Z65 mixed 1 (go1 (cj2 @bytesD.eq_1 @rdD.eq_1) ?_)
    refine fin_L [1000000] ?_ ?_ rfl ?_
    repeat' (first|(conv in hold _=>simp (disch:=omega) only [go_sem, bytesD])|exact trivial|exact Sub.refl _|omega)
  · by_cases hb : bs.length = 0
    · refine ⟨0, ?_, by omega, by omega, fun _ => rfl⟩
      refine Bk c_Z65 mixed 1 (go1 (cj2 @bytesD.eq_1 @rdD.eq_1) ?_)
      refine fin_L [1000000] ?_ ?_ rfl ?_
      repeat' (first|(conv in hold _=>simp (disch:=omega) only [go_sem, bytesD])|exact trivial|exact Sub.refl _|omega)
    · have e : (p : Int) + 1 - 1 = p := by omega
      by_cases hpl : p < bs.length
      · obtain ⟨b, hb, hb2⟩ := hat p hpl
        have h1 := Int.tmod_lt_of_pos (b : Int) (show 0 < n by omega)
        have h2 := Int.tmod_nonneg n (show (0 : Int) ≤ (b : Int) by omega)
        refine ⟨(b : Int).tmod n, ?_, by omega, by omega, by omega⟩
        refine Bk c_Z65 mixed 1 (go1 (cj5 @bytesD.eq_1 @rdD.eq_1 @e @hb @byteD.eq_1) ?_)
        refine fin_L [1000000] ?_ ?_ rfl ?_
        repeat' (first|(conv in hold _=>simp (disch:=omega) only [go_sem, bytesD])|exact trivial|exact Sub.refl _|omega)
      · have hl1 := Int.tmod_lt_of_pos (p : Int) (show (0 : Int) < bs.length by omega)
        have hl2 := Int.tmod_nonneg bs.length (show (0 : Int) ≤ p by omega)
        have hm1 := Int.tmod_lt_of_pos ((p : Int) * 7 + 3) (show (0 : Int) < bs.length by omega)
        have hm2 := Int.tmod_nonneg bs.length (show (0 : Int) ≤ (p : Int) * 7 + 3 by omega)
        obtain ⟨b1, hb1, hb1'⟩ := hat ((p : Int).tmod bs.length).toNat (by omega)
        obtain ⟨b2, hb2, hb2'⟩ := hat (((p : Int) * 7 + 3).tmod bs.length).toNat (by omega)
        have hd1 : (0 : Int) ≤ (p : Int).tdiv bs.length := Int.tdiv_nonneg (by omega) (by omega)
        have hd2 : (p : Int).tdiv bs.length ≤ p := Int.tdiv_le_self _ (by omega)
        have hx0 : (0 : Int) ≤ (b1 : Int) * 131 + (b2 : Int) * 1117 + (p : Int) * 29 + (p : Int).tdiv bs.length * 53 := by omega
        have hx1 : (b1 : Int) * 131 + (b2 : Int) * 1117 + (p : Int) * 29 + (p : Int).tdiv bs.length * 53 < 1099511627776 := by omega
        have hy0 : (0 : Int) ≤ ((b1 : Int) * 131 + (b2 : Int) * 1117 + (p : Int) * 29 + (p : Int).tdiv bs.length * 53).tdiv 64 := Int.tdiv_nonneg hx0 (by omega)
        have hy1 : ((b1 : Int) * 131 + (b2 : Int) * 1117 + (p : Int) * 29 + (p : Int).tdiv bs.length * 53).tdiv 64 ≤ (b1 : Int) * 131 + (b2 : Int) * 1117 + (p : Int) * 29 + (p : Int).tdiv bs.length * 53 := Int.tdiv_le_self _ hx0
        have hw : IntKind.i64.wrap (((b1 : Int) * 131 + (b2 : Int) * 1117 + (p : Int) * 29 + (p : Int).tdiv bs.length * 53).tdiv 64) = ((b1 : Int) * 131 + (b2 : Int) * 1117 + (p : Int) * 29 + (p : Int).tdiv bs.length * 53).tdiv 64 := wrap64 (by omega) (by omega)
        have hxr := xor_range hx0 hx1 hy0 (by omega)
        refine ⟨(intBit .xor .i64 ((b1 : Int) * 131 + (b2 : Int) * 1117 + (p : Int) * 29 + (p : Int).tdiv bs.length * 53) (((b1 : Int) * 131 + (b2 : Int) * 1117 + (p : Int) * 29 + (p : Int).tdiv bs.length * 53).tdiv 64)).tmod n, ?_, Int.tmod_nonneg n hxr, fun h => Int.tmod_lt_of_pos _ (by omega), fun h => by omega⟩
        refine Bk c_Z65 mixed 1 (go1 (cj7 @bytesD.eq_1 @rdD.eq_1 @e @hb1 @hb2 @byteD.eq_1 @hw) ?_)
        refine fin_L [1000000] ?_ ?_ rfl ?_
        repeat' (first|(conv in hold _=>simp (disch:=omega) only [go_sem, bytesD])|exact trivial|exact Sub.refl _|omega)
theorem one_ok {bs : List Nat} (hs : Src bs) (p : Nat) (hp : p < 1000000000) (xs : List Int) (hx : 0 < xs.length) (hxl : xs.length < 1000) :
    ∃ v : Int, Does Tryz.prog 49 [rdD bs p] [.ref 1000000 0, .sl 1 (xs.map I)] (I v) [rdD bs (p + 1)] ∧ v ∈ xs := by
  obtain ⟨k, hk, h0, h1, _⟩ := pick_ok hs p hp xs.length (by omega)
  have h1 := h1 (by omega)
  have hkx : k.toNat < xs.length := by omega
  have e := List.getElem?_eq_getElem hkx
  refine ⟨xs[k.toNat], ?_, List.getElem_mem hkx⟩
  refine Bk c_Z86 mixed 1 (go1 trivial ?_)
  refine c_doesR [1000000] (hk) (callOK_of rfl (Nat.le_of_ble_eq_true rfl) rfl ?_ ?_) ?_ ?_
  · repeat' (first|(conv in hold _=>simp (disch:=omega) only [go_sem, rdD, List.getElem?_map, e, Option.map_some])|exact trivial|exact Sub.refl _|omega)
  · repeat' (first|(conv in hold _=>simp (disch:=omega) only [go_sem, rdD, List.getElem?_map, e, Option.map_some])|exact trivial|exact Sub.refl _|omega)
  · ((conv=>rhs;simp (disch:=omega) only [go_sem, rdD, List.getElem?_map, e, Option.map_some]); try rfl)
  repeat' (first|with_reducible refine acc_none ?_ | (conv in hold _=>simp (disch:=omega) only [go_sem, rdD, List.getElem?_map, e, Option.map_some])|refine Stp.go ?_|(with_reducible first|refine it_pos rfl ?_|refine it_neg (by decide) ?_|refine st_nil rfl ?_|refine s_op ?_ ?_|exact trivial)|((with_reducible first|refine dw_reg0 ?_|refine dw_regB ?_);(conv=>arg 3;whnf))|(refine Spl.go (fun hq he=>?_) (fun hq he=>?_)<;>first|(exfalso;clear hq;omega)|((try first|(conv=>arg 8;simp only [hq])|(conv=>arg 4;simp only [hq]));clear hq))|((with_reducible first|refine c_split (fun hq=>?_) (fun hq=>?_)|refine q_split (fun hq=>?_) (fun hq=>?_))<;>(try first|(conv=>arg 8;simp only [hq])|(conv=>arg 4;simp only [hq])))|(with_reducible refine fin_0 ?_ (by first|rfl|(conv=>lhs;simp only [go_sem, rdD, List.getElem?_map, e, Option.map_some])) ?_)|exact Sub.refl _|omega)
  refine fin_L [1000000] ?_ ?_ rfl ?_
  repeat' (first|(conv in hold _=>simp (disch:=omega) only [go_sem])|exact trivial|exact Sub.refl _|omega)
end Go.Proofs.YtlcmchjeakhajaaGreat
namespace Go.Proofs.YtlcmchjeakhajaaGreat
open Go.RowKit
theorem does_toInt (b : Bool) : Does Tryz.prog 133 [] [.v (.bool b)] (.v (.int .i64 (if b then 1 else 0))) [] := by
  refine does0 c_Z167 mixed (Nat.le_of_ble_eq_true rfl) ?_
  conv => arg 3; whnf
  repeat' (first|with_reducible refine acc_none ?_ | (conv in hold _=>simp (disch:=omega) only [go_sem])|refine Stp.go ?_|(with_reducible first|refine it_pos rfl ?_|refine it_neg (by decide) ?_|refine st_nil rfl ?_|refine s_op ?_ ?_|exact trivial)|((with_reducible first|refine dw_reg0 ?_|refine dw_regB ?_);(conv=>arg 3;whnf))|(refine Spl.go (fun hq he=>?_) (fun hq he=>?_)<;>first|(exfalso;clear hq;omega)|((try first|(conv=>arg 8;simp only [hq])|(conv=>arg 4;simp only [hq]));clear hq))|((with_reducible first|refine c_split (fun hq=>?_) (fun hq=>?_)|refine q_split (fun hq=>?_) (fun hq=>?_))<;>(try first|(conv=>arg 8;simp only [hq])|(conv=>arg 4;simp only [hq])))|(with_reducible refine fin_0 ?_ (by first|rfl|(conv=>lhs;simp only [go_sem])) ?_)|exact Sub.refl _|omega)
  · subst hq; exact Sub.refl _
  · subst hq; exact Sub.refl _
theorem does_kidsOf (k : Int) : Does Tryz.prog 139 [] [I k] (I (kidsN k)) [] := by
  refine does0 c_Z162 mixed (Nat.le_of_ble_eq_true rfl) ?_
  conv => arg 3; whnf
  repeat' (first|with_reducible refine acc_none ?_ | (conv in hold _=>simp (disch:=omega) only [go_sem])|refine Stp.go ?_|(with_reducible first|refine it_pos rfl ?_|refine it_neg (by decide) ?_|refine st_nil rfl ?_|refine s_op ?_ ?_|exact trivial)|((with_reducible first|refine dw_reg0 ?_|refine dw_regB ?_);(conv=>arg 3;whnf))|(refine Spl.go (fun hq he=>?_) (fun hq he=>?_)<;>first|(exfalso;clear hq;omega)|((try first|(conv=>arg 8;simp only [hq])|(conv=>arg 4;simp only [hq]));clear hq))|((with_reducible first|refine c_split (fun hq=>?_) (fun hq=>?_)|refine q_split (fun hq=>?_) (fun hq=>?_))<;>(try first|(conv=>arg 8;simp only [hq])|(conv=>arg 4;simp only [hq])))|(with_reducible refine fin_0 ?_ (by first|rfl|(conv=>lhs;simp only [go_sem])) ?_)|exact Sub.refl _|omega)
  all_goals (refine Sub.of_eq ?_; unfold kidsN; congr 2; omega)
end Go.Proofs.YtlcmchjeakhajaaGreat
namespace Go.Proofs.YtlcmchjeakhajaaGreat
open Go.RowKit
noncomputable section
def r_Z26_0 : List GI := [gl 7 1, gf 8 2 0, gf 9 8 0, gl 10 9, gc 11 106 [.t 10], gi 12 (.bsl 12 1 none [.nul, .nul] [(0, .t 7), (1, .t 11)]), gc 13 105 [.t 12], gt 4 13]
def r_Z26_1 : List GI := [gf 14 2 0, gf 15 14 1, gl 16 15, gn 17 16, gk 18 0]
def r_Z26_2 : List GI := [gb 19 .lss 18 17]
def r_Z26_3 : List GI := [ga 20 16 18 1, gl 21 20, gt 6 21]
def r_Z26_4 : List GI := [gt 22 4, gl 23 1, gn 24 23, gi 25 (.slc 25 (.t 22) (some (.t 24)) none 2), gt 26 6, gi 27 (.cpy 27 (.t 25) (.t 26) 2)]
def r_Z26_5 : List GI := [gf 28 2 2, gl 29 28, gt 30 4, ⟨.inv 31 (.t 29) name_impl_value [.t 30], some 31, none, true⟩, gc 32 100 [.t 31], gd 33 .eql 32 2, gt 34 33, ⟨.mov 35 (.t 0), some 35, some (34, true), false⟩, ⟨.mov 36 (.t 4), some 36, some (34, true), false⟩, ⟨.call 37 36 [.t 36], some 37, some (34, true), true⟩, ⟨.cal 38 (.t 35) [.t 37], some 38, some (34, true), true⟩, ⟨.un 39 UnOp.not (.t 38), some 39, some (34, true), false⟩, gi 40 (.pick 40 (.t 34) (.t 39) (.k (.v (.bool false))))]
def r_Z26_6 : List GI := [gd 41 .add 18 1, gt 18 41]
def dc_Z26 : DC := .seq (.reg r_Z26_0 (some [0, 0, 2, 6, 14, 31, 63, 127])) (.seq (.z r_Z26_1) (.block 0 (.loop (.seq (.z r_Z26_2) (.seq (.cond (.t 19) .skip (.exit 0)) (.seq (.block 1 (.seq (.z r_Z26_3) (.seq (.z r_Z26_4) (.seq (.z r_Z26_5) (.cond (.t 40) .ret .skip))))) (.z r_Z26_6)))))))
theorem c_Z26 : cfun Tryz.prog [] 104 = some (42, dc_Z26, []) := by kernel_rfl
end
end Go.Proofs.YtlcmchjeakhajaaGreat
set_option maxHeartbeats 4000000
set_option maxRecDepth 100000
namespace Go.Proofs.YtlcmchjeakhajaaGreat
open Go.ChangeShapes Go.WideShapes Go.ChangeAt Go.RowKit Go.Joins Go.Deep
inductive Most : E → Prop
  | mk {k c : Int} {v : V} {ks : List E} (h : ks.length ≤ big) (hk : ∀ x, x ∈ ks → Most x) : Most (.mk k c v ks)
theorem Most.len {e : E} (h : Most e) : e.ks.length ≤ big := by cases h; assumption
section
variable {H : Type} {enc : TypeId × Value → H} {W : World} {base b0 : Nat} {held : Bool} {r : Reach} {v : Value} {d : DataW H} {p : List MemPlace}
end
end Go.Proofs.YtlcmchjeakhajaaGreat

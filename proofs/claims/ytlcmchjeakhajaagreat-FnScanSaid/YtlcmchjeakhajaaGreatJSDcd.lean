/-
  The library's sort of rows lies at this program: its closure's bodies and types. Closed facts of the program alone.
-/
import Derived.Shelf.SlLaysF
import Derived.Shelf.SlGeneric
import Derived.KernelRfl
import Derived.Test.YtlcmchjeakhajaaGreatKSDca
import Derived.Test.YtlcmchjeakhajaaGreatJSVGo
import Derived.Test.YtlcmchjeakhajaaGreatJSVTbD
import Derived.Test.YtlcmchjeakhajaaGreatRows
import Derived.Test.YtlcmchjeakhajaaGreatKSDcc
namespace Go.Proofs.YtlcmchjeakhajaaGreat
open Go.Shelf
def rowsSort_ren : Go.Shelf.Ren := ⟨fun | 6 => 34 | 15 => 74 | 14 => 73 | 28 => 124 | 29 => 125 | 20 => 116 | 21 => 117 | 22 => 118 | 23 => 119 | 24 => 120 | 25 => 121 | 26 => 122 | 27 => 123 | 46 => 147 | 47 => 148 | 48 => 149 | 49 => 150 | 50 => 151 | 57 => 164 | n => n, fun | 22 => 31 | 24 => 69 | 25 => 70 | 3 => 3 | 39 => 102 | 0 => 0 | 53 => 156 | 55 => 158 | 4 => 4 | 46 => 149 | 45 => 148 | 50 => 153 | 5 => 5 | 9 => 9 | 66 => 182 | 70 => 186 | 76 => 195 | 77 => 196 | n => n, fun | n => n⟩
theorem rowsSort : Go.Proofs.SlLaysF.n6 Tryz.prog rowsSort_ren := {
  mixed := by kernel_rfl
  f6 := ⟨Tryz.f34.name, by decide, Tryz.func34.trans (congrArg some (by kernel_rfl))⟩
  f14 := ⟨Tryz.f73.name, by decide, Tryz.func73.trans (congrArg some (by kernel_rfl))⟩
  f15 := Tryz.func74.trans (congrArg some (by kernel_rfl))
  f20 := ⟨Tryz.f116.name, by decide, Tryz.func116.trans (congrArg some (by kernel_rfl))⟩
  f21 := ⟨Tryz.f117.name, by decide, Tryz.func117.trans (congrArg some (by kernel_rfl))⟩
  f22 := ⟨Tryz.f118.name, by decide, Tryz.func118.trans (congrArg some (by kernel_rfl))⟩
  f23 := ⟨Tryz.f119.name, by decide, Tryz.func119.trans (congrArg some (by kernel_rfl))⟩
  f24 := ⟨Tryz.f120.name, by decide, Tryz.func120.trans (congrArg some (by kernel_rfl))⟩
  f25 := ⟨Tryz.f121.name, by decide, Tryz.func121.trans (congrArg some (by kernel_rfl))⟩
  f26 := ⟨Tryz.f122.name, by decide, Tryz.func122.trans (congrArg some (by kernel_rfl))⟩
  f27 := ⟨Tryz.f123.name, by decide, Tryz.func123.trans (congrArg some (by kernel_rfl))⟩
  f28 := Tryz.func124.trans (congrArg some (by kernel_rfl))
  f29 := Tryz.func125.trans (congrArg some (by kernel_rfl))
  f46 := ⟨Tryz.f147.name, by decide, Tryz.func147.trans (congrArg some (by kernel_rfl))⟩
  f47 := Tryz.func148.trans (congrArg some (by kernel_rfl))
  f48 := Tryz.func149.trans (congrArg some (by kernel_rfl))
  f49 := ⟨Tryz.f150.name, by decide, Tryz.func150.trans (congrArg some (by kernel_rfl))⟩
  f50 := ⟨Tryz.f151.name, by decide, Tryz.func151.trans (congrArg some (by kernel_rfl))⟩
  f57 := ⟨Tryz.f164.name, by decide, Tryz.func164.trans (congrArg some (by kernel_rfl))⟩
  t0 := Tryz.underlying0
  a0 := Tryz.isAgg0
  z0 := Tryz.sizeOf0
  v0 := Tryz.zeroValue0
  t3 := Tryz.underlying3
  a3 := Tryz.isAgg3
  z3 := Tryz.sizeOf3
  v3 := Tryz.zeroValue3
  t4 := Tryz.underlying4
  a4 := Tryz.isAgg4
  z4 := Tryz.sizeOf4
  v4 := Tryz.zeroValue4
  t5 := Tryz.underlying5
  a5 := Tryz.isAgg5
  z5 := Tryz.sizeOf5
  v5 := Tryz.zeroValue5
  t9 := Tryz.underlying9
  a9 := Tryz.isAgg9
  z9 := Tryz.sizeOf9
  v9 := Tryz.zeroValue9
  t22 := Tryz.underlying31
  a22 := Tryz.isAgg31
  z22 := Tryz.sizeOf31
  v22 := Tryz.zeroValue31
  a24 := Tryz.isAgg69
  z24 := Tryz.sizeOf69
  t25 := Tryz.underlying70
  a25 := Tryz.isAgg70
  z25 := Tryz.sizeOf70
  v25 := Tryz.zeroValue70
  t39 := Tryz.underlying102
  a39 := Tryz.isAgg102
  z39 := Tryz.sizeOf102
  v39 := Tryz.zeroValue102
  t45 := Tryz.underlying148
  a45 := Tryz.isAgg148
  z45 := Tryz.sizeOf148
  v45 := Tryz.zeroValue148
  t46 := Tryz.underlying149
  a46 := Tryz.isAgg149
  z46 := Tryz.sizeOf149
  v46 := Tryz.zeroValue149
  t50 := Tryz.underlying153
  a50 := Tryz.isAgg153
  z50 := Tryz.sizeOf153
  v50 := Tryz.zeroValue153
  t53 := Tryz.underlying156
  a53 := Tryz.isAgg156
  z53 := Tryz.sizeOf156
  v53 := Tryz.zeroValue156
  t55 := Tryz.underlying158
  a55 := Tryz.isAgg158
  z55 := Tryz.sizeOf158
  v55 := Tryz.zeroValue158
  t66 := Tryz.underlying182
  a66 := Tryz.isAgg182
  z66 := Tryz.sizeOf182
  v66 := Tryz.zeroValue182
  t70 := Tryz.underlying186
  a70 := Tryz.isAgg186
  z70 := Tryz.sizeOf186
  v70 := Tryz.zeroValue186
  t76 := Tryz.underlying195
  a76 := Tryz.isAgg195
  z76 := Tryz.sizeOf195
  v76 := Tryz.zeroValue195
  t77 := Tryz.underlying196
  a77 := Tryz.isAgg196
  z77 := Tryz.sizeOf196
  v77 := Tryz.zeroValue196 }
end Go.Proofs.YtlcmchjeakhajaaGreat
set_option maxHeartbeats 4000000
set_option maxRecDepth 100000
set_option linter.unusedVariables false
set_option linter.unusedSimpArgs false
namespace Go.Proofs.YtlcmchjeakhajaaGreat
open Go.RowKit
def tupR (r : List V) : D := .tup [rowD r]
theorem tupR_at {rs : List (List V)} {i : Nat} {es : List D} (h : (rs.map tupR)[i]? = some (.tup es)) : ∃ r, rs[i]? = some r ∧ es = [rowD r] := by
  rw [List.getElem?_map] at h
  cases hr : rs[i]? with
  | none => rw [hr] at h; cases h
  | some r =>
    rw [hr] at h
    simp only [Option.map_some, Option.some.injEq, tupR, D.tup.injEq] at h
    exact ⟨r, rfl, h.symm⟩
theorem values_rows (rs : List (List V)) (hl : rs.length ≤ 100000) : Yields Tryz.prog 108 [.ptr [rowsD rs]] (rs.map tupR) := by
  refine yields c_Z2 mixed (Nat.le_of_ble_eq_true rfl) (fun i e => ?_)
  conv => arg 3; whnf
  refine go1 trivial ?_
  refine dw_for (c := 0) (l := fun j => [(0, .v (.func (.yield i) #[] #[])), (1, .ptr [rowsD rs]), (5, rowsD rs), (6, I rs.length), (7, I j), (gh, .gho i (rs.map tupR) e j)]) rs.length (fun j => j ≤ e) 0 (Nat.zero_le _) (Wk.list [] rfl rfl ?_) (fun j hj hJ => ?_) (Nat.zero_le _)
  · repeat' (first|(conv in hold _=>simp (disch:=omega) only [go_sem])|exact trivial|exact Sub.refl _|omega)
    exact rfl
  · rcases at_or_end hj with ⟨x, hx, hlt⟩ | rfl
    · refine go1 @hx ?_
      refine v_yld (by ((conv => lhs; simp (disch := omega) only [go_sem]); try rfl)) (hJ) ((by rw [List.getElem?_map, hx]; rfl)) (by first | rfl | (simp only [go_sem])) ?_
      repeat' (first|with_reducible refine acc_none ?_ | (conv in hold _=>simp (disch:=omega) only [go_sem])|refine Stp.go ?_|(with_reducible first|refine it_pos rfl ?_|refine it_neg (by decide) ?_|refine st_nil rfl ?_|refine s_op ?_ ?_|exact trivial)|((with_reducible first|refine dw_reg0 ?_|refine dw_regB ?_);(conv=>arg 3;whnf))|(refine Spl.go (fun hq he=>?_) (fun hq he=>?_)<;>first|(exfalso;clear hq;omega)|((try first|(conv=>arg 8;simp only [hq])|(conv=>arg 4;simp only [hq]));clear hq))|((with_reducible first|refine c_split (fun hq=>?_) (fun hq=>?_)|refine q_split (fun hq=>?_) (fun hq=>?_))<;>(try first|(conv=>arg 8;simp only [hq])|(conv=>arg 4;simp only [hq])))|(with_reducible refine fin_0 ?_ (by first|rfl|(conv=>lhs;simp only [go_sem])) ?_)|exact Sub.refl _|omega)
      · refine ⟨(j + 1), ?_, ?_⟩
        · ((conv => lhs; simp (disch := omega) only [go_sem]); try rfl)
        simp only [List.length_map]
        omega
      · refine ⟨hlt, by omega, Wk.list [] rfl rfl ?_⟩
        repeat' (first|(conv in hold _=>simp (disch:=omega) only [go_sem])|exact trivial|exact Sub.refl _|omega)
    · refine go1 trivial ?_
      refine ⟨rs.length, ?_, ?_⟩
      · ((conv => lhs; simp (disch := omega) only [go_sem]); try rfl)
      rw [List.length_map]
      omega
theorem Values_rows (rs : List (List V)) : Does Tryz.prog 68 [] [rowsD rs] (.fn 108 [.ptr [rowsD rs]]) [] := by
  refine Bg c_Z4 mixed (go1F trivial ?_)
  refine fin_wk (wk_fro 2 2000001 (by decide) (by decide) rfl ?_) ?_
  rotate_left
  (conv in hold _=>simp (disch:=omega) only [go_sem])
  · refine fin_L [] ?_ ?_ rfl ?_
    repeat' (first|(conv in hold _=>simp (disch:=omega) only [go_sem])|exact trivial|exact Sub.refl _|omega)
  · rfl
theorem appendSeq_rows {f : FuncId} (hf : enters Tryz.prog f = true) {caps : List D} (hcp : D.purL caps = true) (rs : List (List V)) (hl : rs.length ≤ 100000) (hY : Yields Tryz.prog f caps (rs.map tupR)) :
    Does Tryz.prog 167 [] [.nul, .fn f caps] (.own 1000000 1 rs.length) [.row 1 (rs.map rowD)] := by
  have hren := fun L => ren_pure.renL_pure L caps hcp
  refine Bk c_Z1 mixed 0 (go1 trivial ?_)
  refine dw_rng f caps (rs.map tupR) 1 2 [(2, .ref 1000000 0), (6, .fn f caps)] (fun i => [(1000000, .obj [.own 1000001 1 i]), (1000001, .row 1 ((rs.take i).map rowD))]) hY hf hcp (Nat.zero_le _) (by decide) (by decide) ?_ (fun i => namesOK_of rfl) ((wk_rowO 2000002 3000000 1 0 (by decide) (by decide) (by decide) rfl rfl rfl).trans (Wk.list [2000002, 3000000] rfl rfl ?_)) rfl (fun i es h => by obtain ⟨_, _, rfl⟩ := tupR_at h; rfl) (fun i es h hp => ?_) ?_
  · simp (disch := omega) only [go_sem, hren, and_self, Nat.reduceLT]
  · repeat' (first|(conv in hold _=>simp (disch:=omega) only [go_sem, hren])|exact trivial|exact Sub.refl _|omega)
  · obtain ⟨r, hr, rfl⟩ := tupR_at h
    have hlt := (List.getElem?_eq_some_iff.1 hr).1
    have hmk : ((rs.take i).map rowD).take i = (rs.take i).map rowD := take_map rowD (by omega)
    have hnx := take_next hr
    have htl := take_len (vs := rs) (i := i) (by omega)
    refine go1 @htl ?_
    refine Wk.list [1000000, 2000011] rfl rfl ?_
    repeat' (first|(conv in hold _=>simp (disch:=omega) only [go_sem, List.length_map, htl])|exact trivial|exact Sub.refl _|omega)
    rw [hmk, hnx, List.map_append]
    rfl
  · have e1 : rs.take rs.length = rs := List.take_length
    refine go1 @e1 ?_
    refine fin_L [1000001] ?_ ?_ rfl ?_
    repeat' (first|(conv in hold _=>simp (disch:=omega) only [go_sem, List.length_map, e1])|exact trivial|exact Sub.refl _|omega)
theorem collect_rows {f : FuncId} (hf : enters Tryz.prog f = true) {caps : List D} (hcp : D.purL caps = true) (rs : List (List V)) (hl : rs.length ≤ 100000) (hY : Yields Tryz.prog f caps (rs.map tupR)) :
    Does Tryz.prog 163 [] [.fn f caps] (.own 1000000 1 rs.length) [.row 1 (rs.map rowD)] := by
  have hren := fun L => ren_pure.renL_pure L caps hcp
  have ha := appendSeq_rows hf hcp rs hl hY
  refine Bk c_Z15 mixed 0 (go1 trivial ?_)
  refine UcR [3000001] @hren (ha) (go1 @hren ?_)
  refine fin_L [3000001] ?_ ?_ rfl ?_
  repeat' (first|(conv in hold _=>simp (disch:=omega) only [go_sem])|exact trivial|exact Sub.refl _|omega)
end Go.Proofs.YtlcmchjeakhajaaGreat
namespace Go.Proofs.YtlcmchjeakhajaaGreat
open Go.RowKit
noncomputable section
def r_Z39_0 : List GI := [gl 6 1, gn 7 6, gk 8 0]
def r_Z39_1 : List GI := [gb 9 .lss 8 7]
def r_Z39_2 : List GI := [ga 10 6 8 1, gl 11 10, gt 5 11]
def r_Z39_3 : List GI := [gl 12 2, gt 13 5, ⟨.inv 14 (.t 12) name_impl_value [.t 13], some 14, none, true⟩, gc 15 100 [.t 14], gd 16 .eql 15 2, gt 17 16, ⟨.mov 18 (.t 0), some 18, some (17, true), false⟩, ⟨.mov 19 (.t 5), some 19, some (17, true), false⟩, ⟨.cal 20 (.t 18) [.t 19], some 20, some (17, true), true⟩, ⟨.un 21 UnOp.not (.t 20), some 21, some (17, true), false⟩, gi 22 (.pick 22 (.t 17) (.t 21) (.k (.v (.bool false))))]
def r_Z39_4 : List GI := [gd 23 .add 8 1, gt 8 23]
def dc_Z39 : DC := .seq (.z r_Z39_0) (.block 0 (.loop (.seq (.z r_Z39_1) (.seq (.cond (.t 9) .skip (.exit 0)) (.seq (.block 1 (.seq (.z r_Z39_2) (.seq (.z r_Z39_3) (.cond (.t 22) .ret .skip)))) (.z r_Z39_4))))))
theorem c_Z39 : cfun Tryz.prog [] 99 = some (24, dc_Z39, []) := by kernel_rfl
def r_Z161_0 : List GI := [gi 4 (.mov 4 (.k .nul))]
def r_Z161_1 : List GI := [gt 5 0, gc 6 52 [.t 5], gt 7 1, gi 8 (.app 8 2000008 (.t 6) (.t 7) 2 16), gt 4 8]
def dc_Z161 : DC := .seq (.z r_Z161_0) (.seq (.z r_Z161_1) .ret)
theorem c_Z161 : cfun Tryz.prog [] 86 = some (9, dc_Z161, [(Res.tmp 4)]) := by kernel_rfl
def r_Z166_0 : List GI := [gi 2 (.mov 2 (.k .nul))]
def r_Z166_1 : List GI := [gi 5 (.mov 5 (.k .nul)), gt 3 5]
def r_Z166_2 : List GI := [gk 4 0]
def r_Z166_3 : List GI := [gt 6 4, gt 7 0, gb 8 .lss 6 7]
def r_Z166_4 : List GI := [gt 11 3, gi 12 (.build 12 [.v (.bool false), I 0] [(0, (none, .k (.v (.bool true))))]), gi 13 (.bsl 13 2 (some 2) [.agg [.v (.bool false), I 0]] [(0, .t 12)]), gi 14 (.app 14 2000014 (.t 11) (.t 13) 2 16), gt 3 14]
def r_Z166_5 : List GI := [gt 9 4, gd 10 .add 9 1, gt 4 10]
def r_Z166_6 : List GI := [gt 15 3, gt 2 15]
def dc_Z166 : DC := .seq (.z r_Z166_0) (.seq (.z r_Z166_1) (.seq (.seq (.z r_Z166_2) (.block 0 (.loop (.seq (.seq (.z r_Z166_3) (.cond (.t 8) .skip (.exit 0))) (.seq (.block 1 (.z r_Z166_4)) (.z r_Z166_5)))))) (.seq (.z r_Z166_6) .ret)))
theorem c_Z166 : cfun Tryz.prog [] 87 = some (16, dc_Z166, [(Res.tmp 2)]) := by kernel_rfl
def r_Z66_0 : List GI := [gi 2 (.box 2 2000002 (.t 0) (some 2)), gi 4 (.alloc 4 2000004 [I 0, .nul])]
def r_Z66_1 : List GI := [gi 9 (.mov 9 (.k .nul)), gt 5 9]
def r_Z66_2 : List GI := [gk 6 0]
def r_Z66_3 : List GI := [gt 10 6, gf 11 2 1, gl 12 11, gn 13 12, gb 14 .lss 10 13]
def r_Z66_4 : List GI := [gi 17 (.mov 17 (.k .nul)), gt 7 17]
def r_Z66_5 : List GI := [gk 8 0]
def r_Z66_6 : List GI := [gt 18 8, gt 19 1, gn 20 19, gb 21 .lss 18 20]
def r_Z66_7 : List GI := [gt 24 7, gt 25 1, gt 26 8, ga 27 25 26 5, gs 28 27 5, gf 29 2 1, gl 30 29, gt 31 6, ga 32 30 31 1, gl 33 32, gc 34 85 [.t 28, .t 33], gi 35 (.bsl 35 2 (some 2) [.agg [.v (.bool false), I 0]] [(0, .t 34)]), gi 36 (.app 36 2000036 (.t 24) (.t 35) 2 16), gt 7 36]
def r_Z66_8 : List GI := [gt 22 8, gd 23 .add 22 1, gt 8 23]
def r_Z66_9 : List GI := [gt 37 5, gt 38 7, gi 39 (.bsl 39 1 none [.nul] [(0, .t 38)]), gi 40 (.app 40 2000040 (.t 37) (.t 39) 1 24), gt 5 40]
def r_Z66_10 : List GI := [gt 15 6, gd 16 .add 15 1, gt 6 16]
def r_Z66_11 : List GI := [gt 41 1, gn 42 41, gt 43 5, gc 44 40 [.t 42, .t 43], g0 (.sto 4 (.t 44) (some 2))]
def dc_Z66 : DC := .seq (.z r_Z66_0) (.seq (.z r_Z66_1) (.seq (.seq (.z r_Z66_2) (.block 0 (.loop (.seq (.seq (.z r_Z66_3) (.cond (.t 14) .skip (.exit 0))) (.seq (.block 1 (.seq (.z r_Z66_4) (.seq (.seq (.z r_Z66_5) (.block 2 (.loop (.seq (.seq (.z r_Z66_6) (.cond (.t 21) .skip (.exit 2))) (.seq (.block 3 (.reg r_Z66_7 (some [0, 0, 0, 6, 14, 0, 32, 0, 224, 480, 1022, 2046, 4095, 8191]))) (.z r_Z66_8)))))) (.z r_Z66_9)))) (.z r_Z66_10)))))) (.seq (.z r_Z66_11) .ret)))
theorem c_Z66 : cfun Tryz.prog [] 42 = some (45, dc_Z66, [(Res.cell 4 (some 2))]) := by kernel_rfl
def r_Z49_0 : List GI := [gi 2 (.box 2 2000002 (.t 0) none), gi 4 (.mov 4 (.k (.v .nilFunc)))]
def r_Z49_1 : List GI := [gi 5 (.alloc 5 2000005 [.nul])]
def r_Z49_2 : List GI := [gt 8 1, gn 9 8, gk 10 0]
def r_Z49_3 : List GI := [gb 11 .lss 10 9]
def r_Z49_4 : List GI := [ga 12 8 10 5, gs 13 12 5, gi 7 (.alloc 7 2000007 [I 0, I 0, .v (.bool false), I 0, .nul]), g0 (.sto 7 (.t 13) (some 5))]
def r_Z49_5 : List GI := [gl 14 5, gs 15 7 5, gc 16 63 [.t 15], gi 17 (.bsl 17 1 none [.v .nilIface] [(0, .t 16)]), gi 18 (.app 18 2000018 (.t 14) (.t 17) 1 16), g0 (.sto 5 (.t 18) none)]
def r_Z49_6 : List GI := [gd 19 .add 10 1, gt 10 19]
def r_Z49_7 : List GI := [gi 20 (.mkf 20 102 [.t 2, .t 5]), gt 4 20]
def dc_Z49 : DC := .seq (.z r_Z49_0) (.seq (.z r_Z49_1) (.seq (.seq (.z r_Z49_2) (.block 0 (.loop (.seq (.z r_Z49_3) (.seq (.cond (.t 11) .skip (.exit 0)) (.seq (.block 1 (.seq (.z r_Z49_4) (.reg r_Z49_5 (some [0, 0, 2, 6, 15, 31])))) (.z r_Z49_6))))))) (.seq (.z r_Z49_7) .ret)))
theorem c_Z49 : cfun Tryz.prog [] 64 = some (21, dc_Z49, [(Res.tmp 4)]) := by kernel_rfl
def r_Z34_0 : List GI := [gl 9 1, gn 10 9, gk 11 0]
def r_Z34_1 : List GI := [gb 12 .lss 11 10]
def r_Z34_2 : List GI := [ga 13 9 11 1, gl 14 13, gt 5 14]
def r_Z34_3 : List GI := [gi 6 (.mov 6 (.k .nul))]
def r_Z34_4 : List GI := [gl 15 2, gn 16 15, gk 17 0]
def r_Z34_5 : List GI := [gb 18 .lss 17 16]
def r_Z34_6 : List GI := [ga 19 15 17 1, gl 20 19, gt 8 20]
def r_Z34_7 : List GI := [gt 21 6, gt 22 8, gt 23 5, ⟨.inv 24 (.t 22) name_impl_value [.t 23], some 24, none, true⟩, gi 25 (.bsl 25 2 (some 2) [.agg [.v (.bool false), I 0]] [(0, .t 24)]), gi 26 (.app 26 2000026 (.t 21) (.t 25) 2 16), gt 6 26]
def r_Z34_8 : List GI := [gd 27 .add 17 1, gt 17 27]
def r_Z34_9 : List GI := [gt 28 0, gt 29 6, ⟨.cal 30 (.t 28) [.t 29], some 30, none, true⟩, gi 31 (.un 31 UnOp.not (.t 30))]
def r_Z34_10 : List GI := [gd 32 .add 11 1, gt 11 32]
def dc_Z34 : DC := .seq (.z r_Z34_0) (.block 0 (.loop (.seq (.z r_Z34_1) (.seq (.cond (.t 12) .skip (.exit 0)) (.seq (.block 1 (.seq (.z r_Z34_2) (.seq (.z r_Z34_3) (.seq (.seq (.z r_Z34_4) (.block 2 (.loop (.seq (.z r_Z34_5) (.seq (.cond (.t 18) .skip (.exit 2)) (.seq (.block 3 (.seq (.z r_Z34_6) (.z r_Z34_7))) (.z r_Z34_8))))))) (.seq (.z r_Z34_9) (.cond (.t 31) .ret .skip)))))) (.z r_Z34_10))))))
theorem c_Z34 : cfun Tryz.prog [] 102 = some (33, dc_Z34, []) := by kernel_rfl
end
end Go.Proofs.YtlcmchjeakhajaaGreat

/-
  The marks as lemmas (tool/gengo.py). No condition.
-/
import Derived.Test.YtclkehekhdfnnaaSVStep
namespace Go.Proofs.Ytclkehekhdfnnaa
open Go.RowKit
noncomputable section
structure HidQ (q : Prop) : Prop where
 v : q
section
variable {P : Program} {k : Nat} {σ : Env} {B : List Nat} {l : List GI} {acc : Option (List Ent)} {N : Env → Prop} {rd wr : List Nat}
theorem go1 {A p q : Prop} (x : A) (k : q) (h : A → HidQ q → p:=by
  intro xx zz
  try ((with_reducible show dwp _ _ _ _ _ _ _); (conv=>arg 3; whnf))
  repeat' (first|with_reducible refine acc_none ?_ | (conv in hold _=>simp (disch:=omega) only [go_sem,List.getElem?_map,Option.map_some,List.length_replicate,beq_self_eq_true,bne_self_eq_false,xx])|refine Stp.go ?_|(with_reducible first|refine it_pos rfl ?_|refine it_neg (by decide) ?_|refine st_nil rfl ?_|refine s_op ?_ ?_|exact trivial)|((with_reducible first|refine dw_reg0 ?_|refine dw_regB ?_);(conv=>arg 3;whnf))|(refine Spl.go (fun hq he=>?_) (fun hq he=>?_)<;>first|(exfalso;clear hq;omega)|((try first|(conv=>arg 8;simp only [hq])|(conv=>arg 4;simp only [hq]));clear hq))|((with_reducible first|refine c_split (fun hq=>?_) (fun hq=>?_)|refine q_split (fun hq=>?_) (fun hq=>?_))<;>(try first|(conv=>arg 8;simp only [hq])|(conv=>arg 4;simp only [hq])))|(with_reducible refine fin_0 ?_ (by first|rfl|(conv=>lhs;simp only [go_sem,List.getElem?_map,Option.map_some,List.length_replicate,beq_self_eq_true,bne_self_eq_false,xx])) ?_)|exact Sub.refl _|omega)
  exact zz.v) : p:=h x ⟨k⟩
theorem go0 {A p : Prop} (x : A) (h : A → p:=by
  intro xx
  try ((with_reducible show dwp _ _ _ _ _ _ _); (conv=>arg 3; whnf))
  repeat' (first|with_reducible refine acc_none ?_ | (conv in hold _=>simp (disch:=omega) only [go_sem,List.getElem?_map,Option.map_some,List.length_replicate,beq_self_eq_true,bne_self_eq_false,xx])|refine Stp.go ?_|(with_reducible first|refine it_pos rfl ?_|refine it_neg (by decide) ?_|refine st_nil rfl ?_|refine s_op ?_ ?_|exact trivial)|((with_reducible first|refine dw_reg0 ?_|refine dw_regB ?_);(conv=>arg 3;whnf))|(refine Spl.go (fun hq he=>?_) (fun hq he=>?_)<;>first|(exfalso;clear hq;omega)|((try first|(conv=>arg 8;simp only [hq])|(conv=>arg 4;simp only [hq]));clear hq))|((with_reducible first|refine c_split (fun hq=>?_) (fun hq=>?_)|refine q_split (fun hq=>?_) (fun hq=>?_))<;>(try first|(conv=>arg 8;simp only [hq])|(conv=>arg 4;simp only [hq])))|(with_reducible refine fin_0 ?_ (by first|rfl|(conv=>lhs;simp only [go_sem,List.getElem?_map,Option.map_some,List.length_replicate,beq_self_eq_true,bne_self_eq_false,xx])) ?_)|exact Sub.refl _|omega)) : p:=h x
theorem go1F {A p q : Prop} (x : A) (k : q) (h : A → HidQ q → p:=by
  intro xx zz
  try ((with_reducible show dwp _ _ _ _ _ _ _); (conv=>arg 3; whnf))
  repeat' (first|with_reducible refine acc_none ?_ | (conv in hold _=>simp (disch:=omega) only [go_sem,List.getElem?_map,Option.map_some,List.length_replicate,beq_self_eq_true,bne_self_eq_false,xx])|refine Stp.go ?_|(with_reducible first|refine it_pos rfl ?_|refine it_neg (by decide) ?_|refine st_nil rfl ?_|refine s_op ?_ ?_|exact trivial)|((with_reducible first|refine dw_reg0 ?_|refine dw_regB ?_);(conv=>arg 3;whnf))|(refine Spl.go (fun hq he=>?_) (fun hq he=>?_)<;>first|(exfalso;clear hq;omega)|((try first|(conv=>arg 8;simp only [hq])|(conv=>arg 4;simp only [hq]));clear hq))|((with_reducible first|refine c_split (fun hq=>?_) (fun hq=>?_)|refine q_split (fun hq=>?_) (fun hq=>?_))<;>(try first|(conv=>arg 8;simp only [hq])|(conv=>arg 4;simp only [hq])))|exact Sub.refl _|omega)
  exact zz.v) : p:=h x ⟨k⟩
theorem go1R {A p q : Prop} (x : A) (k : q) (h : A → HidQ q → p:=by
  intro xx zz
  try ((with_reducible show dwp _ _ _ _ _ _ _); (conv=>arg 3; whnf))
  repeat' ((fail_if_success (with_reducible first | refine dw_reg0 ?_ | refine dw_regB ?_)); first | with_reducible refine acc_none ?_ | (conv in hold _=>simp (disch:=omega) only [go_sem,List.getElem?_map,Option.map_some,List.length_replicate,beq_self_eq_true,bne_self_eq_false,xx])|refine Stp.go ?_|(with_reducible first|refine it_pos rfl ?_|refine it_neg (by decide) ?_|refine st_nil rfl ?_|refine s_op ?_ ?_|exact trivial)|((with_reducible first|refine dw_reg0 ?_|refine dw_regB ?_);(conv=>arg 3;whnf))|(refine Spl.go (fun hq he=>?_) (fun hq he=>?_)<;>first|(exfalso;clear hq;omega)|((try first|(conv=>arg 8;simp only [hq])|(conv=>arg 4;simp only [hq]));clear hq))|((with_reducible first|refine c_split (fun hq=>?_) (fun hq=>?_)|refine q_split (fun hq=>?_) (fun hq=>?_))<;>(try first|(conv=>arg 8;simp only [hq])|(conv=>arg 4;simp only [hq])))|(with_reducible refine fin_0 ?_ (by first|rfl|(conv=>lhs;simp only [go_sem,List.getElem?_map,Option.map_some,List.length_replicate,beq_self_eq_true,bne_self_eq_false,xx])) ?_)|exact Sub.refl _|omega)
  exact zz.v) : p:=h x ⟨k⟩
theorem Uc {A : Prop} {f : FuncId} {ds es : List D} {rds : List Nat} {d : Nat} {r : D} (x : A) (hdo : Does P f [] es r []) (h : evG P B l (hold (σ.set d r)) (hold (push ⟨rd ++ (rds ++ []),wr ++ ([] ++ [d])⟩ acc)) N) (he : A → ds = hold es:=by
  intro xx
  first | rfl | ((conv=>rhs;simp (disch:=omega) only [go_sem,List.getElem?_map,Option.map_some,List.length_replicate,beq_self_eq_true,bne_self_eq_false,xx]); try rfl)) (hp : A → hold (D.purL (r :: ds)) = true:=by
  intro xx
  first|rfl|(conv=>lhs;simp only [go_sem,List.getElem?_map,Option.map_some,List.length_replicate,beq_self_eq_true,bne_self_eq_false,xx])) : evC P B f ds rds d rd wr l σ acc N:=c_doesE hdo (he x) (hp x) h
theorem UcR {A : Prop} {f : FuncId} {ds H es H' : List D} {rds : List Nat} {d : Nat} {r : D} (R : List Nat) (x : A) (hdo : Does P f H es r H') (h : evG P B l (hold (Env.put (callU R H' d r) σ)) (hold (push ⟨rd ++ (rds ++ R),wr ++ (R ++ [d])⟩ acc)) N) (h1 : R.length = H'.length:=by exact rfl) (h2 : Nat.ble H.length H'.length = true:=by exact rfl) (h3 : canB 0 R = true:=by exact rfl)
  (h4 : A → hold (oldOk σ R R H):=by
  intro xx
  repeat' (first|(conv in hold _=>simp (disch:=omega) only [go_sem,List.getElem?_map,Option.map_some,List.length_replicate,beq_self_eq_true,bne_self_eq_false,xx])|exact trivial|exact Sub.refl _|omega)) (h5 : A → hold (newOk σ (R.drop H.length)):=by
  intro xx
  repeat' (first|(conv in hold _=>simp (disch:=omega) only [go_sem,List.getElem?_map,Option.map_some,List.length_replicate,beq_self_eq_true,bne_self_eq_false,xx])|exact trivial|exact Sub.refl _|omega)) (h6 : A → ds = hold (es.map (D.ren R)):=by
  intro xx
  ((conv=>rhs;simp (disch:=omega) only [go_sem,List.getElem?_map,Option.map_some,List.length_replicate,beq_self_eq_true,bne_self_eq_false,xx]); try rfl)) : evC P B f ds rds d rd wr l σ acc N:=
 c_doesR R hdo (callOK_of h1 (Nat.le_of_ble_eq_true h2) h3 (h4 x) (h5 x)) (h6 x) h
theorem Bg {xo : List Nat} {f : FuncId} {n : Nat} {dc : DC} {rs : List Res} {ds : List D} {r : D} (hc : cfun P xo f = some (n,dc,rs)) (hm : P.follows .mixedOrders = true) (hd : dwp P 0 dc (hold (ent [] ds)) (Fin 0 rs r []) (fun _ _=>False) (Fin 0 rs r [])) (hl : Nat.ble ds.length n = true:=by exact rfl) : Does P f [] ds r []:=
 does0 hc hm (Nat.le_of_ble_eq_true hl) hd
theorem Bk {xo : List Nat} {f : FuncId} {n : Nat} {dc : DC} {rs : List Res} {H ds H' : List D} {r : D} (hc : cfun P xo f = some (n,dc,rs)) (hm : P.follows .mixedOrders = true) (k : Nat) (hd : dwp P k dc (hold (ent H ds)) (Fin k rs r H') (fun _ _=>False) (Fin k rs r H')) (hl : Nat.ble ds.length n = true:=by exact rfl) (hk : H.length = k:=by exact rfl) : Does P f H ds r H':=
 does hc hm (Nat.le_of_ble_eq_true hl) k hk hd
theorem Ag {A p : Prop} (x : A) (h : A → p:=by
  intro xx
  repeat' (first|(conv in hold _=>simp (disch:=omega) only [go_sem,List.getElem?_map,Option.map_some,List.length_replicate,beq_self_eq_true,bne_self_eq_false,xx])|exact trivial|exact Sub.refl _|omega)) : p:=h x
theorem cj2 {A B : Prop} (a : A) (b : B) : A ∧ B:=⟨a,b⟩
theorem cj3 {A B C : Prop} (a : A) (b : B) (c : C) : A ∧ B ∧ C:=⟨a,b,c⟩
theorem cj4 {A B C D : Prop} (a : A) (b : B) (c : C) (d : D) : A ∧ B ∧ C ∧ D:=⟨a,b,c,d⟩
end
end
end Go.Proofs.Ytclkehekhdfnnaa

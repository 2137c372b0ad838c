/-
  A number that comes in.
-/
import Derived.Test.YtedmegmhjmabcaaJSFactsC
import Derived.Test.YtedmegmhjmabcaaSVStep
namespace Go.Proofs.Ytedmegmhjmabcaa
open Go.ChangeShapes Go.WideShapes Go.ChangeAt Go.RowKit Go.Joins
open Go.ChangeMaps (open_string shut_string)
section
variable {H : Type} {enc : TypeId × Value → H} {W : World} {base b0 : Nat} {spare : Nat → Bool} {held : Bool} {r : Reach} {v : Value} {d : DataW H} {p : List MemPlace}
set_option maxRecDepth 100000 in
theorem open_Int (hv : Value.okWide Try.prog W r b0 3 v) (h : DataW.Trod enc Try.prog W base spare held 3 v d p) : ∃ n,v = .int .i64 n ∧ (Lit.int .i64 n).wf = true:=by
 obtain ⟨a,e1,_,_,wa⟩:=open_int Try.underlying3 hv h
 exact ⟨a,e1,wa⟩
end
end Go.Proofs.Ytedmegmhjmabcaa
namespace Go.Proofs.Ytedmegmhjmabcaa.Facts
open Go
theorem and2 {a b : Bool} (h : a = true) (k : b = true) : (a && b) = true:=by rw [h,k]; rfl
theorem p2 : laidOutB Try.prog = true:=by kernel_rfl
theorem p3 : mapsRowed Try.prog = true:=by kernel_rfl
theorem p7 : (Try.prog.stops == []) = true:=by kernel_rfl
theorem p9 : (Try.prog.stopKnobs == []) = true:=by kernel_rfl
theorem p22 : (true == Try.prog.plainKeys) = true:=by kernel_rfl
theorem p23b : Try.prog.stopsHeard = true:=by kernel_rfl
end Go.Proofs.Ytedmegmhjmabcaa.Facts
namespace Go.Proofs.Ytedmegmhjmabcaa
open Go.RowKit
attribute [go_sem_proc] Nat.reduceEqDiff Nat.reduceAdd Nat.reduceMul Nat.reduceSub Nat.reduceLT Nat.reduceLeDiff reduceCtorEq Int.reduceToNat
attribute [go_sem_proc ↓] reduceIte
abbrev I (n : Int) : D:=.v (.int .i64 n)
abbrev Bo (b : Bool) : D:=.v (.bool b)
theorem wrap64 {n : Int} (h0 : -9223372036854775808 ≤ n) (h1 : n ≤ 9223372036854775807) : IntKind.i64.wrap n = n:=by
 simp [IntKind.wrap,IntKind.bits,IntKind.signed]
 omega
def byteD (b : Nat) : D:=.v (.int .u8 b)
def bytesD (bs : List Nat) : D:=.sl 1 (bs.map byteD)
theorem bytesD_ren (L : List Nat) (bs : List Nat) : (bytesD bs).ren L = bytesD bs:=rfl
def rdD (bs : List Nat) (p : Nat) : D:=.obj [bytesD bs,I p]
structure Src (bs : List Nat) : Prop where
 byte : ∀ b,b ∈ bs → b < 256
 len : bs.length ≤ 2000
structure V where
 b : Bool
 n : Int
structure V.ok (v : V) : Prop where
 lo : -9999 ≤ v.n
 hi : v.n ≤ 9999
 nul : v.b = true → v.n = 0
def vD (v : V) : D:=.agg [Bo v.b,I v.n]
def rowD (vs : List V) : D:=.sl 2 (vs.map vD)
theorem cast1 (n : Nat) : ((n + 1 : Nat) : Int) = (n : Int) + 1:=by omega
theorem take_next {α : Type} {vs : List α} {i : Nat} {v : α} (h : vs[i]? = some v) : vs.take (i + 1) = vs.take i ++ [v]:=by rw [List.take_add_one,h]; rfl
theorem take_len {α : Type} {vs : List α} {i : Nat} (h : i ≤ vs.length) : (vs.take i).length = i:=by rw [List.length_take]; omega
theorem take_map {α β : Type} (f : α → β) {vs : List α} {i : Nat} (h : i ≤ vs.length) : ((vs.take i).map f).take i = (vs.take i).map f:=List.take_of_length_le (by rw [List.length_map,List.length_take]; omega)
theorem take_all {α β : Type} (f : α → β) (vs : List α) : (vs.map f).take vs.length = vs.map f:=List.take_of_length_le (by rw [List.length_map]; exact Nat.le_refl _)
theorem take_set {α β : Type} (f : α → β) (vs : List α) (j : Nat) (x : β) : ((vs.map f).set j x).take vs.length = (vs.map f).set j x:=List.take_of_length_le (by rw [List.length_set,List.length_map]; exact Nat.le_refl _)
inductive E where
 | mk (k c : Int) (v : V) (ks : List E)
namespace E
def k : E → Int
 | mk k _ _ _=>k
def c : E → Int
 | mk _ c _ _=>c
def v : E → V
 | mk _ _ v _=>v
def ks : E → List E
 | mk _ _ _ ks=>ks
end E
theorem E.k_mk (k c : Int) (v : V) (ks : List E) : (E.mk k c v ks).k = k:=rfl
theorem E.c_mk (k c : Int) (v : V) (ks : List E) : (E.mk k c v ks).c = c:=rfl
theorem E.v_mk (k c : Int) (v : V) (ks : List E) : (E.mk k c v ks).v = v:=rfl
theorem E.ks_mk (k c : Int) (v : V) (ks : List E) : (E.mk k c v ks).ks = ks:=rfl
theorem vD_ren (L : List Nat) (v : V) : (vD v).ren L = vD v:=rfl
theorem rowD_ren (L : List Nat) (vs : List V) : (rowD vs).ren L = rowD vs:=rfl
theorem vD_pur (v : V) : (vD v).pur = true:=rfl
theorem rowD_pur (vs : List V) : (rowD vs).pur = true:=rfl
theorem vals_pur : ∀ vs : List V,D.purL (vs.map vD) = true
 | []=>rfl
 | v :: vs=>by rw [List.map_cons,D.purL,vals_pur vs]; rfl
theorem vals_ren (L : List Nat) (vs : List V) : D.renL L (vs.map vD) = vs.map vD:=ren_pure.renL_pure L _ (vals_pur vs)
attribute [go_sem] rowD_pur E.k_mk E.c_mk E.v_mk E.ks_mk Int.add_sub_cancel take_all take_set Nat.le_refl List.length_set List.length_append vD_ren rowD_ren vals_ren vD_pur vals_pur cast1 rdD vD rowD wrap64 bytesD_ren
end Go.Proofs.Ytedmegmhjmabcaa
namespace Go.Proofs.Ytedmegmhjmabcaa
open Go.RowKit
noncomputable section
structure HidQ (q : Prop) : Prop where
 v : q
section
variable {P : Program} {k : Nat} {σ : Env} {B : List Nat} {l : List GI} {acc : Option (List Ent)} {N : Env → Prop} {rd wr : List Nat}
theorem go1 {A p q : Prop} (x : A) (k : q) (h : A → HidQ q → p:=by
  intro xx zz
  try ((with_reducible show dwp _ _ _ _ _ _ _); (conv=>arg 3; whnf))
  repeat' (first|with_reducible refine acc_none ?_ | (conv in hold _=>simp (disch:=omega) only [go_sem,List.getElem?_map,Option.map_some,List.length_replicate,beq_self_eq_true,bne_self_eq_false,xx])|refine Stp.go ?_|(with_reducible first|refine it_pos rfl ?_|refine it_neg (by decide) ?_|refine st_nil rfl ?_|refine s_op ?_ ?_|exact trivial)|((with_reducible first|refine dw_reg0 ?_|refine dw_regB ?_);(conv=>arg 3;whnf))|(refine Spl.go (fun hq he=>?_) (fun hq he=>?_)<;>first|(exfalso;clear hq;omega)|((try first|(conv=>arg 8;simp only [hq])|(conv=>arg 4;simp only [hq]));clear hq))|((with_reducible first|refine c_split (fun hq=>?_) (fun hq=>?_)|refine q_split (fun hq=>?_) (fun hq=>?_))<;>(try first|(conv=>arg 8;simp only [hq])|(conv=>arg 4;simp only [hq])))|(with_reducible refine fin_0 ?_ (by first|rfl|(conv=>lhs;simp only [go_sem,List.getElem?_map,Option.map_some,List.length_replicate,beq_self_eq_true,bne_self_eq_false,xx])) ?_)|exact Sub.refl _|omega)
  exact zz.v) : p:=h x ⟨k⟩
theorem go0 {A p : Prop} (x : A) (h : A → p:=by
  intro xx
  try ((with_reducible show dwp _ _ _ _ _ _ _); (conv=>arg 3; whnf))
  repeat' (first|with_reducible refine acc_none ?_ | (conv in hold _=>simp (disch:=omega) only [go_sem,List.getElem?_map,Option.map_some,List.length_replicate,beq_self_eq_true,bne_self_eq_false,xx])|refine Stp.go ?_|(with_reducible first|refine it_pos rfl ?_|refine it_neg (by decide) ?_|refine st_nil rfl ?_|refine s_op ?_ ?_|exact trivial)|((with_reducible first|refine dw_reg0 ?_|refine dw_regB ?_);(conv=>arg 3;whnf))|(refine Spl.go (fun hq he=>?_) (fun hq he=>?_)<;>first|(exfalso;clear hq;omega)|((try first|(conv=>arg 8;simp only [hq])|(conv=>arg 4;simp only [hq]));clear hq))|((with_reducible first|refine c_split (fun hq=>?_) (fun hq=>?_)|refine q_split (fun hq=>?_) (fun hq=>?_))<;>(try first|(conv=>arg 8;simp only [hq])|(conv=>arg 4;simp only [hq])))|(with_reducible refine fin_0 ?_ (by first|rfl|(conv=>lhs;simp only [go_sem,List.getElem?_map,Option.map_some,List.length_replicate,beq_self_eq_true,bne_self_eq_false,xx])) ?_)|exact Sub.refl _|omega)) : p:=h x
theorem go1F {A p q : Prop} (x : A) (k : q) (h : A → HidQ q → p:=by
  intro xx zz
  try ((with_reducible show dwp _ _ _ _ _ _ _); (conv=>arg 3; whnf))
  repeat' (first|with_reducible refine acc_none ?_ | (conv in hold _=>simp (disch:=omega) only [go_sem,List.getElem?_map,Option.map_some,List.length_replicate,beq_self_eq_true,bne_self_eq_false,xx])|refine Stp.go ?_|(with_reducible first|refine it_pos rfl ?_|refine it_neg (by decide) ?_|refine st_nil rfl ?_|refine s_op ?_ ?_|exact trivial)|((with_reducible first|refine dw_reg0 ?_|refine dw_regB ?_);(conv=>arg 3;whnf))|(refine Spl.go (fun hq he=>?_) (fun hq he=>?_)<;>first|(exfalso;clear hq;omega)|((try first|(conv=>arg 8;simp only [hq])|(conv=>arg 4;simp only [hq]));clear hq))|((with_reducible first|refine c_split (fun hq=>?_) (fun hq=>?_)|refine q_split (fun hq=>?_) (fun hq=>?_))<;>(try first|(conv=>arg 8;simp only [hq])|(conv=>arg 4;simp only [hq])))|exact Sub.refl _|omega)
  exact zz.v) : p:=h x ⟨k⟩
theorem go1C {A p q : Prop} (x : A) (k : q) (h : A → HidQ q → p:=by
  intro xx zz
  try ((with_reducible show dwp _ _ _ _ _ _ _); (conv=>arg 3; whnf))
  repeat' ((fail_if_success (with_reducible first | refine s_call ?_ | refine s_cal ?_ | refine s_inv ?_)); first | with_reducible refine acc_none ?_ | (conv in hold _=>simp (disch:=omega) only [go_sem,List.getElem?_map,Option.map_some,List.length_replicate,beq_self_eq_true,bne_self_eq_false,xx])|refine Stp.go ?_|(with_reducible first|refine it_pos rfl ?_|refine it_neg (by decide) ?_|refine st_nil rfl ?_|refine s_op ?_ ?_|exact trivial)|((with_reducible first|refine dw_reg0 ?_|refine dw_regB ?_);(conv=>arg 3;whnf))|(refine Spl.go (fun hq he=>?_) (fun hq he=>?_)<;>first|(exfalso;clear hq;omega)|((try first|(conv=>arg 8;simp only [hq])|(conv=>arg 4;simp only [hq]));clear hq))|((with_reducible first|refine c_split (fun hq=>?_) (fun hq=>?_)|refine q_split (fun hq=>?_) (fun hq=>?_))<;>(try first|(conv=>arg 8;simp only [hq])|(conv=>arg 4;simp only [hq])))|(with_reducible refine fin_0 ?_ (by first|rfl|(conv=>lhs;simp only [go_sem,List.getElem?_map,Option.map_some,List.length_replicate,beq_self_eq_true,bne_self_eq_false,xx])) ?_)|exact Sub.refl _|omega)
  exact zz.v) : p:=h x ⟨k⟩
theorem go1FC {A p q : Prop} (x : A) (k : q) (h : A → HidQ q → p:=by
  intro xx zz
  try ((with_reducible show dwp _ _ _ _ _ _ _); (conv=>arg 3; whnf))
  repeat' ((fail_if_success (with_reducible first | refine s_call ?_ | refine s_cal ?_ | refine s_inv ?_)); first | with_reducible refine acc_none ?_ | (conv in hold _=>simp (disch:=omega) only [go_sem,List.getElem?_map,Option.map_some,List.length_replicate,beq_self_eq_true,bne_self_eq_false,xx])|refine Stp.go ?_|(with_reducible first|refine it_pos rfl ?_|refine it_neg (by decide) ?_|refine st_nil rfl ?_|refine s_op ?_ ?_|exact trivial)|((with_reducible first|refine dw_reg0 ?_|refine dw_regB ?_);(conv=>arg 3;whnf))|(refine Spl.go (fun hq he=>?_) (fun hq he=>?_)<;>first|(exfalso;clear hq;omega)|((try first|(conv=>arg 8;simp only [hq])|(conv=>arg 4;simp only [hq]));clear hq))|((with_reducible first|refine c_split (fun hq=>?_) (fun hq=>?_)|refine q_split (fun hq=>?_) (fun hq=>?_))<;>(try first|(conv=>arg 8;simp only [hq])|(conv=>arg 4;simp only [hq])))|exact Sub.refl _|omega)
  exact zz.v) : p:=h x ⟨k⟩
theorem Uc {A : Prop} {f : FuncId} {ds es : List D} {rds : List Nat} {d : Nat} {r : D} (x : A) (hdo : Does P f [] es r []) (h : evG P B l (hold (σ.set d r)) (hold (push ⟨rd ++ (rds ++ []),wr ++ ([] ++ [d])⟩ acc)) N) (he : A → ds = hold es:=by
  intro xx
  first | rfl | ((conv=>rhs;simp (disch:=omega) only [go_sem,List.getElem?_map,Option.map_some,List.length_replicate,beq_self_eq_true,bne_self_eq_false,xx]); try rfl)) (hp : A → hold (D.purL (r :: ds)) = true:=by
  intro xx
  first|rfl|(conv=>lhs;simp only [go_sem,List.getElem?_map,Option.map_some,List.length_replicate,beq_self_eq_true,bne_self_eq_false,xx])) : evC P B f ds rds d rd wr l σ acc N:=c_doesE hdo (he x) (hp x) h
theorem UcR {A : Prop} {f : FuncId} {ds H es H' : List D} {rds : List Nat} {d : Nat} {r : D} (R : List Nat) (x : A) (hdo : Does P f H es r H') (h : evG P B l (hold (Env.put (callU R H' d r) σ)) (hold (push ⟨rd ++ (rds ++ R),wr ++ (R ++ [d])⟩ acc)) N) (h1 : R.length = H'.length:=by exact rfl) (h2 : Nat.ble H.length H'.length = true:=by exact rfl) (h3 : canB 0 R = true:=by exact rfl)
  (h4 : A → hold (oldOk σ R R H):=by
  intro xx
  repeat' (first|(conv in hold _=>simp (disch:=omega) only [go_sem,List.getElem?_map,Option.map_some,List.length_replicate,beq_self_eq_true,bne_self_eq_false,xx])|exact trivial|exact Sub.refl _|omega)) (h5 : A → hold (newOk σ (R.drop H.length)):=by
  intro xx
  repeat' (first|(conv in hold _=>simp (disch:=omega) only [go_sem,List.getElem?_map,Option.map_some,List.length_replicate,beq_self_eq_true,bne_self_eq_false,xx])|exact trivial|exact Sub.refl _|omega)) (h6 : A → ds = hold (es.map (D.ren R)):=by
  intro xx
  ((conv=>rhs;simp (disch:=omega) only [go_sem,List.getElem?_map,Option.map_some,List.length_replicate,beq_self_eq_true,bne_self_eq_false,xx]); try rfl)) : evC P B f ds rds d rd wr l σ acc N:=
 c_doesR R hdo (callOK_of h1 (Nat.le_of_ble_eq_true h2) h3 (h4 x) (h5 x)) (h6 x) h
theorem Bg {xo : List Nat} {f : FuncId} {n : Nat} {dc : DC} {rs : List Res} {ds : List D} {r : D} (hc : cfun P xo f = some (n,dc,rs)) (hm : P.follows .mixedOrders = true) (hd : dwp P 0 dc (hold (ent [] ds)) (Fin 0 rs r []) (fun _ _=>False) (Fin 0 rs r [])) (hl : Nat.ble ds.length n = true:=by exact rfl) : Does P f [] ds r []:=
 does0 hc hm (Nat.le_of_ble_eq_true hl) hd
theorem Bk {xo : List Nat} {f : FuncId} {n : Nat} {dc : DC} {rs : List Res} {H ds H' : List D} {r : D} (hc : cfun P xo f = some (n,dc,rs)) (hm : P.follows .mixedOrders = true) (k : Nat) (hd : dwp P k dc (hold (ent H ds)) (Fin k rs r H') (fun _ _=>False) (Fin k rs r H')) (hl : Nat.ble ds.length n = true:=by exact rfl) (hk : H.length = k:=by exact rfl) : Does P f H ds r H':=
 does hc hm (Nat.le_of_ble_eq_true hl) k hk hd
theorem cj2 {A B : Prop} (a : A) (b : B) : A ∧ B:=⟨a,b⟩
theorem cj3 {A B C : Prop} (a : A) (b : B) (c : C) : A ∧ B ∧ C:=⟨a,b,c⟩
theorem cj4 {A B C D : Prop} (a : A) (b : B) (c : C) (d : D) : A ∧ B ∧ C ∧ D:=⟨a,b,c,d⟩
theorem cj7 {A B C D E F G : Prop} (a : A) (b : B) (c : C) (d : D) (e : E) (f : F) (g : G) : A ∧ B ∧ C ∧ D ∧ E ∧ F ∧ G:=⟨a,b,c,d,e,f,g⟩
end
end
end Go.Proofs.Ytedmegmhjmabcaa

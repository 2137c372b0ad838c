/-
  The marks as lemmas (tool/gengo.py). No condition.
-/
import Derived.Test.YtgpdmgaemhelgaaGreatSVStep
import Derived.Test.YtgpdmgaemhelgaaGreatJSVBox
namespace Go.Proofs.YtgpdmgaemhelgaaGreat
open Go.RowKit
noncomputable section
structure HidQ (q : Prop) : Prop where
 v : q
section
variable {P : Program} {k : Nat} {σ : Env} {B : List Nat} {l : List GI} {acc : Option (List Ent)} {N : Env → Prop} {rd wr : List Nat}
theorem go1 {A p q : Prop} (x : A) (k : q) (h : A → HidQ q → p:=by
  intro xx zz
  try ((with_reducible show dwp _ _ _ _ _ _ _); (conv=>arg 3; whnf))
  repeat' (first|with_reducible refine acc_none ?_ | (conv in hold _=>simp (disch:=omega) only [go_sem,List.getElem?_map,Option.map_some,List.length_replicate,beq_self_eq_true,bne_self_eq_false,xx])|refine Stp.go ?_|(with_reducible first|refine it_pos rfl ?_|refine it_neg (by decide) ?_|refine st_nil rfl ?_|refine s_op ?_ ?_|exact trivial)|((with_reducible first|refine dw_reg0 ?_|refine dw_regB ?_);(conv=>arg 3;whnf))|(refine Spl.go (fun hq he=>?_) (fun hq he=>?_)<;>first|(exfalso;clear hq;omega)|((try first|(conv=>arg 8;simp only [hq])|(conv=>arg 4;simp only [hq]));clear hq))|((with_reducible first|refine c_split (fun hq=>?_) (fun hq=>?_)|refine q_split (fun hq=>?_) (fun hq=>?_))<;>(try first|(conv=>arg 8;simp only [hq])|(conv=>arg 4;simp only [hq])))|(with_reducible refine fin_0 ?_ (by first|rfl|(conv=>lhs;simp only [go_sem,List.getElem?_map,Option.map_some,List.length_replicate,beq_self_eq_true,bne_self_eq_false,xx])) ?_)|exact Sub.refl _|omega)
  exact zz.v) : p:=h x ⟨k⟩
theorem go0 {A p : Prop} (x : A) (h : A → p:=by
  intro xx
  try ((with_reducible show dwp _ _ _ _ _ _ _); (conv=>arg 3; whnf))
  repeat' (first|with_reducible refine acc_none ?_ | (conv in hold _=>simp (disch:=omega) only [go_sem,List.getElem?_map,Option.map_some,List.length_replicate,beq_self_eq_true,bne_self_eq_false,xx])|refine Stp.go ?_|(with_reducible first|refine it_pos rfl ?_|refine it_neg (by decide) ?_|refine st_nil rfl ?_|refine s_op ?_ ?_|exact trivial)|((with_reducible first|refine dw_reg0 ?_|refine dw_regB ?_);(conv=>arg 3;whnf))|(refine Spl.go (fun hq he=>?_) (fun hq he=>?_)<;>first|(exfalso;clear hq;omega)|((try first|(conv=>arg 8;simp only [hq])|(conv=>arg 4;simp only [hq]));clear hq))|((with_reducible first|refine c_split (fun hq=>?_) (fun hq=>?_)|refine q_split (fun hq=>?_) (fun hq=>?_))<;>(try first|(conv=>arg 8;simp only [hq])|(conv=>arg 4;simp only [hq])))|(with_reducible refine fin_0 ?_ (by first|rfl|(conv=>lhs;simp only [go_sem,List.getElem?_map,Option.map_some,List.length_replicate,beq_self_eq_true,bne_self_eq_false,xx])) ?_)|exact Sub.refl _|omega)) : p:=h x
theorem go1F {A p q : Prop} (x : A) (k : q) (h : A → HidQ q → p:=by
  intro xx zz
  try ((with_reducible show dwp _ _ _ _ _ _ _); (conv=>arg 3; whnf))
  repeat' (first|with_reducible refine acc_none ?_ | (conv in hold _=>simp (disch:=omega) only [go_sem,List.getElem?_map,Option.map_some,List.length_replicate,beq_self_eq_true,bne_self_eq_false,xx])|refine Stp.go ?_|(with_reducible first|refine it_pos rfl ?_|refine it_neg (by decide) ?_|refine st_nil rfl ?_|refine s_op ?_ ?_|exact trivial)|((with_reducible first|refine dw_reg0 ?_|refine dw_regB ?_);(conv=>arg 3;whnf))|(refine Spl.go (fun hq he=>?_) (fun hq he=>?_)<;>first|(exfalso;clear hq;omega)|((try first|(conv=>arg 8;simp only [hq])|(conv=>arg 4;simp only [hq]));clear hq))|((with_reducible first|refine c_split (fun hq=>?_) (fun hq=>?_)|refine q_split (fun hq=>?_) (fun hq=>?_))<;>(try first|(conv=>arg 8;simp only [hq])|(conv=>arg 4;simp only [hq])))|exact Sub.refl _|omega)
  exact zz.v) : p:=h x ⟨k⟩
theorem go1C {A p q : Prop} (x : A) (k : q) (h : A → HidQ q → p:=by
  intro xx zz
  try ((with_reducible show dwp _ _ _ _ _ _ _); (conv=>arg 3; whnf))
  repeat' ((fail_if_success (with_reducible first | refine s_call ?_ | refine s_cal ?_ | refine s_inv ?_)); first | with_reducible refine acc_none ?_ | (conv in hold _=>simp (disch:=omega) only [go_sem,List.getElem?_map,Option.map_some,List.length_replicate,beq_self_eq_true,bne_self_eq_false,xx])|refine Stp.go ?_|(with_reducible first|refine it_pos rfl ?_|refine it_neg (by decide) ?_|refine st_nil rfl ?_|refine s_op ?_ ?_|exact trivial)|((with_reducible first|refine dw_reg0 ?_|refine dw_regB ?_);(conv=>arg 3;whnf))|(refine Spl.go (fun hq he=>?_) (fun hq he=>?_)<;>first|(exfalso;clear hq;omega)|((try first|(conv=>arg 8;simp only [hq])|(conv=>arg 4;simp only [hq]));clear hq))|((with_reducible first|refine c_split (fun hq=>?_) (fun hq=>?_)|refine q_split (fun hq=>?_) (fun hq=>?_))<;>(try first|(conv=>arg 8;simp only [hq])|(conv=>arg 4;simp only [hq])))|(with_reducible refine fin_0 ?_ (by first|rfl|(conv=>lhs;simp only [go_sem,List.getElem?_map,Option.map_some,List.length_replicate,beq_self_eq_true,bne_self_eq_false,xx])) ?_)|exact Sub.refl _|omega)
  exact zz.v) : p:=h x ⟨k⟩
theorem go1R {A p q : Prop} (x : A) (k : q) (h : A → HidQ q → p:=by
  intro xx zz
  try ((with_reducible show dwp _ _ _ _ _ _ _); (conv=>arg 3; whnf))
  repeat' ((fail_if_success (with_reducible first | refine dw_reg0 ?_ | refine dw_regB ?_)); first | with_reducible refine acc_none ?_ | (conv in hold _=>simp (disch:=omega) only [go_sem,List.getElem?_map,Option.map_some,List.length_replicate,beq_self_eq_true,bne_self_eq_false,xx])|refine Stp.go ?_|(with_reducible first|refine it_pos rfl ?_|refine it_neg (by decide) ?_|refine st_nil rfl ?_|refine s_op ?_ ?_|exact trivial)|((with_reducible first|refine dw_reg0 ?_|refine dw_regB ?_);(conv=>arg 3;whnf))|(refine Spl.go (fun hq he=>?_) (fun hq he=>?_)<;>first|(exfalso;clear hq;omega)|((try first|(conv=>arg 8;simp only [hq])|(conv=>arg 4;simp only [hq]));clear hq))|((with_reducible first|refine c_split (fun hq=>?_) (fun hq=>?_)|refine q_split (fun hq=>?_) (fun hq=>?_))<;>(try first|(conv=>arg 8;simp only [hq])|(conv=>arg 4;simp only [hq])))|(with_reducible refine fin_0 ?_ (by first|rfl|(conv=>lhs;simp only [go_sem,List.getElem?_map,Option.map_some,List.length_replicate,beq_self_eq_true,bne_self_eq_false,xx])) ?_)|exact Sub.refl _|omega)
  exact zz.v) : p:=h x ⟨k⟩
theorem Uc {A : Prop} {f : FuncId} {ds es : List D} {rds : List Nat} {d : Nat} {r : D} (x : A) (hdo : Does P f [] es r []) (h : evG P B l (hold (σ.set d r)) (hold (push ⟨rd ++ (rds ++ []),wr ++ ([] ++ [d])⟩ acc)) N) (he : A → ds = hold es:=by
  intro xx
  first | rfl | ((conv=>rhs;simp (disch:=omega) only [go_sem,List.getElem?_map,Option.map_some,List.length_replicate,beq_self_eq_true,bne_self_eq_false,xx]); try rfl)) (hp : A → hold (D.purL (r :: ds)) = true:=by
  intro xx
  first|rfl|(conv=>lhs;simp only [go_sem,List.getElem?_map,Option.map_some,List.length_replicate,beq_self_eq_true,bne_self_eq_false,xx])) : evC P B f ds rds d rd wr l σ acc N:=c_doesE hdo (he x) (hp x) h
theorem UcR {A : Prop} {f : FuncId} {ds H es H' : List D} {rds : List Nat} {d : Nat} {r : D} (R : List Nat) (x : A) (hdo : Does P f H es r H') (h : evG P B l (hold (Env.put (callU R H' d r) σ)) (hold (push ⟨rd ++ (rds ++ R),wr ++ (R ++ [d])⟩ acc)) N) (h1 : R.length = H'.length:=by exact rfl) (h2 : Nat.ble H.length H'.length = true:=by exact rfl) (h3 : canB 0 R = true:=by exact rfl)
  (h4 : A → hold (oldOk σ R R H):=by
  intro xx
  repeat' (first|(conv in hold _=>simp (disch:=omega) only [go_sem,List.getElem?_map,Option.map_some,List.length_replicate,beq_self_eq_true,bne_self_eq_false,xx])|exact trivial|exact Sub.refl _|omega)) (h5 : A → hold (newOk σ (R.drop H.length)):=by
  intro xx
  repeat' (first|(conv in hold _=>simp (disch:=omega) only [go_sem,List.getElem?_map,Option.map_some,List.length_replicate,beq_self_eq_true,bne_self_eq_false,xx])|exact trivial|exact Sub.refl _|omega)) (h6 : A → ds = hold (es.map (D.ren R)):=by
  intro xx
  ((conv=>rhs;simp (disch:=omega) only [go_sem,List.getElem?_map,Option.map_some,List.length_replicate,beq_self_eq_true,bne_self_eq_false,xx]); try rfl)) : evC P B f ds rds d rd wr l σ acc N:=
 c_doesR R hdo (callOK_of h1 (Nat.le_of_ble_eq_true h2) h3 (h4 x) (h5 x)) (h6 x) h
theorem Bg {xo : List Nat} {f : FuncId} {n : Nat} {dc : DC} {rs : List Res} {ds : List D} {r : D} (hc : cfun P xo f = some (n,dc,rs)) (hm : P.follows .mixedOrders = true) (hd : dwp P 0 dc (hold (ent [] ds)) (Fin 0 rs r []) (fun _ _=>False) (Fin 0 rs r [])) (hl : Nat.ble ds.length n = true:=by exact rfl) : Does P f [] ds r []:=
 does0 hc hm (Nat.le_of_ble_eq_true hl) hd
theorem Bk {xo : List Nat} {f : FuncId} {n : Nat} {dc : DC} {rs : List Res} {H ds H' : List D} {r : D} (hc : cfun P xo f = some (n,dc,rs)) (hm : P.follows .mixedOrders = true) (k : Nat) (hd : dwp P k dc (hold (ent H ds)) (Fin k rs r H') (fun _ _=>False) (Fin k rs r H')) (hl : Nat.ble ds.length n = true:=by exact rfl) (hk : H.length = k:=by exact rfl) : Does P f H ds r H':=
 does hc hm (Nat.le_of_ble_eq_true hl) k hk hd
theorem Ag {A p : Prop} (x : A) (h : A → p:=by
  intro xx
  repeat' (first|(conv in hold _=>simp (disch:=omega) only [go_sem,List.getElem?_map,Option.map_some,List.length_replicate,beq_self_eq_true,bne_self_eq_false,xx])|exact trivial|exact Sub.refl _|omega)) : p:=h x
theorem cj2 {A B : Prop} (a : A) (b : B) : A ∧ B:=⟨a,b⟩
theorem cj3 {A B C : Prop} (a : A) (b : B) (c : C) : A ∧ B ∧ C:=⟨a,b,c⟩
theorem cj4 {A B C D : Prop} (a : A) (b : B) (c : C) (d : D) : A ∧ B ∧ C ∧ D:=⟨a,b,c,d⟩
theorem cj5 {A B C D E : Prop} (a : A) (b : B) (c : C) (d : D) (e : E) : A ∧ B ∧ C ∧ D ∧ E:=⟨a,b,c,d,e⟩
theorem cj6 {A B C D E F : Prop} (a : A) (b : B) (c : C) (d : D) (e : E) (f : F) : A ∧ B ∧ C ∧ D ∧ E ∧ F:=⟨a,b,c,d,e,f⟩
theorem cj7 {A B C D E F G : Prop} (a : A) (b : B) (c : C) (d : D) (e : E) (f : F) (g : G) : A ∧ B ∧ C ∧ D ∧ E ∧ F ∧ G:=⟨a,b,c,d,e,f,g⟩
end
end
end Go.Proofs.YtgpdmgaemhelgaaGreat
namespace Go.Proofs.YtgpdmgaemhelgaaGreat
open Go.RowKit
section
variable {P : Program} {B : List Nat} {rd wr : List Nat} {l : List GI} {σ : Env} {acc : Option (List Ent)} {N : Env → Prop}
theorem s_mkb {d s : Nat} {n : Option Nat} {es : List D} {ps : List (Nat × Opd)} (h : evS P B rd wr (.bsl d s n es ps) false l σ acc N) : evS P B rd wr (.bsl d s n es ps) false l σ acc N:=h
theorem s_mkd {d : Nat} {zs : List D} {ps : List (Nat × Option Nat × Opd)} (h : evS P B rd wr (.build d zs ps) false l σ acc N) : evS P B rd wr (.build d zs ps) false l σ acc N:=h
end
end Go.Proofs.YtgpdmgaemhelgaaGreat
namespace Go.Proofs.YtgpdmgaemhelgaaGreat
open Go.RowKit

/-- An instruction with a slot, and one without, neither guarded; a call with a slot; frequent ones. -/
abbrev gi (n : Nat) (i : In) : GI := ⟨i, some n, none, false⟩
abbrev g0 (i : In) : GI := ⟨i, none, none, false⟩
abbrev gc (n f : Nat) (l : List Opd) : GI := ⟨.call n f l, some n, none, true⟩
abbrev gt (n a : Nat) : GI := ⟨.mov n (.t a), some n, none, false⟩
abbrev gk (n : Nat) (a : Int) : GI := ⟨.mov n (.k (I a)), some n, none, false⟩
abbrev gl (n a : Nat) : GI := ⟨.lod n a none, some n, none, false⟩
abbrev gs (n a s : Nat) : GI := ⟨.lod n a (some s), some n, none, false⟩
abbrev gf (n a o : Nat) : GI := ⟨.fad n a o, some n, none, false⟩
abbrev ga (n a i s : Nat) : GI := ⟨.iad n a (.t i) s, some n, none, false⟩
abbrev gn (n a : Nat) : GI := ⟨.len n (.t a), some n, none, false⟩
abbrev gb (n : Nat) (o : BinOp) (a b : Nat) : GI := ⟨.bin n o (.t a) (.t b), some n, none, false⟩
abbrev gd (n : Nat) (o : BinOp) (a : Nat) (b : Int) : GI := ⟨.bin n o (.t a) (.k (I b)), some n, none, false⟩
abbrev DC.z (r : List GI) : DC := .reg r none
end Go.Proofs.YtgpdmgaemhelgaaGreat
set_option maxHeartbeats 4000000
set_option maxRecDepth 100000
set_option linter.unusedVariables false
set_option linter.unusedSimpArgs false
namespace Go.Proofs.YtgpdmgaemhelgaaGreat
open Go.RowKit
def YCalls (P : Program) (f : FuncId) (i : Nat) (L : List D) (e : Nat) (ds : List D) (k : Nat) (r : D) (k' : Nat) : Prop:=
 ∀ (Y : YC) (w : World) (F : Cells) (B : Blocks) (xs : List Value),Y.P = P → Y.l = i → Y.L = L → Y.stop = e → Y.J k w F B → (∀ b o,F b o → b < w.heap.size) → xs.length = ds.length →
  (∀ (j : Nat) (d : D) (x : Value),ds[j]? = some d → xs[j]? = some x → Fz w F noNames d x) →
  Calls P f xs.toArray w (fun en w'=>∃ x F' B',en = .returned x ∧ Chg w F B w' F' ∧ (∀ b o,F' b o → b < w'.heap.size) ∧ Fz w' F' noNames r x ∧ Y.J k' w' F' B' ∧ ∀ b,B' b → B b ∨ w.heap.size ≤ b)
theorem YCalls.weak {P : Program} {f : FuncId} {i e k k' : Nat} {L ds es : List D} {r s : D} (h : YCalls P f i L e ds k r k') (ha : SubL es ds) (hr : Sub r s) : YCalls P f i L e es k s k':=by
 intro Y w F B xs hP h1 h2 h3 hJ hwf hxl hfz
 obtain ⟨a1,a2⟩:=ha.spec
 refine (h Y w F B xs hP h1 h2 h3 hJ hwf (by rw [hxl,a1]) (fun j d x hd hx=>?_)).mono ?_
 ·obtain ⟨e,he,hs⟩:=a2 j d hd
  exact hs _ _ _ _ (hfz j e x he hx)
 ·rintro en w' ⟨x,F',B',rfl,c,g1,g2,g3⟩
  exact ⟨x,F',B',rfl,c,g1,hr _ _ _ _ g2,g3⟩
section
variable {P : Program} {G : Ctx} {σ : Env} {B : List Nat} {l : List GI} {acc : Option (List Ent)} {N : Env → Prop} {rd wr : List Nat}
theorem in_ycall {o : Oper} (hP : G.okP P) {d f i e k k' : Nat} {L : List D} {r : D} {xs : List Opd} {ops : Array Operand} {ts : Array TypeId} (ho : o.op = .call { callee:=.value (.func f),args:=ops,argTypes:=ts }) (hf : enters P f = true) (ha : ops.toList.mapM opd = some xs)
  (hdst : o.dst = some d) (hd : d < G.n) (hgh : σ gh = .gho i L e k) (hyc : YCalls P f i L e (xs.map (Opd.val σ)) k r k') (hp : D.purL (xs.map (Opd.val σ)) = true) (hr : r.pur = true) :
  OpOK P G o ⟨xs.flatMap Opd.rd ++ [gh],[gh,d]⟩ σ [(gh,.gho i L e k'),(d,r)] where
 wr p hp:=by
  rcases List.mem_cons.1 hp with rfl | hp
  ·exact List.mem_cons_self ..
  ·obtain rfl:=List.mem_singleton.1 hp; exact List.mem_cons_of_mem _ (List.mem_singleton.2 rfl)
 run τ a w K Q hag hR hK:=by
  intro n
  obtain ⟨hdf,F,m,hR⟩:=hR
  have hag2 : ∀ t,t ∈ xs.flatMap Opd.rd → τ t = σ t:=fun t ht=>hag t (List.mem_append_left _ ht)
  have hτ : τ gh = .gho i L e k:=(hag gh (List.mem_append_right _ (List.mem_singleton.2 rfl))).trans hgh
  obtain ⟨h1,h2⟩:=opds_fz hR ha hag2
  obtain ⟨B,hE⟩:=hR.ext
  cases hY : G.Y with
  | none=>exact absurd hτ ((hE.no hY).1 _ _ _ _)
  | some Y=>
   obtain ⟨hlo,⟨k0,hJ,hkk⟩,hdis⟩:=hE.yes Y hY
   obtain ⟨rfl,rfl,rfl,rfl⟩:=hkk _ _ _ _ hτ
   obtain ⟨hlo2,hlt⟩:=Y.lt _ _ _ _ hJ
   have hcc:=hyc Y w F B (ops.toList.map a.eval) (hP Y hY) rfl rfl rfl hJ hR.wf h1 (Fz.pureL hp h2 noNames)
   have e1 : (ops.toList.map a.eval).toArray = ops.map a.eval:=by apply Array.ext'; simp
   have hrn : (execOp a.eval o).run P w = .ok (.enter f (ops.toList.map a.eval).toArray) w:=by
    have hc:=run_callFunc (P:=P) hf (ops.map a.eval) w
    rw [e1]
    simp [execOp,ho,resolve,Act.eval,Deferred.ofValue,invoke]
    exact hc
   have hs:=sem_at hrn (fun d e=>by cases e) G.fen
   refine ⟨fun _ _=>trivial,?_⟩
   rw [hs,hrn,Oper.uponIn_enter]
   refine ⟨fun h=>(by cases h),?_⟩
   have hcc' : CallsIn Fence.wide (n - 1) P f (ops.toList.map a.eval).toArray w _:=callsIn_wide.2 hcc
   refine CallsIn.mono (F:=G.fen) (show CallsIn G.fen (n - 1) P f (ops.toList.map a.eval).toArray w _ from hcc') ?_
   rintro en w' ⟨v,F',B',rfl,c,wf',hv,hJ',hB'⟩
   refine hK _ _ ⟨by rw [hdst]; exact hdf,F',m,?_⟩
   have hghn : ∀ g,nb ≤ g → ¬ g = gh:=fun g hg e=>by have h3 : (1000000 : Nat) ≤ g:=hg; have h4 : g = 999999:=e; omega
   have base : RelF G (τ.set gh (.gho Y.l Y.L Y.stop k')) a.tmps w' F' m:=by
    refine ⟨hR.size,hR.nle,fun t ht=>?_,fun g hg=>?_,fun g g' b hg hg' hb hb'=>?_,wf',hR.chg.trans c (fun b hb hlt'=>(hE.own b hb).resolve_right (by omega)),fun g b hg hb=>?_,fun i hi=>?_,hR.nlt,B',?_⟩
    ·by_cases e : t = gh
     ·subst e; rw [Env.set_same]; exact .gho _ _ _ _ _ _
     ·rw [Env.set_ne _ _ _ _ e]; exact (hR.slots t ht).still c
    ·rw [Env.set_ne _ _ _ _ (hghn g hg)]
     exact (hR.blks g hg).stable c (fun _ _ h=>h) (fun e=>by have:=hR.blks g hg; rw [e] at this; exact this) (fun b hb hm=>(hdis g b hg hb hm).1)
    ·rw [Env.set_ne _ _ _ _ (hghn g hg)] at hb
     rw [Env.set_ne _ _ _ _ (hghn g' hg')] at hb'
     exact hR.inj g g' b hg hg' hb hb'
    ·rw [Env.set_ne _ _ _ _ (hghn g hg)] at hb
     exact hR.own g b hg hb
    ·rw [Env.set_ne _ _ _ _ (hghn _ (Nat.le_add_right _ _))]; exact hR.par i hi
    ·refine ⟨fun p hp=>?_,fun b hb=>?_,fun h=>(by rw [hY] at h; cases h),fun Y' hY'=>?_,hE.low⟩
     ·obtain ⟨k1,k2,k3,k4⟩:=hE.kept p hp
      have hlt':=(Array.getElem?_eq_some_iff.1 k1).1
      exact ⟨(c.block _ hlt' k4).trans k1,k2,fun o ho=>k3 o (c.back _ o ho hlt' k4),fun hb=>by rcases hB' _ hb with h | h; exact k4 h; omega⟩
     ·rcases hB' _ hb with h | h
      ·exact hE.own b h
      ·exact .inr (Nat.le_trans hR.chg.size h)
     ·rw [hY] at hY'
      obtain rfl:=Option.some.inj hY'
      refine ⟨hlo,⟨k',hJ',fun l L e k' he=>?_⟩,fun g b hg hb hm=>?_⟩
      ·rw [Env.set_same] at he
       injection he with q1 q2 q3 q4
       exact ⟨q1.symm,q2.symm,q3.symm,q4.symm⟩
      ·rw [Env.set_ne _ _ _ _ (hghn g hg)] at hb
       refine ⟨fun hB=>?_,(hdis g b hg hb hm).2⟩
       rcases hB' _ hB with h | h
       ·exact (hdis g b hg hb hm).1 h
       ·have:=(hR.blks g hg).lt hb hm; omega
   rw [hdst]
   exact base.slot hd (hv.pure hr m)
theorem s_ycall {d f i e k k' : Nat} {L ds : List D} {r : D} {xs : List Opd} (hgh : hold (σ gh) = .gho i L e k) (hyc : YCalls P f i L e ds k r k') (hds : hold (xs.map (Opd.val σ)) = ds) (hp : D.purL ds = true) (hr : r.pur = true)
  (h : evG P B l (hold (Env.put [(gh,.gho i L e k'),(d,r)] σ)) (hold (push ⟨rd ++ (hold (xs.flatMap Opd.rd) ++ [gh]),wr ++ [gh,d]⟩ acc)) N) : evS P B rd wr (.call d f xs) true l σ acc N:=by
 unfold hold at hds
 subst hds
 refine ⟨⟨xs.flatMap Opd.rd ++ [gh],[gh,d]⟩,[(gh,.gho i L e k'),(d,r)],fun G hP xo o hcp=>?_,h⟩
 obtain ⟨d',hdst,hd,hcc⟩:=copc_call hcp
 obtain ⟨rfl,hf,ops,ts,ho,ha⟩:=ccall_call hcc
 exact in_ycall hP ho hf ha hdst hd hgh hyc hp hr
end
def entYC (i : Nat) (L : List D) (e k : Nat) (ds : List D) : Env:=(ent [] ds).set gh (.gho i L e k)
attribute [go_sem] entYC
def FinYC (rs : List Res) (r : D) (i : Nat) (L : List D) (e k' : Nat) (τ : Env) : Prop:=hold (τ gh) = .gho i L e k' ∧ resOk τ rs ∧ hold (resD τ rs) = r
theorem ycalls_of {P : Program} {xo : List Nat} {f : FuncId} {n : Nat} {dc : DC} {rs : List Res} (hc : cfun P xo f = some (n,dc,rs)) (hm : P.follows .mixedOrders = true) {ds L : List D} {i e k k' : Nat} {r : D} (hl : ds.length ≤ n) (hr : r.pur = true)
  (hd : dwp P 0 dc (hold (entYC i L e k ds)) (FinYC rs r i L e k') (fun _ _=>False) (FinYC rs r i L e k')) : YCalls P f i L e ds k r k':=by
 unfold cfun at hc
 split at hc
 rotate_left
 ·cases hc
 rename_i fn hf
 split at hc
 rotate_left
 ·cases hc
 rename_i c hb
 simp only [Option.bind_eq_some_iff,oif_some,Option.some.injEq,Prod.mk.injEq,decide_eq_true_eq] at hc
 obtain ⟨dc',hdc,rs',hrs,hnb,rfl,rfl,rfl⟩:=hc
 intro Y w F B xs hP hi hL he hJ hwf hxl hfz
 subst hi hL he
 refine (callsIn_wide (n:=3)).1 (callsIn_of_wp_marks hf hb trivial ?_)
 obtain ⟨hlo,hlt⟩:=Y.lt _ _ _ _ hJ
 let G : Ctx:={ n:=fn.ntmps,w0:=w,F0:=F,R0:=B,k:=0,m0:=noNames,Y:=some Y }
 have hgetx : ∀ t,(xs.toArray ++ Array.replicate (fn.ntmps - xs.toArray.size) undef).getD t undef = xs.getD t undef:=by
  intro t
  simp only [Array.getD_eq_getD_getElem?,List.getD_eq_getElem?_getD]
  by_cases ht : t < xs.length
  ·rw [Array.getElem?_append_left (by simpa using ht)]
   simp
  ·rw [Array.getElem?_append_right (by simpa using ht),Array.getElem?_replicate,List.getElem?_eq_none (by omega)]
   split <;> rfl
 have hslot : ∀ t,t < nb → t ≠ gh → entYC Y.l Y.L Y.stop k ds t = if t < ds.length then ds.getD t .any else .any:=by
  intro t ht hne
  unfold entYC
  rw [Env.set_ne _ _ _ _ hne]
  unfold ent
  rw [entL_at,entL_at]
  by_cases h : t < ds.length
  ·rw [if_pos ⟨Nat.zero_le _,by omega⟩,if_pos h]; simp
  ·rw [if_neg (by omega),if_neg (by simp),if_neg h]; unfold base; rw [if_pos ht]
 have hnm : ∀ g,nb ≤ g → entYC Y.l Y.L Y.stop k ds g = .free:=by
  intro g hg
  have hdg : ds.length ≤ gh:=Nat.le_trans hl hnb
  have h9 : (1000000 : Nat) ≤ g:=hg
  have h8 : ds.length ≤ 999999:=hdg
  unfold entYC
  rw [Env.set_ne _ _ _ _ (by show ¬ g = 999999; omega)]
  unfold ent
  rw [entL_at,entL_at,if_neg (by omega),if_neg (by simp)]
  unfold base
  rw [if_neg (by show ¬ g < 1000000; omega),if_neg (by show ¬ g < 1000000 + 0; omega)]
 have hR0 : Rel G (entYC Y.l Y.L Y.stop k ds) { tmps:=xs.toArray ++ Array.replicate (fn.ntmps - xs.toArray.size) undef,defers:=[] } w:=by
  refine ⟨rfl,F,noNames,?_,Nat.le_trans hnb (by decide),fun t ht=>?_,fun g hg=>?_,fun g g' b hg hg' h1 h2 h3 h4=>?_,hwf,Chg.refl w F _,fun g b hg h1 h2=>?_,fun i hi=>absurd hi (Nat.not_lt_zero i),hnb,B,fun p hp=>(by cases hp),fun b hb=>.inl hb,fun h=>(by cases h),fun Y' hY'=>?_,fun Y' hY' p hp=>(by cases hp)⟩
  ·show (xs.toArray ++ Array.replicate (fn.ntmps - xs.toArray.size) undef).size = fn.ntmps
   simp only [Array.size_append,Array.size_replicate,List.size_toArray]
   omega
  ·show Fz w F noNames (entYC Y.l Y.L Y.stop k ds t) ((xs.toArray ++ Array.replicate (fn.ntmps - xs.toArray.size) undef).getD t undef)
   by_cases hne : t = gh
   ·subst hne; unfold entYC; rw [Env.set_same]; exact .gho _ _ _ _ _ _
   ·rw [hgetx,hslot t ht hne]
    by_cases h : t < ds.length
    ·have hx : xs[t]? = some (xs.getD t undef):=by rw [List.getD_eq_getElem?_getD,List.getElem?_eq_getElem (by omega)]; rfl
     have hdd : ds[t]? = some (ds.getD t .any):=by rw [List.getD_eq_getElem?_getD,List.getElem?_eq_getElem h]; rfl
     rw [if_pos h]
     exact hfz t _ _ hdd hx
    ·rw [if_neg h]; exact .any _ _
  ·rw [hnm g hg]; rfl
  ·rw [hnm g hg] at h1; cases h1
  ·rw [hnm g hg] at h1; cases h1
  ·obtain rfl:=Option.some.inj hY'
   refine ⟨hlo,⟨k,hJ,fun l L' e k he=>?_⟩,fun g b hg hb _=>?_⟩
   ·unfold entYC at he
    rw [Env.set_same] at he
    injection he with q1 q2 q3 q4
    exact ⟨q1.symm,q2.symm,q3.symm,q4.symm⟩
   ·rw [hnm g hg] at hb; cases hb
 have fin : ∀ (a' : Act) (w' : World),(∃ G' τ,GExt G G' ∧ G'.ok P ∧ Rel G' τ a' w' ∧ FinYC rs' r Y.l Y.L Y.stop k' τ) → LeavesInM Fence.wide 3 P fn a'.tmps (fun en w'=>∃ x F' B',en = .returned x ∧ Chg w F B w' F' ∧ (∀ b o,F' b o → b < w'.heap.size) ∧ Fz w' F' noNames r x ∧ Y.J k' w' F' B' ∧ ∀ b,B' b → B b ∨ w.heap.size ≤ b) a'.defers .returning w':=by
  rintro a' w1 ⟨G',τ,hG,hok',hR,hgk,hro,hrr⟩
  obtain ⟨K,M,rfl,hK⟩:=hG
  obtain ⟨hdf,F',m1,hR⟩:=hR
  obtain ⟨B1,hE1⟩:=hR.ext
  rw [hdf]
  refine marks_out _ _ _ B1 hR hE1 hok'.mrk hok'.nd hok'.new (fun K' w' hR hE=>?_)
  obtain ⟨v,hv,hfv⟩:=res_run (a:=a') hR fn hrs hro
  have hrr' : resD τ rs' = r:=hrr
  rw [hrr'] at hfv
  obtain ⟨_,⟨k'',hJ',hk'⟩,_⟩:=hE.yes Y rfl
  obtain ⟨_,_,_,rfl⟩:=hk' _ _ _ _ hgk
  exact ⟨v,hv,v,F',B1,rfl,hR.chg,hR.wf,hfv.pure hr noNames,hJ',hE.own⟩
 have hok0 : G.ok P:=⟨fun Y' hY'=>(by obtain rfl:=Option.some.inj hY'; exact hP),fun l hl=>(by cases hl),fun b hb=>(by cases hb),List.nodup_nil,fun b hb=>(by cases hb)⟩
 refine wpIn_mono (F:=G.fen) (dwp_ok hm c dc' G (entYC Y.l Y.L Y.stop k ds) _ w _ _ _ 3 hok0 hdc hR0 hd) ?_
 intro en a' w' hp
 cases en with
 | normal=>exact fin a' w' hp
 | ret=>exact fin a' w' hp
 | exit id=>obtain ⟨_,_,_,_,_,h⟩:=hp; exact h.elim
 | _=>exact hp.elim
end Go.Proofs.YtgpdmgaemhelgaaGreat

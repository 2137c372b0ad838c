/-
  Laws that make trees, hand them to the program, mark them and look at the marks: the steps of their walks. No condition.
-/
import Derived.Test.YtclkehekhdfnnaaKSVMix
set_option maxHeartbeats 4000000
set_option maxRecDepth 100000
set_option linter.unusedVariables false
set_option linter.unusedSimpArgs false
namespace Go.Proofs.Ytclkehekhdfnnaa
open Go.RowKit
structure TB where
 b : Nat
 n : Nat
 l : List It
 lt : ∀ it,it ∈ l → it.κ < n
def TB.its (p : TB) : List It:=p.l.map (It.rk (p.b + ·))
def itsB : List TB → List It
 | []=>[]
 | p :: l=>p.its ++ itsB l
def allLe (t : Nat) : List TB → Bool
 | []=>true
 | p :: l=>Nat.ble (p.b + p.n) t && allLe t l
theorem itsB_lt {t : Nat} : ∀ {l : List TB},allLe t l = true → ∀ it,it ∈ itsB l → it.κ < t
 | [],_,it,h=>by cases h
 | p :: l,hl,it,h=>by
  rw [allLe,Bool.and_eq_true] at hl
  rw [itsB] at h
  rcases List.mem_append.1 h with h | h
  ·obtain ⟨x,hx,rfl⟩:=List.mem_map.1 h
   have h1:=p.lt x hx
   have h2:=Nat.le_of_ble_eq_true hl.1
   show p.b + x.κ < t
   omega
  ·exact itsB_lt hl.2 it h
theorem itsB_append : ∀ a b : List TB,itsB (a ++ b) = itsB a ++ itsB b
 | [],_=>rfl
 | p :: a,b=>by rw [List.cons_append,itsB,itsB,itsB_append a b,List.append_assoc]
theorem tb1_lt {s : Nat} {es : List D} : ∀ it,it ∈ [(⟨0,s,es⟩ : It)] → it.κ < 1:=fun it hit=>by obtain rfl:=List.mem_singleton.1 hit; exact Nat.zero_lt_one
def tb1 (b s : Nat) (es : List D) : TB:=⟨b,1,[⟨0,s,es⟩],tb1_lt⟩
theorem tb1_mem {b s : Nat} {es : List D} : (⟨b,s,es⟩ : It) ∈ (tb1 b s es).its:=List.mem_singleton.2 rfl
def fmB (ss : List (List TB × Nat)) : Fm:=⟨fun i=>(ss.getD i ([],0)).2,fun i=>itsB (ss.getD i ([],0)).1⟩
theorem LentK.mono {its its' : List It} (hm : ∀ it,it ∈ its → it ∈ its') {c d : D} (h : LentK its c d) : LentK its' c d:=by
 induction h with
 | same d hp=>exact .same d hp
 | key it h h0=>exact .key it (hm it h) h0
 | agg cs ds hl h ih=>exact .agg cs ds hl ih
 | tup cs ds hl h ih=>exact .tup cs ds hl ih
theorem mem_itsB {p : TB} : ∀ {l : List TB} {j : Nat},l[j]? = some p → ∀ it,it ∈ p.its → it ∈ itsB l
 | [],j,h,_,_=>by simp at h
 | q :: l,0,h,it,hit=>by
  obtain rfl : q = p:=by simpa using h
  rw [itsB]
  exact List.mem_append_left _ hit
 | q :: l,j + 1,h,it,hit=>by
  rw [itsB]
  exact List.mem_append_right _ (mem_itsB (show l[j]? = some p by simpa using h) it hit)
theorem lentB {ss : List (List TB × Nat)} {k : Nat} (j : Nat) {p : TB} {c d : D} (hp : (ss.getD k ([],0)).1[j]? = some p) (h : LentK p.its c d) : LentK ((fmB ss).its k) c d:=h.mono (mem_itsB hp)
theorem low_pur : ∀ (d : D),d.pur = true → d.low = true
 | .agg cs,h=>by rw [D.low]; exact lowL_pur cs h
 | .tup cs,h=>by rw [D.low]; exact lowL_pur cs h
 | .kow _ _ _,h=>by cases h
 | .any,h=>h
 | .v _,h=>h
 | .sl _ _,h=>h
 | .nul,h=>h
 | .ifc _ _,h=>h
 | .bnd _ _ _,h=>h
 | .mv _ _,h=>h
 | .fn _ _,h=>h
 | .ptr _,h=>h
 | .ref _ _,h=>by cases h
 | .own _ _ _,h=>by cases h
 | .owo _ _ _ _,h=>by cases h
 | .eref _ _ _ _,h=>by cases h
 | .obj _,h=>by cases h
 | .row _ _,h=>by cases h
 | .free,h=>by cases h
 | .gho _ _ _ _,h=>by cases h
 | .fam _,h=>by cases h
  where lowL_pur : ∀ (l : List D),D.purL l = true → D.lowL l = true
 | [],_=>rfl
 | d :: l,h=>by
  rw [D.purL,Bool.and_eq_true] at h
  rw [D.lowL,low_pur d h.1,lowL_pur l h.2]; rfl
theorem scal_pur : ∀ (d : D),d.scal = true → d.pur = true
 | .v _,_=>rfl
 | .agg cs,h=>by rw [D.scal] at h; rw [D.pur]; exact scalL_pur cs h
 | .tup cs,h=>by rw [D.scal] at h; rw [D.pur]; exact scalL_pur cs h
 | .any,h=>by cases h
 | .kow _ _ _,h=>by cases h
 | .sl _ _,h=>by cases h
 | .nul,h=>by cases h
 | .ifc _ _,h=>by cases h
 | .bnd _ _ _,h=>by cases h
 | .mv _ _,h=>by cases h
 | .fn _ _,h=>by cases h
 | .ptr _,h=>by cases h
 | .ref _ _,h=>by cases h
 | .own _ _ _,h=>by cases h
 | .owo _ _ _ _,h=>by cases h
 | .eref _ _ _ _,h=>by cases h
 | .obj _,h=>by cases h
 | .row _ _,h=>by cases h
 | .free,h=>by cases h
 | .gho _ _ _ _,h=>by cases h
 | .fam _,h=>by cases h
  where scalL_pur : ∀ (l : List D),D.scalL l = true → D.purL l = true
 | [],_=>rfl
 | d :: l,h=>by
  rw [D.scalL,Bool.and_eq_true] at h
  rw [D.purL,scal_pur d h.1,scalL_pur l h.2]; rfl
section
variable {P : Program} {G : Ctx} {σ : Env} {B : List Nat} {l : List GI} {acc : Option (List Ent)} {N : Env → Prop} {rd wr : List Nat}
theorem keyR_nil (t : Nat) : keyR [] t = (t + ·):=by
 funext κ
 unfold keyR
 exact if_neg (Nat.not_lt_zero _)
theorem s_new {d f k n t : Nat} {ss : List (List TB × Nat)} {bs : List TB} {m0 : Names} {post : List It} {ds : List D} {r rr : D} {xs : List Opd} (hlt : ∀ it,it ∈ post → it.κ < n) (hc : RCalls P f [] ds post n r) (hs : ss.getD k ([],0) = (bs,t)) (hs' : ss.getD (k + 1) ([],0) = (bs ++ [⟨t,n,post,hlt⟩],t + n)) (hb : allLe t bs = true) (hnb : t + n ≤ 900000)
  (hgh : hold (σ gh) = .gho 0 [.fam (famOf (fmB ss) 0 m0)] 0 k) (hda : hold (xs.map (Opd.val σ)) = ds) (hp : D.purL ds = true) (hl : r.low = true) (hrr : r.rk (t + ·) = rr)
  (h : evG P B l (hold (Env.put [(gh,.gho 0 [.fam (famOf (fmB ss) 0 m0)] 0 (k + 1)),(d,rr)] σ)) (hold (push ⟨rd ++ (hold (xs.flatMap Opd.rd) ++ [gh]),wr ++ [gh,d]⟩ acc)) N) : evS P B rd wr (.call d f xs) true l σ acc N:=by
 have et : (fmB ss).top k = t:=congrArg Prod.snd hs
 have et' : (fmB ss).top (k + 1) = t + n:=congrArg Prod.snd hs'
 have ei : (fmB ss).its k = itsB bs:=congrArg (fun p : List TB × Nat=>itsB p.1) hs
 have ei' : (fmB ss).its (k + 1) = itsB (bs ++ [⟨t,n,post,hlt⟩]):=congrArg (fun p : List TB × Nat=>itsB p.1) hs'
 have hkr : keyR [] ((fmB ss).top k) = (t + ·):=by rw [et,keyR_nil]
 refine s_rcall (k + 1) [] (itsB bs) hc hgh hda ?_ (by rw [hkr]; exact hrr) (low_pur.lowL_pur ds hp) hl rfl (fun κ hκ=>(by cases hκ)) (Nat.zero_le _) (by rw [ei]; exact List.Perm.refl _) ?_ (fun it hit=>(by cases hit)) (fun it hit _=>hlt it hit) (fun it hit _=>by rw [et]; exact itsB_lt hb it hit) (Nat.zero_le _) (by rw [et,et']; rfl) (by rw [et']; exact hnb) (Nat.zero_le _) h
 ·rw [← D.rkL_map]
  exact (rk_pur.rkL_pur _ ds hp).symm
 ·rw [ei',itsB_append,hkr]
  refine List.perm_append_comm.trans ?_
  show List.Perm ((TB.its ⟨t,n,post,hlt⟩ ++ []) ++ _) _
  rw [List.append_nil]
  exact List.Perm.refl _
theorem s_ans {d f k n t : Nat} {ss : List (List TB × Nat)} {bs : List TB} {m0 : Names} {post : List It} {es da : List D} {r rr : D} {xs : List Opd} (hlt : ∀ it,it ∈ post → it.κ < n) (hc : RCalls P f [] es post n r) (hs : ss.getD k ([],0) = (bs,t)) (hs' : ss.getD (k + 1) ([],0) = (bs ++ [⟨t,n,post,hlt⟩],t + n)) (hb : allLe t bs = true) (hnb : t + n ≤ 900000)
  (hgh : hold (σ gh) = .gho 0 [.fam (famOf (fmB ss) 0 m0)] 0 k) (hda : hold (xs.map (Opd.val σ)) = da) (hL : LentKL ((fmB ss).its k) da es) (hr : r.scalK = true) (hrr : r.rk (t + ·) = rr)
  (h : evG P B l (hold (Env.put [(gh,.gho 0 [.fam (famOf (fmB ss) 0 m0)] 0 (k + 1)),(d,rr)] σ)) (hold (push ⟨rd ++ (hold (xs.flatMap Opd.rd) ++ [gh]),wr ++ [gh,d]⟩ acc)) N) : evS P B rd wr (.call d f xs) true l σ acc N:=by
 have et : (fmB ss).top k = t:=congrArg Prod.snd hs
 have et' : (fmB ss).top (k + 1) = t + n:=congrArg Prod.snd hs'
 have ei : (fmB ss).its k = itsB bs:=congrArg (fun p : List TB × Nat=>itsB p.1) hs
 have ei' : (fmB ss).its (k + 1) = itsB (bs ++ [⟨t,n,post,hlt⟩]):=congrArg (fun p : List TB × Nat=>itsB p.1) hs'
 refine s_rlendR (k + 1) hc hgh hda hL (by rw [et]; exact hrr) hr (Nat.zero_le _) ?_ (fun it hit _=>hlt it hit) (fun it hit _=>by rw [et]; rw [ei] at hit; exact itsB_lt hb it hit) (by rw [et,et']) (by rw [et']; exact hnb) h
 rw [ei',ei,et,itsB_append]
 refine List.perm_append_comm.trans ?_
 show List.Perm ((TB.its ⟨t,n,post,hlt⟩ ++ []) ++ _) _
 rw [List.append_nil]
 exact List.Perm.refl _
def keysB (b n : Nat) : List Nat:=(List.range n).map (b + ·)
theorem keysB_len (b n : Nat) : (keysB b n).length = n:=by unfold keysB; rw [List.length_map,List.length_range]
theorem keyR_B {b n t κ : Nat} (h : κ < n) : keyR (keysB b n) t κ = b + κ:=by
 unfold keyR
 rw [if_pos (by rw [keysB_len]; exact h)]
 unfold keysB
 rw [List.getD_eq_getElem?_getD,List.getElem?_map,List.getElem?_range h]
 rfl
theorem map_keyR {b n t : Nat} {l : List It} (h : ∀ it,it ∈ l → it.κ < n) : l.map (It.rk (keyR (keysB b n) t)) = l.map (It.rk (b + ·)):=by
 refine List.map_congr_left (fun it hit=>?_)
 unfold It.rk
 rw [keyR_B (h it hit)]
theorem s_chg {d f k n t b : Nat} {ss : List (List TB × Nat)} {L1 L2 : List TB} {m0 : Names} {pre post : List It} {ds da : List D} {r rr : D} {xs : List Opd} (hlt : ∀ it,it ∈ pre → it.κ < n) (hlt' : ∀ it,it ∈ post → it.κ < n) (hc : RCalls P f pre ds post n r) (hn : pre.length = n) (hs : ss.getD k ([],0) = (L1 ++ ⟨b,n,pre,hlt⟩ :: L2,t)) (hs' : ss.getD (k + 1) ([],0) = (L1 ++ ⟨b,n,post,hlt'⟩ :: L2,t))
  (hb : allLe t (L1 ++ ⟨b,n,pre,hlt⟩ :: L2) = true) (hnb : t ≤ 900000)
  (hgh : hold (σ gh) = .gho 0 [.fam (famOf (fmB ss) 0 m0)] 0 k) (hda : hold (xs.map (Opd.val σ)) = da) (hds : ∀ ρ : Nat → Nat,(∀ κ,κ < n → ρ κ = b + κ) → ds.map (D.rk ρ) = da) (hl : D.lowL ds = true) (hr : r.low = true) (hrr : ∀ ρ : Nat → Nat,(∀ κ,κ < n → ρ κ = b + κ) → r.rk ρ = rr)
  (h : evG P B l (hold (Env.put [(gh,.gho 0 [.fam (famOf (fmB ss) 0 m0)] 0 (k + 1)),(d,rr)] σ)) (hold (push ⟨rd ++ (hold (xs.flatMap Opd.rd) ++ [gh]),wr ++ [gh,d]⟩ acc)) N) : evS P B rd wr (.call d f xs) true l σ acc N:=by
 have et : (fmB ss).top k = t:=congrArg Prod.snd hs
 have et' : (fmB ss).top (k + 1) = t:=congrArg Prod.snd hs'
 have ei : (fmB ss).its k = itsB (L1 ++ ⟨b,n,pre,hlt⟩ :: L2):=congrArg (fun p : List TB × Nat=>itsB p.1) hs
 have ei' : (fmB ss).its (k + 1) = itsB (L1 ++ ⟨b,n,post,hlt'⟩ :: L2):=congrArg (fun p : List TB × Nat=>itsB p.1) hs'
 have hbn : b + n ≤ t:=by
  clear hs hs' ei ei' h
  induction L1 with
  | nil=>
   rw [List.nil_append,allLe,Bool.and_eq_true] at hb
   exact Nat.le_of_ble_eq_true hb.1
  | cons q L1 ih=>
   rw [List.cons_append,allLe,Bool.and_eq_true] at hb
   exact ih hb.2
 have hmv : ∀ (x : List It) (hx : ∀ it,it ∈ x → it.κ < n),(itsB (L1 ++ ⟨b,n,x,hx⟩ :: L2)).Perm (x.map (It.rk (keyR (keysB b n) ((fmB ss).top k))) ++ (itsB L1 ++ itsB L2)):=fun x hx=>by
  rw [itsB_append,itsB,map_keyR hx]
  show (itsB L1 ++ (x.map (It.rk (b + ·)) ++ itsB L2)).Perm _
  rw [← List.append_assoc,← List.append_assoc]
  exact (List.perm_append_comm).append_right _
 refine s_rcall (k + 1) (keysB b n) (itsB L1 ++ itsB L2) hc hgh hda (hds _ (fun κ hκ=>keyR_B hκ)).symm (hrr _ (fun κ hκ=>keyR_B hκ)) hl hr (by rw [keysB_len,hn]) (fun κ hκ=>?_) (Nat.zero_le _) (by rw [ei]; exact hmv pre hlt) (by rw [ei']; exact hmv post hlt') (fun it hit _=>by rw [keysB_len]; exact hlt it hit) (fun it hit _=>hlt' it hit) (fun it hit _=>?_) (by rw [keysB_len]; exact Nat.le_refl _) (by rw [et,et',keysB_len,Nat.sub_self]; rfl) (by rw [et']; exact hnb) (by rw [keysB_len]; omega) h
 ·obtain ⟨i,hi,rfl⟩:=List.mem_map.1 hκ
  have:=List.mem_range.1 hi
  rw [et]
  show b + i < t
  omega
 ·rw [et]
  refine itsB_lt hb it ?_
  rw [itsB_append,itsB]
  rcases List.mem_append.1 hit with h | h
  ·exact List.mem_append_left _ h
  ·exact List.mem_append_right _ (List.mem_append_right _ h)
theorem s_mrk {d f k n t b : Nat} {ss : List (List TB × Nat)} {L1 L2 : List TB} {m0 : Names} {pre post : List It} {ds da : List D} {r : D} {xs : List Opd} (hlt : ∀ it,it ∈ pre → it.κ < n) (hlt' : ∀ it,it ∈ post → it.κ < n) (hc : RCalls P f pre ds post n r) (hn : pre.length = n) (hs : ss.getD k ([],0) = (L1 ++ ⟨b,n,pre,hlt⟩ :: L2,t)) (hs' : ss.getD (k + 1) ([],0) = (L1 ++ ⟨b,n,post,hlt'⟩ :: L2,t))
  (hb : allLe t (L1 ++ ⟨b,n,pre,hlt⟩ :: L2) = true) (hnb : t ≤ 900000)
  (hgh : hold (σ gh) = .gho 0 [.fam (famOf (fmB ss) 0 m0)] 0 k) (hda : hold (xs.map (Opd.val σ)) = da) (hds : ∀ ρ : Nat → Nat,(∀ κ,κ < n → ρ κ = b + κ) → ds.map (D.rk ρ) = da) (hl : D.lowL ds = true) (hr : r.scal = true)
  (h : evG P B l (hold (Env.put [(gh,.gho 0 [.fam (famOf (fmB ss) 0 m0)] 0 (k + 1)),(d,r)] σ)) (hold (push ⟨rd ++ (hold (xs.flatMap Opd.rd) ++ [gh]),wr ++ [gh,d]⟩ acc)) N) : evS P B rd wr (.call d f xs) true l σ acc N:=
 s_chg hlt hlt' hc hn hs hs' hb hnb hgh hda hds hl (low_pur r (scal_pur r hr)) (fun ρ _=>rk_pur _ _ (scal_pur r hr)) h
end
theorem likeL_rk (ρ : Nat → Nat) : ∀ (l : List It),(∀ it,it ∈ l → ρ it.κ = it.κ) → likeL l (l.map (It.rk ρ))
 | [],_=>trivial
 | it :: l,h=>⟨⟨rfl,rfl,fun _=>(h it (List.mem_cons_self ..)).symm⟩,likeL_rk ρ l (fun x hx=>h x (List.mem_cons_of_mem _ hx))⟩
theorem does_ofX {P : Program} {xo : List Nat} {f : FuncId} {n : Nat} {dc : DC} {rs : List Res} (hc : cfun P xo f = some (n,dc,rs)) (hm : P.follows .mixedOrders = true) {ds : List D} {r : D} (ss : List (List TB × Nat)) (k1 : Nat) {bs : List TB} {t : Nat} (h0 : ss.getD 0 ([],0) = ([],0)) (h1 : ss.getD k1 ([],0) = (bs,t)) (hb : allLe t bs = true) (ht : t ≤ 900000) (hl : ds.length ≤ n) (hr : r.scal = true)
  (hd : ∀ m0,dwp P 0 dc (hold (entYC 0 [.fam (famOf (fmB ss) 0 m0)] 0 0 ds)) (FinRC rs r (fmB ss) 0 m0 k1) (fun _ _=>False) (FinRC rs r (fmB ss) 0 m0 k1)) : Does P f [] ds r []:=by
 have ei : (fmB ss).its k1 = itsB bs:=congrArg (fun p : List TB × Nat=>itsB p.1) h1
 have hrk : ∀ ρ,r.rk ρ = r:=fun ρ=>rk_pur ρ r (scal_pur r hr)
 refine (rcalls_ofO (pre:=[]) (post:=itsB bs) (top':=t) hc hm (fmB ss) 0 k1 (fun κ=>if κ < t then κ else 2000000) hl (low_pur r (scal_pur r hr)) (congrArg Prod.snd h0) (by rw [show (fmB ss).its 0 = itsB [] from congrArg (fun p : List TB × Nat=>itsB p.1) h0]; exact List.Perm.refl _) (fun w m B hO=>?_) (fun it hit _=>itsB_lt hb it hit) (fun κ h=>absurd h (Nat.not_lt_zero κ)) (fun κ hκ=>?_) (Nat.zero_le _) ht (fun m0=>?_)).does hr
 ·rw [ei] at hO
  exact hO.like (likeL_rk _ _ (fun it hit=>if_pos (itsB_lt hb it hit)))
 ·show nb ≤ if κ < t then κ else 2000000
  rw [if_neg (by omega)]; decide
 ·rw [hrk]
  exact hd m0
end Go.Proofs.Ytclkehekhdfnnaa

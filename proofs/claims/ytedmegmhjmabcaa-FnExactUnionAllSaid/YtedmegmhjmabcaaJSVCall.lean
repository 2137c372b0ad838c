/-
  Calls that are handed a loop's yield and hand out elements by it: what they say, how they are made, how they are proved. No condition.
-/
import Derived.Test.YtedmegmhjmabcaaJSVLib
set_option maxHeartbeats 4000000
set_option maxRecDepth 100000
set_option linter.unusedVariables false
set_option linter.unusedSimpArgs false
namespace Go.Proofs.Ytedmegmhjmabcaa
open Go.RowKit
def YCalls (P : Program) (f : FuncId) (i : Nat) (L : List D) (e : Nat) (ds : List D) (k : Nat) (r : D) (k' : Nat) : Prop:=
 ∀ (Y : YC) (w : World) (F : Cells) (m : Names) (B : Blocks) (xs : List Value),Y.P = P → Y.l = i → Y.L = L → Y.stop = e → (∀ k w F m m' B,Y.J k w F m B → Y.J k w F m' B) → Y.J k w F m B → (∀ b o,F b o → b < w.heap.size) → xs.length = ds.length →
  (∀ (j : Nat) (d : D) (x : Value),ds[j]? = some d → xs[j]? = some x → Fz w F noNames d x) →
  Calls P f xs.toArray w (fun en w'=>∃ x F' B',en = .returned x ∧ Chg w F B w' F' ∧ (∀ b o,F' b o → b < w'.heap.size) ∧ Fz w' F' noNames r x ∧ Y.J k' w' F' m B' ∧ ∀ b,B' b → B b ∨ w.heap.size ≤ b)
theorem YCalls.weak {P : Program} {f : FuncId} {i e k k' : Nat} {L ds es : List D} {r s : D} (h : YCalls P f i L e ds k r k') (ha : SubL es ds) (hr : Sub r s) : YCalls P f i L e es k s k':=by
 intro Y w F m B xs hP h1 h2 h3 hig hJ hwf hxl hfz
 obtain ⟨a1,a2⟩:=ha.spec
 refine (h Y w F m B xs hP h1 h2 h3 hig hJ hwf (by rw [hxl,a1]) (fun j d x hd hx=>?_)).mono ?_
 ·obtain ⟨e,he,hs⟩:=a2 j d hd
  exact hs _ _ _ _ (hfz j e x he hx)
 ·rintro en w' ⟨x,F',B',rfl,c,g1,g2,g3⟩
  exact ⟨x,F',B',rfl,c,g1,hr _ _ _ _ g2,g3⟩
section
variable {P : Program} {G : Ctx} {σ : Env} {B : List Nat} {l : List GI} {acc : Option (List Ent)} {N : Env → Prop} {rd wr : List Nat}
end
def entYC (i : Nat) (L : List D) (e k : Nat) (ds : List D) : Env:=(ent [] ds).set gh (.gho i L e k)
attribute [go_sem] entYC
def FinYC (rs : List Res) (r : D) (i : Nat) (L : List D) (e k' : Nat) (τ : Env) : Prop:=hold (τ gh) = .gho i L e k' ∧ resOk τ rs ∧ hold (resD τ rs) = r
end Go.Proofs.Ytedmegmhjmabcaa
set_option maxHeartbeats 4000000
set_option maxRecDepth 100000
set_option linter.unusedVariables false
set_option linter.unusedSimpArgs false
namespace Go.Proofs.Ytedmegmhjmabcaa
open Go.RowKit
def intsD (l : List Int) : D:=.sl 1 (l.map I)
theorem ints_pur : ∀ l : List Int,D.purL (l.map I) = true
 | []=>rfl
 | p :: l=>by rw [List.map_cons,D.purL,ints_pur l]; rfl
theorem ints_ren (L : List Nat) (l : List Int) : D.renL L (l.map I) = l.map I:=ren_pure.renL_pure L _ (ints_pur l)
attribute [go_sem] ints_pur ints_ren intsD
end Go.Proofs.Ytedmegmhjmabcaa
set_option maxRecDepth 100000
namespace Go.Proofs.Ytedmegmhjmabcaa
open Go.RowKit
def allOf (w : World) : Cells:=fun b _=>b < w.heap.size
theorem calls_of {P : Program} {f : FuncId} {ds : List D} (h : Does P f [] ds (Bo true) []) (w : World) (xs : List Value) (hl : xs.length = ds.length)
  (hx : ∀ (i : Nat) (d : D) (x : Value),ds[i]? = some d → xs[i]? = some x → Fz w (allOf w) noNames d x) : Calls P f xs.toArray w fun e W'=>e = .returned (.bool true) ∧ Below w.heap.size w W':=by
 refine (h w (allOf w) noNames xs hl (Nat.le_refl _) (fun b o h=>h) hx (fun i d h=>by simp at h) (fun _ _=>rfl) (fun i j b hi=>by simp at hi)).mono ?_
 rintro e w' ⟨x,F',m',rfl,c,_,_,_,hx,_⟩
 obtain rfl:=hx.v_eq
 exact ⟨rfl,c.os,c.tape,c.output,c.size,fun k hk=>c.block k hk (fun ⟨i,hi,_⟩=>by simp at hi)⟩
end Go.Proofs.Ytedmegmhjmabcaa

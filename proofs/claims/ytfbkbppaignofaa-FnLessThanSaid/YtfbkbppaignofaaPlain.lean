/-
  Plain facts on values (null or a number) and rows of values; no program is named here.
-/
namespace Go.Proofs.Ytfbkbppaignofaa
namespace M

/-- A value: null, or a number. -/
structure V where
  nul : Bool
  n : Int
deriving DecidableEq

def V.ok (v : V) : Bool := if v.nul then decide (v.n = 0) else decide (-9999 ≤ v.n ∧ v.n ≤ 9999)

theorem V.ok_bounds {v : V} (h : v.ok = true) : -9999 ≤ v.n ∧ v.n ≤ 9999 := by
  unfold V.ok at h
  split at h <;> simp at h <;> omega

theorem V.ok_nul {v : V} (h : v.ok = true) (hn : v.nul = true) : v.n = 0 := by
  unfold V.ok at h
  simp [hn] at h
  exact h

def V.cmp (a b : V) : Int :=
  if a = b then 0 else if a.nul = true ∨ (b.nul = false ∧ a.n < b.n) then -1 else 1

def cmpVals (a b : V) : Int := if a.ok = true ∧ b.ok = true then a.cmp b else 2

end M
end Go.Proofs.Ytfbkbppaignofaa

/- Numbers of a fence: bars near a place, bars that a move goes through, the bar behind which a place is closest. -/
import Derived.Test.YtllkhgcokbpggaaBi
import Derived.Test.YtllkhgcokbpggaaBo
namespace Go.Proofs.Ytllkhgcokbpggaa
open Go.RowKit
set_option linter.unusedVariables false

/-- from a number to another one, or further by far at the most -/
def inF (n a b far : Int) : Prop := min a b - far ≤ n ∧ n ≤ max a b + far
instance (n a b far : Int) : Decidable (inF n a b far) := by unfold inF; exact inferInstance
/-- a bar's box, extended, holds a place -/
def arP (g : Fv) (x y far : Int) : Prop := inF x g.ax g.bx far ∧ inF y g.ay g.by' far
instance (g : Fv) (x y far : Int) : Decidable (arP g x y far) := by unfold arP; exact inferInstance
/-- a move goes through a bar, to its wrong side -/
def brP (g : Fv) (px py qx qy : Int) : Prop := (0 ≤ sideP ⟨g.ax, g.ay⟩ ⟨g.bx, g.by'⟩ ⟨px, py⟩ ∧ sideP ⟨g.ax, g.ay⟩ ⟨g.bx, g.by'⟩ ⟨qx, qy⟩ < 0) ∧ meetsP ⟨g.ax, g.ay⟩ ⟨g.bx, g.by'⟩ ⟨px, py⟩ ⟨qx, qy⟩ = true
instance (g : Fv) (px py qx qy : Int) : Decidable (brP g px py qx qy) := by unfold brP; exact inferInstance
/-- those of the first N numbers that are taken, as numbers -/
def selI (P : Nat → Bool) : Nat → List Int
  | 0 => []
  | n + 1 => selI P n ++ (if P n = true then [(n : Int)] else [])
theorem selI_len (P : Nat → Bool) : ∀ n, (selI P n).length ≤ n
  | 0 => Nat.le_refl _
  | n + 1 => by
    have := selI_len P n
    show (selI P n ++ _).length ≤ _
    rw [List.length_append]
    split <;> simp <;> omega
theorem sel_no {P : Nat → Bool} {n : Nat} (h : P n = false) : selI P n = selI P (n + 1) := by
  show _ = selI P n ++ (if P n = true then [(n : Int)] else [])
  rw [if_neg (by rw [h]; decide), List.append_nil]
theorem sel_yes {P : Nat → Bool} {n : Nat} (h : P n = true) : selI P n ++ [(n : Int)] = selI P (n + 1) := by
  show _ = selI P n ++ (if P n = true then [(n : Int)] else [])
  rw [if_pos h]
theorem selI_mem {P : Nat → Bool} {i : Int} : ∀ {n : Nat}, i ∈ selI P n → ∃ k : Nat, i = k ∧ k < n ∧ P k = true
  | 0, h => by cases h
  | n + 1, h => by
    rcases List.mem_append.1 h with h | h
    · obtain ⟨k, e, l, p⟩ := selI_mem h
      exact ⟨k, e, by omega, p⟩
    · by_cases p : P n = true
      · rw [if_pos p] at h
        simp only [List.mem_cons, List.not_mem_nil, or_false] at h
        exact ⟨n, h, by omega, p⟩
      · rw [if_neg p] at h; cases h
/-- what Around tells -/
def arnI (g : Nat → Fv) (N : Nat) (x y far : Int) : List Int := if (0 ≤ far ∧ far ≤ 274877906944) ∧ (Pt.mk x y).near then selI (fun i => decide (arP (g i) x y far)) N else []
/-- what Breaks tells -/
def brkI (g : Nat → Fv) (N : Nat) (px py qx qy : Int) : List Int := if ((Pt.mk px py).near ∧ (Pt.mk qx qy).near) ∧ inF px qx qx 274877906944 ∧ inF py qy qy 274877906944 then selI (fun i => decide (brP (g i) px py qx qy)) N else []
/-- what Behind tells, of the first N bars -/
noncomputable def behI (g : Nat → Fv) (x y deep : Int) : Nat → Int × Int
  | 0 => (-1, 0)
  | n + 1 => if (0 < beyondN ⟨(g n).ax, (g n).ay⟩ ⟨(g n).bx, (g n).by'⟩ ⟨x, y⟩ ∧ beyondN ⟨(g n).ax, (g n).ay⟩ ⟨(g n).bx, (g n).by'⟩ ⟨x, y⟩ ≤ deep) ∧ ((behI g x y deep n).1 < 0 ∨ beyondN ⟨(g n).ax, (g n).ay⟩ ⟨(g n).bx, (g n).by'⟩ ⟨x, y⟩ < (behI g x y deep n).2) then (n, beyondN ⟨(g n).ax, (g n).ay⟩ ⟨(g n).bx, (g n).by'⟩ ⟨x, y⟩) else behI g x y deep n
noncomputable def behF (g : Nat → Fv) (N : Nat) (x y deep : Int) : Int × Int := if 0 ≤ deep ∧ deep ≤ 274877906944 then behI g x y deep N else (-1, 0)
/-- a bar that a move breaks is not broken the other way round -/
theorem brP_turn {g : Fv} {px py qx qy : Int} (h : brP g px py qx qy) : ¬ brP g qx qy px py := fun k => by
  have a := h.1.2
  have b := k.1.1
  omega
end Go.Proofs.Ytllkhgcokbpggaa

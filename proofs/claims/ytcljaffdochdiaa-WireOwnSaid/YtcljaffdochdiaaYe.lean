/- The document's reader: Num, Flag, Refuse, End. -/
import Derived.Test.YtcljaffdochdiaaYd
namespace Go.Proofs.Ytcljaffdochdiaa
open Go.RowKit
set_option linter.unusedVariables false
set_option linter.unusedSimpArgs false

instance (N m : Nat) (s : IS) : Decidable (wordOk N m s) := by unfold wordOk; exact inferInstance
def valB : List Int → Int
  | [] => 0
  | x :: r => x + 256 * valB r
theorem valB_in : ∀ (l : List Int), (∀ x ∈ l, 0 ≤ x ∧ x ≤ 255) → 0 ≤ valB l ∧ valB l < 256 ^ l.length
  | [], _ => by simp [valB]
  | x :: r, h => by
    have h1 := valB_in r (fun y hy => h y (List.mem_cons_of_mem _ hy))
    have h2 := h x (List.mem_cons_self ..)
    show 0 ≤ x + 256 * valB r ∧ x + 256 * valB r < 256 ^ (r.length + 1)
    rw [Int.pow_succ]
    omega
theorem pow_8 : ∀ n : Nat, n ≤ 7 → (256 : Int) ^ n ≤ 72057594037927936 := by decide
theorem valB_drop (l : List Int) (j : Nat) (h : j < l.length) : valB (l.drop j) = l[j] + 256 * valB (l.drop (j + 1)) := by rw [List.drop_eq_getElem_cons h]; rfl
def numV (l : List Int) (s : IS) : Int := if wordOk l.length 8 s then wrap64 (valB (wordL l 8 s)) else 0
theorem wordS_ok {N m : Nat} {s : IS} (h : wordOk N m s) : wordS N m s = { s with pos := s.pos + m, last := s.pos } := by
  unfold wordS; rw [if_pos h.1, if_pos h.2]
theorem wordL_length {l : List Int} {n m : Nat} {s : IS} (hn : l.length = n) (h : wordOk n m s) : (wordL l m s).length = m := by
  have := h.2
  unfold wordL; rw [List.length_take, List.length_drop]; omega
theorem wordL_in {l : List Int} {m : Nat} {s : IS} (hu : ∀ x ∈ l, 0 ≤ x ∧ x ≤ 255) : ∀ x ∈ wordL l m s, 0 ≤ x ∧ x ≤ 255 := fun x hx => hu x (List.mem_of_mem_drop (List.mem_of_mem_take hx))
def flagV (l : List Int) (s : IS) : Bool := if wordOk l.length 1 s then decide ((wordL l 1 s).headD 0 = 1) else false
def flagS (l : List Int) (s : IS) : IS := if wordOk l.length 1 s then (if 1 < (wordL l 1 s).headD 0 then failS 24 s.pos (wordS l.length 1 s) else wordS l.length 1 s) else wordS l.length 1 s
def cntOf (l : List Int) (s : IS) : Int := match wordL l 2 s with | [x, y] => x + 256 * y | _ => 0
def cntBad (lo hi : Int) (l : List Int) (s : IS) : Prop := cntOf l s < lo ∨ hi < cntOf l s
instance (lo hi : Int) (l : List Int) (s : IS) : Decidable (cntBad lo hi l s) := by unfold cntBad; exact inferInstance
def cntV (lo hi : Int) (l : List Int) (s : IS) : Int := if wordOk l.length 2 s then (if cntBad lo hi l s then 0 else cntOf l s) else 0
def cntS (lo hi : Int) (l : List Int) (s : IS) : IS := if wordOk l.length 2 s then (if cntBad lo hi l s then failS 22 s.pos (wordS l.length 2 s) else wordS l.length 2 s) else wordS l.length 2 s
end Go.Proofs.Ytcljaffdochdiaa

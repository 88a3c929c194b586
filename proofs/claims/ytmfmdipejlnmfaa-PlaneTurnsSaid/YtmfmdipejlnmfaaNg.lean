/- The contract of the document's Side of places. -/
import Derived.Test.YtmfmdipejlnmfaaNf
namespace Go.Proofs.Ytmfmdipejlnmfaa
open Go.RowKit
set_option linter.unusedVariables false
set_option linter.unusedSimpArgs false

theorem cmp_sgn (n : Int) : cmpI n 0 = sgnA n := by
  unfold cmpI sgnA
  split <;> (try split) <;> (try split) <;> omega
set_option maxHeartbeats 2000000 in
theorem rSide_any (ax ay bx by' px py : Int) (w : World) :
    Calls Try.prog 11 #[.agg #[.int .i64 ax, .int .i64 ay], .agg #[.int .i64 bx, .int .i64 by'], .agg #[.int .i64 px, .int .i64 py]] w fun e w' => e = .returned (.int .i64 (sideP ⟨ax, ay⟩ ⟨bx, by'⟩ ⟨px, py⟩)) ∧ Below w.heap.size w w' := by
  by_cases h : (Rg ax ∧ Rg ay) ∧ (Rg bx ∧ Rg by') ∧ (Rg px ∧ Rg py)
  · have E := Lib.hid (show sgnA (area ⟨ax, ay⟩ ⟨bx, by'⟩ ⟨px, py⟩) = sideP ⟨ax, ay⟩ ⟨bx, by'⟩ ⟨px, py⟩ from (if_pos (show Pt.near ⟨ax, ay⟩ ∧ Pt.near ⟨bx, by'⟩ ∧ Pt.near ⟨px, py⟩ from h)).symm)
    have N := Lib.hid (fun (n : Nat) (W : World) (B : BW W n [.int .i64 ax, .int .i64 ay, .int .i64 bx, .int .i64 by', .int .i64 px, .int .i64 py]) => rNear3_any ax ay bx by' px py n W B)
    rw [decide_eq_true h] at N
    have F := area_fit h.1.1 h.1.2 h.2.1.1 h.2.1.2 h.2.2.1 h.2.2.2
    have X := Lib.hid (fun (W : World) => rArea_any ax ay bx by' px py _ W h.1.1 h.1.2 h.2.1.1 h.2.1.2 h.2.2.1 h.2.2.2 rfl)
    have S := Lib.hid (fun (W : World) => rSign_any (area ⟨ax, ay⟩ ⟨bx, by'⟩ ⟨px, py⟩) W F.2.2.2.2)
    rw [cmp_sgn, E.out] at S
    generalize sideP ⟨ax, ay⟩ ⟨bx, by'⟩ ⟨px, py⟩ = r at *
    generalize area ⟨ax, ay⟩ ⟨bx, by'⟩ ⟨px, py⟩ = A at *
    clear F E h
    go_enter Try.func11, Try.ntmps11
    go_wp2_with fail
    refine (N.out _ _ (BW.new _ _ [_, _, _, _, _, _] _ (by simp))).mono ?_
    rintro e w1 ⟨rfl, rfl⟩
    go_wp2_with fail
    refine calls_gen (S := fun W => Below w.heap.size w W) (by repeat (first | exact Below.refl _ _ | assumption | refine Below.setCell ?_ (by first | omega | (simp; done) | (simp; omega)) _ | refine Below.alloc ?_ (by first | omega | (simp; done) | (simp; omega)) _ | refine below_drewN ?_ _ | refine Below.drew ?_ | refine Below.trans ?_ (Below.mono (by assumption) (by first | omega | (simp; done) | (simp; omega))))) (fun W0 hS => ?_)
    have L0 := Lib.hid hS
    clear hS N
    refine (X.out _).mono ?_
    rintro e w2 ⟨rfl, h⟩
    have L2 := Lib.hid (L0.out.trans (h.mono L0.out.size))
    clear h L0 X
    go_wp2_with fail
    refine (S.out _).mono ?_
    rintro e w3 ⟨rfl, h⟩
    have L3 := Lib.hid (L2.out.trans (h.mono L2.out.size))
    clear h L2 S
    go_wp2
    go_ret
    exact ⟨rfl, L3.out⟩
  · have E := Lib.hid (show (0 : Int) = sideP ⟨ax, ay⟩ ⟨bx, by'⟩ ⟨px, py⟩ from (if_neg (show ¬ (Pt.near ⟨ax, ay⟩ ∧ Pt.near ⟨bx, by'⟩ ∧ Pt.near ⟨px, py⟩) from h)).symm)
    have N := Lib.hid (fun (n : Nat) (W : World) (B : BW W n [.int .i64 ax, .int .i64 ay, .int .i64 bx, .int .i64 by', .int .i64 px, .int .i64 py]) => rNear3_any ax ay bx by' px py n W B)
    rw [decide_eq_false h] at N
    clear h
    go_enter Try.func11, Try.ntmps11
    go_wp2_with fail
    refine (N.out _ _ (BW.new _ _ [_, _, _, _, _, _] _ (by simp))).mono ?_
    rintro e w1 ⟨rfl, rfl⟩
    go_wp2
    go_ret
    exact ⟨retI E.out, by repeat (first | exact Below.refl _ _ | assumption | refine Below.setCell ?_ (by first | omega | (simp; done) | (simp; omega)) _ | refine Below.alloc ?_ (by first | omega | (simp; done) | (simp; omega)) _ | refine below_drewN ?_ _ | refine Below.drew ?_ | refine Below.trans ?_ (Below.mono (by assumption) (by first | omega | (simp; done) | (simp; omega))))⟩
end Go.Proofs.Ytmfmdipejlnmfaa

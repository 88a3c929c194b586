/- Few, sample, awake of the ground's laws. -/
import Derived.Test.YtjbalpmcnihhpaaDoorBe
namespace Go.Proofs.YtjbalpmcnihhpaaDoor
open Go.RowKit
set_option linter.unusedVariables false
set_option linter.unusedSimpArgs false

theorem gfew_any (t : Trk) (B : Nat) (w : World) (hB : B ≤ w.heap.size) (K : TrkM B w t) :
    Calls Tryd.prog 12 #[.agg #[.int .i64 t.rate, .int .i64 t.cell, .int .i64 t.cols, .int .i64 t.rows, .int .i64 t.cx, .int .i64 t.cy, .slice t.H.a t.H.n t.H.c, .slice t.G.a t.G.n t.G.c, .slice t.ka t.kn t.kc, .slice t.la t.ln t.lc, .slice t.ra t.rn t.rc, .slice t.ga t.gn t.gc, .int .i64 t.sx, .int .i64 t.sy, .int .u32 t.head, .int .i64 t.laps]] w fun e w' => e = .returned (.bool (decide (fewT t))) ∧ Below w.heap.size w w' := by
  by_cases h1 : t.H.n ≤ 1200
  · by_cases h2 : t.G.n ≤ 1000
    · by_cases h3 : t.kn ≤ 20
      · have E := Lib.hid (show decide (fewT t) = true from decide_eq_true ⟨h1, h2, h3⟩)
        have g1 : (t.H.n : Int) ≤ 1200 := by omega
        have g2 : (t.G.n : Int) ≤ 1000 := by omega
        have g3 : (t.kn : Int) ≤ 20 := by omega
        rw [E.out]
        go_enter Tryd.func12, Tryd.ntmps12
        go_wp2
        go_ret
        exact ⟨rfl, by repeat (first | exact Below.refl _ _ | assumption | refine Below.setCell ?_ (by first | omega | (simp; done) | (simp; omega)) _ | refine Below.alloc ?_ (by first | omega | (simp; done) | (simp; omega)) _ | refine below_drewN ?_ _ | refine Below.drew ?_ | refine Below.trans ?_ (Below.mono (by assumption) (by first | omega | (simp; done) | (simp; omega))))⟩
      · have E := Lib.hid (show decide (fewT t) = false from decide_eq_false (fun h => h3 h.2.2))
        have g1 : (t.H.n : Int) ≤ 1200 := by omega
        have g2 : (t.G.n : Int) ≤ 1000 := by omega
        have g3 : ¬ (t.kn : Int) ≤ 20 := by omega
        rw [E.out]
        go_enter Tryd.func12, Tryd.ntmps12
        go_wp2
        go_ret
        exact ⟨rfl, by repeat (first | exact Below.refl _ _ | assumption | refine Below.setCell ?_ (by first | omega | (simp; done) | (simp; omega)) _ | refine Below.alloc ?_ (by first | omega | (simp; done) | (simp; omega)) _ | refine below_drewN ?_ _ | refine Below.drew ?_ | refine Below.trans ?_ (Below.mono (by assumption) (by first | omega | (simp; done) | (simp; omega))))⟩
    · have E := Lib.hid (show decide (fewT t) = false from decide_eq_false (fun h => h2 h.2.1))
      have g1 : (t.H.n : Int) ≤ 1200 := by omega
      have g2 : ¬ (t.G.n : Int) ≤ 1000 := by omega
      rw [E.out]
      go_enter Tryd.func12, Tryd.ntmps12
      go_wp2
      go_ret
      exact ⟨rfl, by repeat (first | exact Below.refl _ _ | assumption | refine Below.setCell ?_ (by first | omega | (simp; done) | (simp; omega)) _ | refine Below.alloc ?_ (by first | omega | (simp; done) | (simp; omega)) _ | refine below_drewN ?_ _ | refine Below.drew ?_ | refine Below.trans ?_ (Below.mono (by assumption) (by first | omega | (simp; done) | (simp; omega))))⟩
  · have E := Lib.hid (show decide (fewT t) = false from decide_eq_false (fun h => h1 h.1))
    have g1 : ¬ (t.H.n : Int) ≤ 1200 := by omega
    rw [E.out]
    go_enter Tryd.func12, Tryd.ntmps12
    go_wp2
    go_ret
    exact ⟨rfl, by repeat (first | exact Below.refl _ _ | assumption | refine Below.setCell ?_ (by first | omega | (simp; done) | (simp; omega)) _ | refine Below.alloc ?_ (by first | omega | (simp; done) | (simp; omega)) _ | refine below_drewN ?_ _ | refine Below.drew ?_ | refine Below.trans ?_ (Below.mono (by assumption) (by first | omega | (simp; done) | (simp; omega))))⟩
theorem fsmp_m {W : World} {n : Nat} (h : BW W n [.int .i64 0, .int .i64 0, .int .i64 0, .int .i64 17179869184]) (g : BW W (n + 1) [.int .i64 0]) (k : BW W (n + 1 + 1) [.int .i64 4294967296, .int .i64 0, .bool false]) : TrkM W.heap.size W (fsmp n) := by
  refine ⟨⟨by unfold maxLen fsmp; simp, Nat.le_refl _, fun i hi => ?_, fun _ => ⟨n, 0, rfl, h.lt, fun i hi => ?_⟩⟩, ⟨by unfold maxLen fsmp; simp, Nat.le_refl _, fun i hi => ?_, fun _ => ⟨n + 1, 0, rfl, g.lt, fun i hi => ?_⟩⟩, by unfold maxLen fsmp; simp, Nat.le_refl _, fun i hi => ?_, fun _ => ⟨n + 1 + 1, 0, rfl, k.lt, fun i hi => ?_⟩, by unfold In64 fsmp; simp⟩
  · show (Lit.int .i64 (if i = 3 then 17179869184 else 0)).wf = true
    split <;> decide
  · have hi : i < 4 := hi
    match i, hi with
    | 0, _ => exact h.c 0 _ rfl
    | 1, _ => exact h.c 1 _ rfl
    | 2, _ => exact h.c 2 _ rfl
    | 3, _ => exact h.c 3 _ rfl
  · show (Lit.int .i64 0).wf = true
    decide
  · have hi : i < 1 := hi
    obtain rfl : i = 0 := by omega
    exact g.c 0 _ rfl
  · unfold In64 fsmp; simp
  · have hi : i < 1 := hi
    obtain rfl : i = 0 := by omega
    exact ⟨k.c 0 _ rfl, k.c 1 _ rfl, k.c 2 _ rfl⟩
end Go.Proofs.YtjbalpmcnihhpaaDoor

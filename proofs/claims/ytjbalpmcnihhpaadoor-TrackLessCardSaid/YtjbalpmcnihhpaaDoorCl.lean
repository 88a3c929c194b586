/- A track without its last rail, with one lap: numbers. -/
import Derived.Test.YtjbalpmcnihhpaaDoorCk
namespace Go.Proofs.YtjbalpmcnihhpaaDoor
open Go.RowKit
set_option linter.unusedVariables false
set_option linter.unusedSimpArgs false

/-- a track without its last rail, with one lap -/
def lessK (k : Tk) : Tk := ⟨{ k.t with laps := 1, rn := k.t.rn - 1 }, k.L, k.R, k.G⟩
theorem less_few {k : Tk} (h : fewK k) : fewK (lessK k) := by
  obtain ⟨h1, h2, h3, h4, h5⟩ := h
  exact ⟨h1, h2, by show k.t.rn - 1 ≤ 20; omega, h4, fun i hi => h5 i (by have : i < k.t.rn - 1 := hi; omega)⟩
theorem less_m {B : Nat} {w : World} {k : Tk} (K : TkM B w k) : TkM B w (lessK k) :=
  ⟨⟨K.T.H, K.T.G, K.T.km, K.T.kl, K.T.kw, K.T.k, K.T.n⟩, K.L, K.rm, by have := K.rl; show k.t.rn - 1 ≤ k.t.rc; omega, fun h0 => by
    have h0 : 0 < k.t.rn - 1 := h0
    obtain ⟨b, off, e, hb, hc⟩ := K.R (by omega)
    exact ⟨b, off, e, hb, fun i hi => hc i (by have : i < k.t.rn - 1 := hi; omega)⟩, fun i hi => K.Rs i (by have : i < k.t.rn - 1 := hi; omega), K.gm, K.gl, K.gw, K.G, ⟨⟨K.n.1.1, by show In64 1; unfold In64; omega⟩, K.n.2⟩⟩
theorem less_barN (k : Tk) : ∀ m, barN (lessK k) m = barN k m
  | 0 => rfl
  | m + 1 => by
    show barN (lessK k) m + ((k.R m).n - 1) = barN k m + ((k.R m).n - 1)
    rw [less_barN k m]
theorem less_bJ (k : Tk) : ∀ m j, bJ (lessK k) m j = bJ k m j
  | 0, _ => rfl
  | m + 1, j => by
    show (if j < barN (lessK k) m then bJ (lessK k) m j else (m, j - barN (lessK k) m)) = if j < barN k m then bJ k m j else (m, j - barN k m)
    rw [less_barN, less_bJ k m j]
theorem less_bG {k : Tk} {j : Nat} (hj : j < barN k (k.t.rn - 1)) : barG (lessK k) j = barG k j := by
  have e : bJ (lessK k) (k.t.rn - 1) j = bJ k k.t.rn j := by
    rw [less_bJ]
    rcases Nat.eq_zero_or_pos k.t.rn with h | h
    · rw [h]
    · obtain ⟨m, hm⟩ : ∃ m, k.t.rn = m + 1 := ⟨k.t.rn - 1, by omega⟩
      rw [hm] at hj ⊢
      have hj : j < barN k m := hj
      show bJ k m j = if j < barN k m then bJ k m j else (m, j - barN k m)
      rw [if_pos hj]
  show (⟨(k.R (bJ (lessK k) (k.t.rn - 1) j).1).x (bJ (lessK k) (k.t.rn - 1) j).2, (k.R (bJ (lessK k) (k.t.rn - 1) j).1).y (bJ (lessK k) (k.t.rn - 1) j).2, (k.R (bJ (lessK k) (k.t.rn - 1) j).1).x ((bJ (lessK k) (k.t.rn - 1) j).2 + 1), (k.R (bJ (lessK k) (k.t.rn - 1) j).1).y ((bJ (lessK k) (k.t.rn - 1) j).2 + 1), (bJ (lessK k) (k.t.rn - 1) j).1⟩ : Fv) = _
  rw [e]
  rfl
theorem rgt_all {k : Tk} (h : (rgtK k).1 = 0) : ¬ (k.t.rate < 60 ∨ 1024 < k.t.rate) ∧ rightFd k.t = 0 ∧ lineR k.line.n k.line.x k.line.y = 0 ∧ hlfN k.line.n k.line.x k.line.y ∧ (waysE k).1 = 0 ∧ rectP k.t ∧ ∀ j, j < barN k k.t.rn → ¬ behP k j := by
  unfold rgtK at h
  split at h
  · exact absurd h (by decide)
  · rename_i c1
    split at h
    · rename_i c; exact absurd h c
    · rename_i c2
      split at h
      · rename_i c; exact absurd h c
      · rename_i c3
        split at h
        · exact absurd h (by decide)
        · rename_i c4
          split at h
          · rename_i c; exact absurd h c
          · rename_i c5
            split at h
            · exact absurd h (by decide)
            · rename_i c6
              split at h
              · exact absurd h (by decide)
              · rename_i c7
                exact ⟨c1, Decidable.not_not.1 c2, Decidable.not_not.1 c3, Decidable.not_not.1 c4, Decidable.not_not.1 c5, Decidable.not_not.1 c6, Decidable.not_not.1 c7⟩
theorem ways_size {k : Tk} (h : (waysE k).1 = 0) : ¬ 16 < k.t.rn ∧ ¬ (k.t.gn < 1 ∨ 16 < k.t.gn) := by
  obtain ⟨a1, a2⟩ := fstI_is (f := fun i => railE (k.R i)) k.t.rn
  unfold waysE at h
  split at h
  · exact absurd h (by decide)
  · rename_i c0
    split at h
    · rename_i c; exact absurd h (a1 c)
    · split at h
      · exact absurd h (by decide)
      · rename_i c; exact ⟨c0, c⟩
theorem less_right {k : Tk} (h : (rgtK k).1 = 0) : rgtK (lessK k) = (0, 0) := by
  obtain ⟨h1, h2, h3, h4, h5, h6, h7⟩ := rgt_all h
  obtain ⟨s1, s2⟩ := ways_size h5
  obtain ⟨z1, -, z3⟩ := ways_zero h5
  have w : waysE (lessK k) = (0, 0) := ways_ok (k := lessK k) (by show ¬ 16 < k.t.rn - 1; omega) (fun i hi => z1 i (by have : i < k.t.rn - 1 := hi; omega)) s2 z3
  have b : ∀ j, j < barN (lessK k) (lessK k).t.rn → ¬ behP (lessK k) j := fun j hj c => by
    rw [less_barN] at hj
    have hj : j < barN k (k.t.rn - 1) := hj
    refine h7 j (Nat.lt_of_lt_of_le hj (barN_mono k (by omega))) ?_
    have e : behN (lessK k) j = behN k j := by
      unfold behN
      rw [less_bG hj]
      rfl
    unfold behP at c ⊢
    rw [e] at c
    exact c
  have e2 : rightFd (lessK k).t = 0 := h2
  have e6 : rectP (lessK k).t := h6
  unfold rgtK
  rw [if_neg (show ¬ ((lessK k).t.rate < 60 ∨ 1024 < (lessK k).t.rate) from h1), if_neg (fun c => c e2), if_neg (fun c => c h3), if_neg (fun c => c h4), w, if_neg (fun c => c rfl), if_neg (fun c => c e6), if_neg (fun c => c b), if_neg (show ¬ ((lessK k).t.laps < 1 ∨ 100 < (lessK k).t.laps) by show ¬ ((1 : Int) < 1 ∨ (100 : Int) < 1); omega)]
end Go.Proofs.YtjbalpmcnihhpaaDoor

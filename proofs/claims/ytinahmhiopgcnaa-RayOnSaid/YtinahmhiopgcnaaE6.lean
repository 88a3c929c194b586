/- The program's field: shaped, fair, differences. -/
import Derived.Test.YtinahmhiopgcnaaBd
import Derived.Test.YtinahmhiopgcnaaE4
namespace Go.Proofs.Ytinahmhiopgcnaa
open Go.RowKit
set_option linter.unusedVariables false
set_option linter.unusedSimpArgs false

theorem PT.under {w W W' : World} {B C m : Nat} {t : Trk} (Q : PT w W B m t) (h : Below C W W') (hm : m < C) (hw : w.heap.size ≤ C) : PT w W' B m t :=
  ⟨Q.c.below h hm, Q.l.trans (h.mono hw), Q.t.keep h (by have := Q.z; omega), Q.z⟩
set_option maxHeartbeats 4000000 in
theorem fShaped_any (t : Trk) (B : Nat) (w : World) (hB : B ≤ w.heap.size) (K : TrkM B w t) :
    Calls Try.prog 26 #[.agg #[.int .i64 t.rate, .int .i64 t.cell, .int .i64 t.cols, .int .i64 t.rows, .int .i64 t.cx, .int .i64 t.cy, .slice t.H.a t.H.n t.H.c, .slice t.G.a t.G.n t.G.c, .slice t.ka t.kn t.kc, .slice t.la t.ln t.lc, .slice t.ra t.rn t.rc, .slice t.ga t.gn t.gc, .int .i64 t.sx, .int .i64 t.sy, .int .u32 t.head, .int .i64 t.laps]] w fun e w' => e = .returned (.bool (decide (cntP t))) ∧ Below w.heap.size w w' := by
  have Q0 := Lib.hid (PT.new 45 K hB)
  obtain ⟨q, hq⟩ : ∃ q, decide (cntP t) = q := ⟨_, rfl⟩
  rw [hq]
  have NF := Lib.hid (fun (h : ¬ cntP t) => (show false = q by rw [← hq]; exact (decide_eq_false h).symm))
  have NY := Lib.hid (fun (h : cntP t) => (show true = q by rw [← hq]; exact (decide_eq_true h).symm))
  clear hq K
  go_enter Try.func26, Try.ntmps26
  go_wp2_with fail
  refine calls_gen (S := fun W => PT w W B w.heap.size t ∧ (W.cell? ⟨w.heap.size + 1, 0, none⟩ = some (.int .i64 t.cols) ∧ W.cell? ⟨w.heap.size + 1, 1, none⟩ = some (.int .i64 t.rows)) ∧ w.heap.size + 1 < W.heap.size) ⟨Q0.out.step ((Below.refl _ _).alloc (Nat.le_refl _) _), ⟨by go_simp, by go_simp⟩, by simp⟩ (fun W1 hS => ?_)
  have Q1 := Lib.hid hS.1
  refine (fWithinI_any _ 2 2 (fun i => if i = 0 then t.cols else t.rows) 1 64 _ (by omega) (Lie.two hS.2.1.1 hS.2.1.2 hS.2.2)).mono ?_
  rintro e x1 ⟨rfl, rfl⟩
  rw [allW_two]
  clear hS Q0
  by_cases s1 : (1 ≤ t.cols ∧ t.cols ≤ 64) ∧ 1 ≤ t.rows ∧ t.rows ≤ 64
  rotate_left
  · rw [decide_eq_false s1]
    have E := Lib.hid (NF.out (fun k => s1 k.1))
    clear NF NY s1
    go_wp2
    go_ret
    exact ⟨by rw [← E.out]; rfl, Q1.out.l⟩
  rw [decide_eq_true s1]
  obtain ⟨-, c2, c3, -, -, c6, c7, c8⟩ := Q1.out.cs
  have p1 := mul_64 (a := t.cols + 1) (b := t.rows + 1) (by omega) (by omega) (by omega) (by omega)
  have p2 := mul_64 (a := t.cols) (b := t.rows) (by omega) (by omega) (by omega) (by omega)
  obtain ⟨P, hP⟩ : ∃ P, (t.cols + 1) * (t.rows + 1) = P := ⟨_, rfl⟩
  obtain ⟨R, hR⟩ : ∃ P, t.cols * t.rows = P := ⟨_, rfl⟩
  have HP := Lib.hid hP
  have HR := Lib.hid hR
  rw [hP] at p1
  rw [hR] at p2
  obtain ⟨u1, v1⟩ := wrap_in' (n := P) (by unfold In64; omega)
  obtain ⟨u2, v2⟩ := wrap_in' (n := R) (by unfold In64; omega)
  obtain ⟨u3, v3⟩ := wrap_in' (n := t.cols + 1) (by unfold In64; omega)
  obtain ⟨u4, v4⟩ := wrap_in' (n := t.rows + 1) (by unfold In64; omega)
  have S1 := Lib.hid s1
  obtain ⟨⟨a1, a2⟩, a3, a4⟩ := s1
  by_cases s5 : (t.H.n : Int) = P
  rotate_left
  · have E := Lib.hid (NF.out (fun k => s5 (k.2.1.trans HP.out)))
    clear NF NY
    go_wp2
    go_ret
    exact ⟨by rw [← E.out]; rfl, Q1.out.l⟩
  by_cases s6 : (t.G.n : Int) = R
  rotate_left
  · have E := Lib.hid (NF.out (fun k => s6 (k.2.2.1.trans HR.out)))
    clear NF NY
    go_wp2
    go_ret
    exact ⟨by rw [← E.out]; rfl, Q1.out.l⟩
  go_wp2_with fail
  refine calls_gen (S := fun W => PT w W B w.heap.size t ∧ W.cell? ⟨x1.heap.size, 0, none⟩ = some (.int .i64 t.kn) ∧ x1.heap.size < W.heap.size) ⟨Q1.out.step ((Below.refl _ _).alloc (Nat.le_refl _) _), by go_simp, by simp⟩ (fun W2 hS => ?_)
  have Q2 := Lib.hid hS.1
  refine (fWithinI_any _ 1 1 (fun _ => t.kn) 1 8 _ (by omega) (Lie.one hS.2.1 hS.2.2)).mono ?_
  rintro e x2 ⟨rfl, rfl⟩
  rw [allW_one]
  clear hS Q1
  by_cases s7 : (1 : Int) ≤ t.kn ∧ (t.kn : Int) ≤ 8
  rotate_left
  · rw [decide_eq_false s7]
    have E := Lib.hid (NF.out (fun k => s7 ⟨by have := k.2.2.2.1; omega, by have := k.2.2.2.2; omega⟩))
    clear NF NY
    go_wp2
    go_ret
    exact ⟨by rw [← E.out]; rfl, Q2.out.l⟩
  rw [decide_eq_true s7]
  have E := Lib.hid (NY.out ⟨S1.out, s5.trans HP.out.symm, s6.trans HR.out.symm, by omega, by omega⟩)
  clear NF NY
  go_wp2
  go_ret
  exact ⟨by rw [← E.out]; rfl, Q2.out.l⟩
/-- a track's lists, and all below as it was -/
structure KTr (w W : World) (B : Nat) (t : Trk) : Prop where
  t : TrkM B W t
  l : Below w.heap.size w W
  z : B ≤ w.heap.size
theorem KTr.step {w W W' : World} {B : Nat} {t : Trk} (Q : KTr w W B t) (h : Below W.heap.size W W') : KTr w W' B t := ⟨Q.t.keep h (by have := Q.z; have := Q.l.size; omega), Q.l.trans (h.mono Q.l.size), Q.z⟩
set_option maxHeartbeats 4000000 in
theorem fFair_any (t : Trk) (B : Nat) (w : World) (hB : B ≤ w.heap.size) (hk : t.kn ≤ 100) (K : TrkM B w t) :
    Calls Try.prog 58 #[.slice t.ka t.kn t.kc] w fun e w' => e = .returned (.bool (decide (∀ i, i < t.kn → kdQ t i))) ∧ Below w.heap.size w w' := by
  have Q0 := Lib.hid (KTr.mk (w := w) K (Below.refl _ _) hB)
  obtain ⟨q, hq⟩ : ∃ q, decide (∀ i, i < t.kn → kdQ t i) = q := ⟨_, rfl⟩
  rw [hq]
  have NF := Lib.hid (fun (h : ¬ ∀ i, i < t.kn → kdQ t i) => (show false = q by rw [← hq]; exact (decide_eq_false h).symm))
  have NY := Lib.hid (fun (h : ∀ i, i < t.kn → kdQ t i) => (show true = q by rw [← hq]; exact (decide_eq_true h).symm))
  clear hq K hB
  go_enter Try.func58, Try.ntmps58
  go_wp2
  go_loopw [7] (fun i wr => ∃ j : Nat, j ≤ t.kn ∧ i = .int .i64 j ∧ Hid (∀ k, k < j → kdQ t k) ∧ KTr w wr B t) (fun i _ => t.kn - (intOf i).toNat)
  case atStart => exact ⟨0, by omega, rfl, Lib.hid (fun k h => absurd h (by omega)), Q0.out⟩
  case round =>
    obtain ⟨j, hj, rfl, I, hQ⟩ := hrel
    have Q1 := Lib.hid hQ
    clear hQ Q0
    by_cases hlt : j < t.kn
    · obtain ⟨b, off, ha, hb, hcell⟩ := Q1.out.t.k (by omega)
      obtain ⟨d0, d1, d2⟩ := hcell j hlt
      have z0 : (0 : Int) ≤ (j : Int) := by omega
      have z1 : (j : Int) < (t.kn : Int) := by omega
      have NB := Lib.hid (fun (h : ¬ kdQ t j) => NF.out (fun k => h (k j hlt)))
      rw [ha]
      clear hcell hb ha NF
      go_wp2_with fail
      refine calls_gen (S := fun W => KTr w W B t ∧ BW W wr.heap.size [.int .i64 (t.kg j), .int .i64 (t.kd j), .bool (t.ko j)] ∧ W.cell? ⟨wr.heap.size + 1, 0, none⟩ = some (.int .i64 (t.kg j)) ∧ wr.heap.size + 1 < W.heap.size) ⟨(Q1.out.step ((Below.refl _ _).alloc (Nat.le_refl _) _)).step ((Below.refl _ _).alloc (Nat.le_refl _) _), (BW.new wr _ [_, _, _] _ rfl).alloc _, by go_simp, by simp⟩ (fun W1 hS => ?_)
      have Q2 := Lib.hid hS.1
      have A2 := Lib.hid hS.2.1
      refine (fWithinF_any _ 1 1 (fun _ => t.kg j) 0 8589934592 _ (by omega) (Lie.one hS.2.2.1 hS.2.2.2)).mono ?_
      rintro e x1 ⟨rfl, rfl⟩
      rw [allW_one]
      clear hS Q1 d0 d1 d2
      generalize wr.heap.size = n1 at *
      by_cases s1 : 0 ≤ t.kg j ∧ t.kg j ≤ 8589934592
      rotate_left
      · rw [decide_eq_false s1]
        have E := Lib.hid (NB.out (fun k => s1 k.1))
        clear NB NY s1 I
        go_wp2
        go_ret
        exact ⟨by rw [← E.out]; rfl, Q2.out.l⟩
      rw [decide_eq_true s1]
      have a1 := A2.out.c 1 _ rfl
      go_wp2_with fail
      refine calls_gen (S := fun W => KTr w W B t ∧ W.cell? ⟨x1.heap.size, 0, none⟩ = some (.int .i64 (t.kd j)) ∧ x1.heap.size < W.heap.size) ⟨Q2.out.step ((Below.refl _ _).alloc (Nat.le_refl _) _), by go_simp, by simp⟩ (fun W2 hS => ?_)
      have Q3 := Lib.hid hS.1
      refine (fWithinF_any _ 1 1 (fun _ => t.kd j) 0 4294967296 _ (by omega) (Lie.one hS.2.1 hS.2.2)).mono ?_
      rintro e x2 ⟨rfl, rfl⟩
      rw [allW_one]
      clear hS Q2 a1 A2
      by_cases s2 : 0 ≤ t.kd j ∧ t.kd j ≤ 4294967296
      rotate_left
      · rw [decide_eq_false s2]
        have E := Lib.hid (NB.out (fun k => s2 k.2))
        clear NB NY s1 s2 I
        go_wp2
        go_ret
        exact ⟨by rw [← E.out]; rfl, Q3.out.l⟩
      rw [decide_eq_true s2]
      have I2 := Lib.hid (all_nx (P := fun k => kdQ t k) I.out ⟨s1, s2⟩)
      clear I NB NY s1 s2
      go_wp2
      go_roundw
      case rel => exact ⟨j + 1, by omega, by go_num, I2, Q3.out⟩
      case measure => simp [intOf]; omega
    · have E := Lib.hid (NY.out (fun k hk => I.out k (by omega)))
      have z1 : ¬ (j : Int) < (t.kn : Int) := by omega
      clear I NF NY
      go_wp2
      go_ret
      exact ⟨by rw [← E.out]; rfl, Q1.out.l⟩
end Go.Proofs.Ytinahmhiopgcnaa

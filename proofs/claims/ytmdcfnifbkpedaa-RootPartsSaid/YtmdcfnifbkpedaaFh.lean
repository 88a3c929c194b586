/- The contract of the document's Add. -/
import Derived.Test.YtmdcfnifbkpedaaFg
import Derived.Test.YtmdcfnifbkpedaaFu
import Derived.Test.YtmdcfnifbkpedaaL0
namespace Go.Proofs.Ytmdcfnifbkpedaa
open Go.RowKit

theorem add_same {a b : Int} (_ha : In128 a) (_hb : In128 b) (s : (decide (a < 0) == decide (b < 0)) = true) : sgnW (decide (a < 0)) ((a.natAbs : Int) + b.natAbs) = a + b := by
  unfold sgnW
  by_cases p : a < 0 <;> by_cases q : b < 0 <;> simp [p, q] at s ⊢ <;> omega
theorem add_form {a b m : Int} (h : sgnW (decide (a < 0)) m = a + b) (m0 : 0 ≤ m) (nz : a + b ≠ 0) : decide (a + b < 0) = decide (a < 0) ∧ ((a + b).natAbs : Int) = m := by
  unfold sgnW at h
  by_cases p : a < 0
  · simp [p] at h ⊢; omega
  · simp [p] at h ⊢; omega
theorem clip_none {n : Int} (h : fitW n = false) : clipW n = 0 := by
  unfold fitW at h; unfold clipW; rw [if_neg (of_decide_eq_false h)]
theorem clip_some {n : Int} (h : fitW n = true) : clipW n = n := by
  unfold fitW at h; unfold clipW; rw [if_pos (of_decide_eq_true h)]
/-- five cells of block n are there -/
structure Some5 (w : World) (n : Nat) : Prop where
  c0 : ∃ v, w.cell? ⟨n, 0, none⟩ = some v
  c1 : ∃ v, w.cell? ⟨n, 1, none⟩ = some v
  c2 : ∃ v, w.cell? ⟨n, 2, none⟩ = some v
  c3 : ∃ v, w.cell? ⟨n, 3, none⟩ = some v
  c4 : ∃ v, w.cell? ⟨n, 4, none⟩ = some v
theorem some_set {w : World} {p a : Addr} {u : Value} (k : ∃ v, w.cell? a = some v) : ∃ v, (w.setCell p u).cell? a = some v := by
  obtain ⟨v, hv⟩ := k
  by_cases h : p = a
  · subst h; exact ⟨u, World.cell?_setCell_same _ _ _ hv⟩
  · exact ⟨v, (World.cell?_setCell_other _ _ _ _ h).trans hv⟩
theorem Some5.set {w : World} {n : Nat} (k : Some5 w n) (p : Addr) (u : Value) : Some5 (w.setCell p u) n := ⟨some_set k.c0, some_set k.c1, some_set k.c2, some_set k.c3, some_set k.c4⟩
theorem Some5.below {B : Nat} {w w' : World} {n : Nat} (k : Some5 w n) (hb : Below B w w') (hn : n < B) : Some5 w' n := ⟨below_some hb hn k.c0, below_some hb hn k.c1, below_some hb hn k.c2, below_some hb hn k.c3, below_some hb hn k.c4⟩
theorem Some5.alloc {w : World} {n : Nat} (k : Some5 w n) (hn : n < w.heap.size) (o : Obj) : Some5 (w.alloc o) n := k.below (B := w.heap.size) ((Below.refl _ _).alloc (Nat.le_refl _) o) hn
theorem Some5.new (w : World) (a b c d e : Value) (t : TypeId) : Some5 (w.alloc (.cells #[a, b, c, d, e] t)) w.heap.size :=
  ⟨⟨a, World.cell?_alloc_new w _ t 0⟩, ⟨b, World.cell?_alloc_new w _ t 1⟩, ⟨c, World.cell?_alloc_new w _ t 2⟩, ⟨d, World.cell?_alloc_new w _ t 3⟩, ⟨e, World.cell?_alloc_new w _ t 4⟩⟩
set_option maxHeartbeats 4000000 in
set_option maxRecDepth 100000 in
theorem rAdd_same (a b : Int) (w : World) (ha : In128 a) (hb : In128 b) (s : (decide (a < 0) == decide (b < 0)) = true) (nz : a + b ≠ 0) (fit : (a.natAbs : Int) + b.natAbs < 340282366920938463463374607431768211456) :
    Calls Try.prog 45 #[.agg #[.bool (decide (a < 0)), .int .u64 (d0 (a.natAbs)), .int .u64 (d1 (a.natAbs)), .int .u64 (d2 (a.natAbs)), .int .u64 (d3 (a.natAbs))], .agg #[.bool (decide (b < 0)), .int .u64 (d0 (b.natAbs)), .int .u64 (d1 (b.natAbs)), .int .u64 (d2 (b.natAbs)), .int .u64 (d3 (b.natAbs))]] w fun e w' => e = .returned (.tuple #[.agg #[.bool (decide (clipW (a + b) < 0)), .int .u64 (d0 ((clipW (a + b)).natAbs)), .int .u64 (d1 ((clipW (a + b)).natAbs)), .int .u64 (d2 ((clipW (a + b)).natAbs)), .int .u64 (d3 ((clipW (a + b)).natAbs))], .bool (fitW (a + b))]) ∧ Below w.heap.size w w' := by
  have A := abs128 ha
  have B := abs128 hb
  have pm : ((a.natAbs : Int) + b.natAbs) % 340282366920938463463374607431768211456 = (a.natAbs : Int) + b.natAbs := by omega
  have pd : ((a.natAbs : Int) + b.natAbs) / 340282366920938463463374607431768211456 = 0 := by omega
  have SG := Lib.hid (add_same ha hb s)
  obtain ⟨m, hm⟩ : ∃ m : Int, (a.natAbs : Int) + b.natAbs = m := ⟨_, rfl⟩
  rw [hm] at pm pd SG
  have m0 : 0 ≤ m := by omega
  have m1 : m < 340282366920938463463374607431768211456 := by omega
  have zz : decide (m = 0) = false := by rw [decide_eq_false_iff_not]; unfold sgnW at SG; omega
  have NV := Lib.hid (show decide (a + b < 0) = decide (a < 0) ∧ ((a + b).natAbs : Int) = m from add_form SG.out m0 nz)
  have PM := Lib.hid pm
  have PD := Lib.hid pd
  have M1 := Lib.hid m1
  have HM := Lib.hid hm
  have HA := Lib.hid A
  have HB := Lib.hid B
  clear pm pd m1 hm A B fit
  go_enter Try.func45, Try.ntmps45
  go_wp2_with fail
  refine (rplus_any _ _ _ HA.out.1 HA.out.2 HB.out.1 HB.out.2).mono ?_
  rw [HM.out, PM.out, PD.out]
  rintro e w1 ⟨rfl, hb1⟩
  obtain ⟨hc_w1, hf_w1⟩ := bcell hb1
  have z_w1 := hb1.size
  try simp at z_w1
  have z0_w1 : w.heap.size < w1.heap.size := by omega
  have z1_w1 : w.heap.size + 1 < w1.heap.size := by omega
  have z2_w1 : w.heap.size + 1 + 1 < w1.heap.size := by omega
  have z3_w1 : w.heap.size + 1 + 1 + 1 < w1.heap.size := by omega
  have y_w1 : w.heap.size ≤ w1.heap.size := by omega
  have R1 : Some5 w1 (w.heap.size + 1 + 1) := by
    have := Some5.new ((w.alloc (.cells #[.bool (decide (a < 0)), .int .u64 (d0 a.natAbs), .int .u64 (d1 a.natAbs), .int .u64 (d2 a.natAbs), .int .u64 (d3 a.natAbs)] 30)).alloc (.cells #[.bool (decide (b < 0)), .int .u64 (d0 b.natAbs), .int .u64 (d1 b.natAbs), .int .u64 (d2 b.natAbs), .int .u64 (d3 b.natAbs)] 30)) (.bool false) (.int .u64 0) (.int .u64 0) (.int .u64 0) (.int .u64 0) 30
    simp only [World.size_alloc] at this
    exact (this.alloc (by simp) _).below hb1 (by simp)
  go_wp2_with fail
  refine (Zero_any _ _ _ m0 M1.out).mono ?_
  rw [zz]
  rintro e w2 ⟨rfl, hb2⟩
  obtain ⟨hc_w2, hf_w2⟩ := bcell hb2
  have z_w2 := hb2.size
  try simp at z_w2
  have z0_w2 : w.heap.size < w2.heap.size := by omega
  have z1_w2 : w.heap.size + 1 < w2.heap.size := by omega
  have z2_w2 : w.heap.size + 1 + 1 < w2.heap.size := by omega
  have z3_w2 : w.heap.size + 1 + 1 + 1 < w2.heap.size := by omega
  have y_w2 : w.heap.size ≤ w2.heap.size := by omega
  go_wp2_with fail
  refine (Words_any _ _ _ m0 M1.out).mono ?_
  rw [SG.out]
  rintro e w3 ⟨rfl, hb3⟩
  obtain ⟨hc_w3, hf_w3⟩ := bcell hb3
  have z_w3 := hb3.size
  try simp at z_w3
  have z0_w3 : w.heap.size < w3.heap.size := by omega
  have z1_w3 : w.heap.size + 1 < w3.heap.size := by omega
  have z2_w3 : w.heap.size + 1 + 1 < w3.heap.size := by omega
  have z3_w3 : w.heap.size + 1 + 1 + 1 < w3.heap.size := by omega
  have y_w3 : w.heap.size ≤ w3.heap.size := by omega
  have R3 : Some5 w3 (w.heap.size + 1 + 1) := by
    refine Some5.below (Some5.below ?_ hb2 (by simp; omega)) hb3 (by omega)
    refine Some5.alloc ?_ (by simp [World.setCell]; omega) _
    repeat (refine Some5.set ?_ _ _)
    exact R1
  obtain ⟨⟨v0, t0⟩, ⟨v1, t1⟩, ⟨v2, t2⟩, ⟨v3, t3⟩, ⟨v4, t4⟩⟩ := R3
  cases hF : fitW (a + b) with
  | false =>
    go_wp2
    refine bodyPost_ret (v := .tuple #[.agg #[.bool false, .int .u64 0, .int .u64 0, .int .u64 0, .int .u64 0], .bool false]) (by simp [results, Try.results45, go_sem, t0, t1, t2, t3, t4]) rfl ⟨by rw [clip_none hF]; first | rfl | (rw [hF]; rfl), by repeat (first | with_reducible refine Below.setCell ?_ (by first | omega | (simp; done) | (simp; omega)) _ | with_reducible refine Below.alloc ?_ (by first | omega | (simp; done) | (simp; omega)) _ | with_reducible refine below_drewN ?_ _ | with_reducible refine Below.drew ?_ | with_reducible exact Below.refl _ _ | with_reducible assumption | with_reducible refine Below.trans ?_ (Below.mono (by assumption) (by first | omega | (simp; done) | (simp; omega))))⟩
  | true =>
    go_wp2
    refine bodyPost_ret (v := .tuple #[.agg #[.bool (decide (a < 0)), .int .u64 (d0 m), .int .u64 (d1 m), .int .u64 (d2 m), .int .u64 (d3 m)], .bool true]) (by simp [results, Try.results45, go_sem, t0, t1, t2, t3, t4]) rfl ⟨by rw [clip_some hF, NV.out.1, NV.out.2]; first | rfl | rw [hF], by repeat (first | with_reducible refine Below.setCell ?_ (by first | omega | (simp; done) | (simp; omega)) _ | with_reducible refine Below.alloc ?_ (by first | omega | (simp; done) | (simp; omega)) _ | with_reducible refine below_drewN ?_ _ | with_reducible refine Below.drew ?_ | with_reducible exact Below.refl _ _ | with_reducible assumption | with_reducible refine Below.trans ?_ (Below.mono (by assumption) (by first | omega | (simp; done) | (simp; omega))))⟩
end Go.Proofs.Ytmdcfnifbkpedaa

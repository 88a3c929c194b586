/- The contract of the document's Cmp. -/
import Derived.Test.YtjilgfgchmdppaaFc
namespace Go.Proofs.Ytjilgfgchmdppaa
open Go.RowKit

structure CellN (w : World) (n : Nat) (b : Bool) (m : Int) : Prop where
  c0 : w.cell? ⟨n, 0, none⟩ = some (.bool b)
  c1 : w.cell? ⟨n, 1, none⟩ = some (.int .u64 (d0 m))
  c2 : w.cell? ⟨n, 2, none⟩ = some (.int .u64 (d1 m))
  c3 : w.cell? ⟨n, 3, none⟩ = some (.int .u64 (d2 m))
  c4 : w.cell? ⟨n, 4, none⟩ = some (.int .u64 (d3 m))
theorem CellN.new (w : World) (b : Bool) (m : Int) (t : TypeId) : CellN (w.alloc (.cells #[.bool b, .int .u64 (d0 m), .int .u64 (d1 m), .int .u64 (d2 m), .int .u64 (d3 m)] t)) w.heap.size b m :=
  ⟨World.cell?_alloc_new w _ t 0, World.cell?_alloc_new w _ t 1, World.cell?_alloc_new w _ t 2, World.cell?_alloc_new w _ t 3, World.cell?_alloc_new w _ t 4⟩
theorem CellN.below {B : Nat} {w w' : World} {n : Nat} {b : Bool} {m : Int} (k : CellN w n b m) (hb : Below B w w') (hn : n < B) : CellN w' n b m :=
  ⟨(hb.cell (p := ⟨n, 0, none⟩) hn).trans k.c0, (hb.cell (p := ⟨n, 1, none⟩) hn).trans k.c1, (hb.cell (p := ⟨n, 2, none⟩) hn).trans k.c2, (hb.cell (p := ⟨n, 3, none⟩) hn).trans k.c3, (hb.cell (p := ⟨n, 4, none⟩) hn).trans k.c4⟩
theorem CellN.alloc {w : World} {n : Nat} {b : Bool} {m : Int} (k : CellN w n b m) (hn : n < w.heap.size) (o : Obj) : CellN (w.alloc o) n b m :=
  k.below (B := w.heap.size) ((Below.refl _ _).alloc (Nat.le_refl _) o) hn

theorem startN {B : Nat} {w W : World} {n m : Nat} {b c : Bool} {x y : Int} (A : CellN W n b x) (C : CellN W m c y) (g : n < W.heap.size) (i : m < W.heap.size) (z : B ≤ W.heap.size) (k : Below B w W) :
    (W.cell? ⟨n, 0, none⟩ = some (.bool (b)) ∧ W.cell? ⟨n, 1, none⟩ = some (.int .u64 (d0 (x))) ∧ W.cell? ⟨n, 2, none⟩ = some (.int .u64 (d1 (x))) ∧ W.cell? ⟨n, 3, none⟩ = some (.int .u64 (d2 (x))) ∧ W.cell? ⟨n, 4, none⟩ = some (.int .u64 (d3 (x)))) ∧ (W.cell? ⟨m, 0, none⟩ = some (.bool (c)) ∧ W.cell? ⟨m, 1, none⟩ = some (.int .u64 (d0 (y))) ∧ W.cell? ⟨m, 2, none⟩ = some (.int .u64 (d1 (y))) ∧ W.cell? ⟨m, 3, none⟩ = some (.int .u64 (d2 (y))) ∧ W.cell? ⟨m, 4, none⟩ = some (.int .u64 (d3 (y)))) ∧ n < W.heap.size ∧ m < W.heap.size ∧ B ≤ W.heap.size ∧ Below B w W :=
  ⟨⟨A.c0, A.c1, A.c2, A.c3, A.c4⟩, ⟨C.c0, C.c1, C.c2, C.c3, C.c4⟩, g, i, z, k⟩
theorem keepN {B : Nat} {w W W' : World} {n m : Nat} {b c : Bool} {x y : Int} (hb : Below W.heap.size W W')
    (h : (W.cell? ⟨n, 0, none⟩ = some (.bool (b)) ∧ W.cell? ⟨n, 1, none⟩ = some (.int .u64 (d0 (x))) ∧ W.cell? ⟨n, 2, none⟩ = some (.int .u64 (d1 (x))) ∧ W.cell? ⟨n, 3, none⟩ = some (.int .u64 (d2 (x))) ∧ W.cell? ⟨n, 4, none⟩ = some (.int .u64 (d3 (x)))) ∧ (W.cell? ⟨m, 0, none⟩ = some (.bool (c)) ∧ W.cell? ⟨m, 1, none⟩ = some (.int .u64 (d0 (y))) ∧ W.cell? ⟨m, 2, none⟩ = some (.int .u64 (d1 (y))) ∧ W.cell? ⟨m, 3, none⟩ = some (.int .u64 (d2 (y))) ∧ W.cell? ⟨m, 4, none⟩ = some (.int .u64 (d3 (y)))) ∧ n < W.heap.size ∧ m < W.heap.size ∧ B ≤ W.heap.size ∧ Below B w W) :
    (W'.cell? ⟨n, 0, none⟩ = some (.bool (b)) ∧ W'.cell? ⟨n, 1, none⟩ = some (.int .u64 (d0 (x))) ∧ W'.cell? ⟨n, 2, none⟩ = some (.int .u64 (d1 (x))) ∧ W'.cell? ⟨n, 3, none⟩ = some (.int .u64 (d2 (x))) ∧ W'.cell? ⟨n, 4, none⟩ = some (.int .u64 (d3 (x)))) ∧ (W'.cell? ⟨m, 0, none⟩ = some (.bool (c)) ∧ W'.cell? ⟨m, 1, none⟩ = some (.int .u64 (d0 (y))) ∧ W'.cell? ⟨m, 2, none⟩ = some (.int .u64 (d1 (y))) ∧ W'.cell? ⟨m, 3, none⟩ = some (.int .u64 (d2 (y))) ∧ W'.cell? ⟨m, 4, none⟩ = some (.int .u64 (d3 (y)))) ∧ n < W'.heap.size ∧ m < W'.heap.size ∧ B ≤ W'.heap.size ∧ Below B w W' := by
  obtain ⟨⟨a0, a1, a2, a3, a4⟩, ⟨c0, c1, c2, c3, c4⟩, g, i, z, k⟩ := h
  have A : CellN W n b x := ⟨a0, a1, a2, a3, a4⟩
  have C : CellN W m c y := ⟨c0, c1, c2, c3, c4⟩
  have := hb.size
  exact startN (A.below hb g) (C.below hb i) (by omega) (by omega) (by omega) (k.trans (hb.mono z))
theorem endN {B : Nat} {w W : World} {n m : Nat} {b c : Bool} {x y : Int} (h : (W.cell? ⟨n, 0, none⟩ = some (.bool (b)) ∧ W.cell? ⟨n, 1, none⟩ = some (.int .u64 (d0 (x))) ∧ W.cell? ⟨n, 2, none⟩ = some (.int .u64 (d1 (x))) ∧ W.cell? ⟨n, 3, none⟩ = some (.int .u64 (d2 (x))) ∧ W.cell? ⟨n, 4, none⟩ = some (.int .u64 (d3 (x)))) ∧ (W.cell? ⟨m, 0, none⟩ = some (.bool (c)) ∧ W.cell? ⟨m, 1, none⟩ = some (.int .u64 (d0 (y))) ∧ W.cell? ⟨m, 2, none⟩ = some (.int .u64 (d1 (y))) ∧ W.cell? ⟨m, 3, none⟩ = some (.int .u64 (d2 (y))) ∧ W.cell? ⟨m, 4, none⟩ = some (.int .u64 (d3 (y)))) ∧ n < W.heap.size ∧ m < W.heap.size ∧ B ≤ W.heap.size ∧ Below B w W) : Below B w W := h.2.2.2.2.2

theorem eq_digits (a0 a1 a2 a3 b0 b1 b2 b3 : Int) (w : World) :
    (Op.equalIn 10000 27 (.agg #[.int .u64 a0, .int .u64 a1, .int .u64 a2, .int .u64 a3]) (.agg #[.int .u64 b0, .int .u64 b1, .int .u64 b2, .int .u64 b3])).run Try.prog w = .ok (a0 == b0 && a1 == b1 && a2 == b2 && a3 == b3) w := by
  have u3 := Try.underlying23
  have a3' := Try.isAgg23
  have z3 := Try.sizeOf23
  rw [show (10000 : Nat) = 9999 + 1 from rfl, Op.equalIn]
  simp only [Sem.run_bind, run_underlying Try.underlying27, Result.andThen_ok]
  simp only [Std.Legacy.Range.forIn_eq_forIn_range', Std.Legacy.Range.size, Nat.sub_zero, Nat.add_sub_cancel, Nat.div_one, List.range'_succ, List.range'_zero, List.forIn_cons, List.forIn_nil]
  go_simp
  by_cases h0 : a0 = b0 <;> by_cases h1 : a1 = b1 <;> by_cases h2 : a2 = b2 <;> by_cases h3 : a3 = b3 <;> simp [h0, h1, h2, h3]
theorem digits_ne {m k : Int} (m0 : 0 ≤ m) (m1 : m < 340282366920938463463374607431768211456) (k0 : 0 ≤ k) (k1 : k < 340282366920938463463374607431768211456) (h : m ≠ k) : (d0 m == d0 k && d1 m == d1 k && d2 m == d2 k && d3 m == d3 k) = false := by
  rw [Bool.eq_false_iff]
  intro c
  simp at c
  unfold d0 d1 d2 d3 at c
  omega
theorem same_gt {a b : Int} (s : cmpI a 0 = cmpI b 0) (e : ¬ a.natAbs = b.natAbs) (n : (decide ((a.natAbs : Int) < b.natAbs) == decide (a < 0)) = true) : 1 = cmpI a b := by
  have hs : (a = 0 ↔ b = 0) ∧ (a < 0 ↔ b < 0) := by
    unfold cmpI at s; split at s <;> split at s <;> (try split at s) <;> (try split at s) <;> omega
  by_cases p : a < 0 <;> by_cases q : (a.natAbs : Int) < b.natAbs <;> simp [p, q] at n <;> unfold cmpI <;> rw [if_neg (by omega), if_neg (by omega)]
theorem same_lt {a b : Int} (s : cmpI a 0 = cmpI b 0) (e : ¬ a.natAbs = b.natAbs) (n : (decide ((a.natAbs : Int) < b.natAbs) == decide (a < 0)) = false) : -1 = cmpI a b := by
  have hs : (a = 0 ↔ b = 0) ∧ (a < 0 ↔ b < 0) := by
    unfold cmpI at s; split at s <;> split at s <;> (try split at s) <;> (try split at s) <;> omega
  by_cases p : a < 0 <;> by_cases q : (a.natAbs : Int) < b.natAbs <;> simp [p, q] at n <;> unfold cmpI <;> rw [if_neg (by omega), if_pos (by omega)]
set_option maxHeartbeats 4000000 in
theorem rCmp_any (a b : Int) (w : World) (ha : In128 a) (hb : In128 b) :
    Calls Try.prog 24 #[.agg #[.bool (decide (a < 0)), .int .u64 (d0 (a.natAbs)), .int .u64 (d1 (a.natAbs)), .int .u64 (d2 (a.natAbs)), .int .u64 (d3 (a.natAbs))], .agg #[.bool (decide (b < 0)), .int .u64 (d0 (b.natAbs)), .int .u64 (d1 (b.natAbs)), .int .u64 (d2 (b.natAbs)), .int .u64 (d3 (b.natAbs))]] w fun e w' => e = .returned (.int .i64 (cmpI a b)) ∧ Below w.heap.size w w' := by
  have A := abs128 ha
  have B := abs128 hb
  by_cases s : cmpI a 0 = cmpI b 0
  · have t : (cmpI a 0 != cmpI b 0) = false := by simp [s]
    by_cases e : a.natAbs = b.natAbs
    · have ab : a = b := by unfold cmpI at s; split at s <;> split at s <;> (try split at s) <;> (try split at s) <;> omega
      subst ab
      have K := Lib.hid (show 0 = cmpI a a by unfold cmpI; rw [if_pos rfl])
      clear s e
      have hE := fun w => eq_digits (d0 a.natAbs) (d1 a.natAbs) (d2 a.natAbs) (d3 a.natAbs) (d0 a.natAbs) (d1 a.natAbs) (d2 a.natAbs) (d3 a.natAbs) w
      go_enter Try.func24, Try.ntmps24
      go_wp2_with fail
      have HS := Lib.hid (startN (B := w.heap.size) (w := w) ((CellN.new w (decide (a < 0)) a.natAbs 29).alloc (by simp) (.cells #[.bool (decide (a < 0)), .int .u64 (d0 a.natAbs), .int .u64 (d1 a.natAbs), .int .u64 (d2 a.natAbs), .int .u64 (d3 a.natAbs)] 29))
        (by have := CellN.new (w.alloc (.cells #[.bool (decide (a < 0)), .int .u64 (d0 a.natAbs), .int .u64 (d1 a.natAbs), .int .u64 (d2 a.natAbs), .int .u64 (d3 a.natAbs)] 29)) (decide (a < 0)) a.natAbs 29; simpa using this) (by simp; omega) (by simp) (by simp; omega) (by repeat (first | exact Below.refl _ _ | assumption | refine Below.setCell ?_ (by first | omega | (simp; done) | (simp; omega)) _ | refine Below.alloc ?_ (by first | omega | (simp; done) | (simp; omega)) _ | refine below_drewN ?_ _ | refine Below.drew ?_ | refine Below.trans ?_ (Below.mono (by assumption) (by first | omega | (simp; done) | (simp; omega))))))
      go_region_held3 (fun W => (W.cell? ⟨w.heap.size, 0, none⟩ = some (.bool (decide (a < 0))) ∧ W.cell? ⟨w.heap.size, 1, none⟩ = some (.int .u64 (d0 (a.natAbs))) ∧ W.cell? ⟨w.heap.size, 2, none⟩ = some (.int .u64 (d1 (a.natAbs))) ∧ W.cell? ⟨w.heap.size, 3, none⟩ = some (.int .u64 (d2 (a.natAbs))) ∧ W.cell? ⟨w.heap.size, 4, none⟩ = some (.int .u64 (d3 (a.natAbs)))) ∧ (W.cell? ⟨w.heap.size + 1, 0, none⟩ = some (.bool (decide (a < 0))) ∧ W.cell? ⟨w.heap.size + 1, 1, none⟩ = some (.int .u64 (d0 (a.natAbs))) ∧ W.cell? ⟨w.heap.size + 1, 2, none⟩ = some (.int .u64 (d1 (a.natAbs))) ∧ W.cell? ⟨w.heap.size + 1, 3, none⟩ = some (.int .u64 (d2 (a.natAbs))) ∧ W.cell? ⟨w.heap.size + 1, 4, none⟩ = some (.int .u64 (d3 (a.natAbs)))) ∧ w.heap.size < W.heap.size ∧ w.heap.size + 1 < W.heap.size ∧ w.heap.size ≤ W.heap.size ∧ Below w.heap.size w W)
        (first | exact keepN ((Below.refl _ _).drew) HS.out | exact keepN ((Below.refl _ _).drew) (by assumption) | exact keepN hb (by assumption))
        (first
          | (go_at_call 26; refine (rSign_any _ _ (by assumption)).mono ?_; rintro e w' ⟨rfl, hb⟩)
          | (go_at_call 38; refine (less_any _ _ _ A.1 A.2 B.1 B.2).mono ?_; rintro e w' ⟨rfl, hb⟩))
      go_wp2
      go_ret
      exact ⟨retI K.out, endN (by assumption)⟩
    · have hE := fun w => eq_digits (d0 a.natAbs) (d1 a.natAbs) (d2 a.natAbs) (d3 a.natAbs) (d0 b.natAbs) (d1 b.natAbs) (d2 b.natAbs) (d3 b.natAbs) w
      rw [digits_ne A.1 A.2 B.1 B.2 (by omega)] at hE
      by_cases n : (decide ((a.natAbs : Int) < b.natAbs) == decide (a < 0)) = true
      · have K := Lib.hid (same_gt s e n)
        have n2 : (a.natAbs : Int) < b.natAbs ↔ a < 0 := by simpa using n
        clear s e n
        go_enter Try.func24, Try.ntmps24
        go_wp2_with fail
        have HS := Lib.hid (startN (B := w.heap.size) (w := w) ((CellN.new w (decide (a < 0)) a.natAbs 29).alloc (by simp) (.cells #[.bool (decide (b < 0)), .int .u64 (d0 b.natAbs), .int .u64 (d1 b.natAbs), .int .u64 (d2 b.natAbs), .int .u64 (d3 b.natAbs)] 29))
          (by have := CellN.new (w.alloc (.cells #[.bool (decide (a < 0)), .int .u64 (d0 a.natAbs), .int .u64 (d1 a.natAbs), .int .u64 (d2 a.natAbs), .int .u64 (d3 a.natAbs)] 29)) (decide (b < 0)) b.natAbs 29; simpa using this) (by simp; omega) (by simp) (by simp; omega) (by repeat (first | exact Below.refl _ _ | assumption | refine Below.setCell ?_ (by first | omega | (simp; done) | (simp; omega)) _ | refine Below.alloc ?_ (by first | omega | (simp; done) | (simp; omega)) _ | refine below_drewN ?_ _ | refine Below.drew ?_ | refine Below.trans ?_ (Below.mono (by assumption) (by first | omega | (simp; done) | (simp; omega))))))
        go_region_held3 (fun W => (W.cell? ⟨w.heap.size, 0, none⟩ = some (.bool (decide (a < 0))) ∧ W.cell? ⟨w.heap.size, 1, none⟩ = some (.int .u64 (d0 (a.natAbs))) ∧ W.cell? ⟨w.heap.size, 2, none⟩ = some (.int .u64 (d1 (a.natAbs))) ∧ W.cell? ⟨w.heap.size, 3, none⟩ = some (.int .u64 (d2 (a.natAbs))) ∧ W.cell? ⟨w.heap.size, 4, none⟩ = some (.int .u64 (d3 (a.natAbs)))) ∧ (W.cell? ⟨w.heap.size + 1, 0, none⟩ = some (.bool (decide (b < 0))) ∧ W.cell? ⟨w.heap.size + 1, 1, none⟩ = some (.int .u64 (d0 (b.natAbs))) ∧ W.cell? ⟨w.heap.size + 1, 2, none⟩ = some (.int .u64 (d1 (b.natAbs))) ∧ W.cell? ⟨w.heap.size + 1, 3, none⟩ = some (.int .u64 (d2 (b.natAbs))) ∧ W.cell? ⟨w.heap.size + 1, 4, none⟩ = some (.int .u64 (d3 (b.natAbs)))) ∧ w.heap.size < W.heap.size ∧ w.heap.size + 1 < W.heap.size ∧ w.heap.size ≤ W.heap.size ∧ Below w.heap.size w W)
          (first | exact keepN ((Below.refl _ _).drew) HS.out | exact keepN ((Below.refl _ _).drew) (by assumption) | exact keepN hb (by assumption))
          (first
            | (go_at_call 26; refine (rSign_any _ _ (by assumption)).mono ?_; rintro e w' ⟨rfl, hb⟩)
            | (go_at_call 38; refine (less_any _ _ _ A.1 A.2 B.1 B.2).mono ?_; rintro e w' ⟨rfl, hb⟩))
        go_wp2
        go_region_held3 (fun W => (W.cell? ⟨w.heap.size, 0, none⟩ = some (.bool (decide (a < 0))) ∧ W.cell? ⟨w.heap.size, 1, none⟩ = some (.int .u64 (d0 (a.natAbs))) ∧ W.cell? ⟨w.heap.size, 2, none⟩ = some (.int .u64 (d1 (a.natAbs))) ∧ W.cell? ⟨w.heap.size, 3, none⟩ = some (.int .u64 (d2 (a.natAbs))) ∧ W.cell? ⟨w.heap.size, 4, none⟩ = some (.int .u64 (d3 (a.natAbs)))) ∧ (W.cell? ⟨w.heap.size + 1, 0, none⟩ = some (.bool (decide (b < 0))) ∧ W.cell? ⟨w.heap.size + 1, 1, none⟩ = some (.int .u64 (d0 (b.natAbs))) ∧ W.cell? ⟨w.heap.size + 1, 2, none⟩ = some (.int .u64 (d1 (b.natAbs))) ∧ W.cell? ⟨w.heap.size + 1, 3, none⟩ = some (.int .u64 (d2 (b.natAbs))) ∧ W.cell? ⟨w.heap.size + 1, 4, none⟩ = some (.int .u64 (d3 (b.natAbs)))) ∧ w.heap.size < W.heap.size ∧ w.heap.size + 1 < W.heap.size ∧ w.heap.size ≤ W.heap.size ∧ Below w.heap.size w W)
          (first | exact keepN ((Below.refl _ _).drew) HS.out | exact keepN ((Below.refl _ _).drew) (by assumption) | exact keepN hb (by assumption))
          (first
            | (go_at_call 26; refine (rSign_any _ _ (by assumption)).mono ?_; rintro e w' ⟨rfl, hb⟩)
            | (go_at_call 38; refine (less_any _ _ _ A.1 A.2 B.1 B.2).mono ?_; rintro e w' ⟨rfl, hb⟩))
        go_wp2
        go_ret
        exact ⟨retI K.out, endN (by assumption)⟩
      · have n' : (decide ((a.natAbs : Int) < b.natAbs) == decide (a < 0)) = false := by simpa using n
        have K := Lib.hid (same_lt s e n')
        have n2 : (decide (a.natAbs < b.natAbs) == decide (a < 0)) = false := by rw [← n']; congr 2; apply propext; omega
        clear s e n n'
        go_enter Try.func24, Try.ntmps24
        go_wp2_with fail
        have HS := Lib.hid (startN (B := w.heap.size) (w := w) ((CellN.new w (decide (a < 0)) a.natAbs 29).alloc (by simp) (.cells #[.bool (decide (b < 0)), .int .u64 (d0 b.natAbs), .int .u64 (d1 b.natAbs), .int .u64 (d2 b.natAbs), .int .u64 (d3 b.natAbs)] 29))
          (by have := CellN.new (w.alloc (.cells #[.bool (decide (a < 0)), .int .u64 (d0 a.natAbs), .int .u64 (d1 a.natAbs), .int .u64 (d2 a.natAbs), .int .u64 (d3 a.natAbs)] 29)) (decide (b < 0)) b.natAbs 29; simpa using this) (by simp; omega) (by simp) (by simp; omega) (by repeat (first | exact Below.refl _ _ | assumption | refine Below.setCell ?_ (by first | omega | (simp; done) | (simp; omega)) _ | refine Below.alloc ?_ (by first | omega | (simp; done) | (simp; omega)) _ | refine below_drewN ?_ _ | refine Below.drew ?_ | refine Below.trans ?_ (Below.mono (by assumption) (by first | omega | (simp; done) | (simp; omega))))))
        go_region_held3 (fun W => (W.cell? ⟨w.heap.size, 0, none⟩ = some (.bool (decide (a < 0))) ∧ W.cell? ⟨w.heap.size, 1, none⟩ = some (.int .u64 (d0 (a.natAbs))) ∧ W.cell? ⟨w.heap.size, 2, none⟩ = some (.int .u64 (d1 (a.natAbs))) ∧ W.cell? ⟨w.heap.size, 3, none⟩ = some (.int .u64 (d2 (a.natAbs))) ∧ W.cell? ⟨w.heap.size, 4, none⟩ = some (.int .u64 (d3 (a.natAbs)))) ∧ (W.cell? ⟨w.heap.size + 1, 0, none⟩ = some (.bool (decide (b < 0))) ∧ W.cell? ⟨w.heap.size + 1, 1, none⟩ = some (.int .u64 (d0 (b.natAbs))) ∧ W.cell? ⟨w.heap.size + 1, 2, none⟩ = some (.int .u64 (d1 (b.natAbs))) ∧ W.cell? ⟨w.heap.size + 1, 3, none⟩ = some (.int .u64 (d2 (b.natAbs))) ∧ W.cell? ⟨w.heap.size + 1, 4, none⟩ = some (.int .u64 (d3 (b.natAbs)))) ∧ w.heap.size < W.heap.size ∧ w.heap.size + 1 < W.heap.size ∧ w.heap.size ≤ W.heap.size ∧ Below w.heap.size w W)
          (first | exact keepN ((Below.refl _ _).drew) HS.out | exact keepN ((Below.refl _ _).drew) (by assumption) | exact keepN hb (by assumption))
          (first
            | (go_at_call 26; refine (rSign_any _ _ (by assumption)).mono ?_; rintro e w' ⟨rfl, hb⟩)
            | (go_at_call 38; refine (less_any _ _ _ A.1 A.2 B.1 B.2).mono ?_; rintro e w' ⟨rfl, hb⟩))
        go_wp2
        go_region_held3 (fun W => (W.cell? ⟨w.heap.size, 0, none⟩ = some (.bool (decide (a < 0))) ∧ W.cell? ⟨w.heap.size, 1, none⟩ = some (.int .u64 (d0 (a.natAbs))) ∧ W.cell? ⟨w.heap.size, 2, none⟩ = some (.int .u64 (d1 (a.natAbs))) ∧ W.cell? ⟨w.heap.size, 3, none⟩ = some (.int .u64 (d2 (a.natAbs))) ∧ W.cell? ⟨w.heap.size, 4, none⟩ = some (.int .u64 (d3 (a.natAbs)))) ∧ (W.cell? ⟨w.heap.size + 1, 0, none⟩ = some (.bool (decide (b < 0))) ∧ W.cell? ⟨w.heap.size + 1, 1, none⟩ = some (.int .u64 (d0 (b.natAbs))) ∧ W.cell? ⟨w.heap.size + 1, 2, none⟩ = some (.int .u64 (d1 (b.natAbs))) ∧ W.cell? ⟨w.heap.size + 1, 3, none⟩ = some (.int .u64 (d2 (b.natAbs))) ∧ W.cell? ⟨w.heap.size + 1, 4, none⟩ = some (.int .u64 (d3 (b.natAbs)))) ∧ w.heap.size < W.heap.size ∧ w.heap.size + 1 < W.heap.size ∧ w.heap.size ≤ W.heap.size ∧ Below w.heap.size w W)
          (first | exact keepN ((Below.refl _ _).drew) HS.out | exact keepN ((Below.refl _ _).drew) (by assumption) | exact keepN hb (by assumption))
          (first
            | (go_at_call 26; refine (rSign_any _ _ (by assumption)).mono ?_; rintro e w' ⟨rfl, hb⟩)
            | (go_at_call 38; refine (less_any _ _ _ A.1 A.2 B.1 B.2).mono ?_; rintro e w' ⟨rfl, hb⟩))
        go_wp2
        go_ret
        exact ⟨retI K.out, endN (by assumption)⟩
  · have t : (cmpI a 0 != cmpI b 0) = true := by simpa using s
    by_cases l : cmpI a 0 < cmpI b 0
    · have K := Lib.hid (show -1 = cmpI a b by unfold cmpI at l ⊢; split at l <;> split at l <;> (try split at l) <;> (try split at l) <;> (rw [if_neg (by omega), if_pos (by omega)]))
      clear s
      go_enter Try.func24, Try.ntmps24
      go_wp2_with fail
      have HS := Lib.hid (startN (B := w.heap.size) (w := w) ((CellN.new w (decide (a < 0)) a.natAbs 29).alloc (by simp) (.cells #[.bool (decide (b < 0)), .int .u64 (d0 b.natAbs), .int .u64 (d1 b.natAbs), .int .u64 (d2 b.natAbs), .int .u64 (d3 b.natAbs)] 29))
        (by have := CellN.new (w.alloc (.cells #[.bool (decide (a < 0)), .int .u64 (d0 a.natAbs), .int .u64 (d1 a.natAbs), .int .u64 (d2 a.natAbs), .int .u64 (d3 a.natAbs)] 29)) (decide (b < 0)) b.natAbs 29; simpa using this) (by simp; omega) (by simp) (by simp; omega) (by repeat (first | exact Below.refl _ _ | assumption | refine Below.setCell ?_ (by first | omega | (simp; done) | (simp; omega)) _ | refine Below.alloc ?_ (by first | omega | (simp; done) | (simp; omega)) _ | refine below_drewN ?_ _ | refine Below.drew ?_ | refine Below.trans ?_ (Below.mono (by assumption) (by first | omega | (simp; done) | (simp; omega))))))
      go_region_held3 (fun W => (W.cell? ⟨w.heap.size, 0, none⟩ = some (.bool (decide (a < 0))) ∧ W.cell? ⟨w.heap.size, 1, none⟩ = some (.int .u64 (d0 (a.natAbs))) ∧ W.cell? ⟨w.heap.size, 2, none⟩ = some (.int .u64 (d1 (a.natAbs))) ∧ W.cell? ⟨w.heap.size, 3, none⟩ = some (.int .u64 (d2 (a.natAbs))) ∧ W.cell? ⟨w.heap.size, 4, none⟩ = some (.int .u64 (d3 (a.natAbs)))) ∧ (W.cell? ⟨w.heap.size + 1, 0, none⟩ = some (.bool (decide (b < 0))) ∧ W.cell? ⟨w.heap.size + 1, 1, none⟩ = some (.int .u64 (d0 (b.natAbs))) ∧ W.cell? ⟨w.heap.size + 1, 2, none⟩ = some (.int .u64 (d1 (b.natAbs))) ∧ W.cell? ⟨w.heap.size + 1, 3, none⟩ = some (.int .u64 (d2 (b.natAbs))) ∧ W.cell? ⟨w.heap.size + 1, 4, none⟩ = some (.int .u64 (d3 (b.natAbs)))) ∧ w.heap.size < W.heap.size ∧ w.heap.size + 1 < W.heap.size ∧ w.heap.size ≤ W.heap.size ∧ Below w.heap.size w W)
        (first | exact keepN ((Below.refl _ _).drew) HS.out | exact keepN ((Below.refl _ _).drew) (by assumption) | exact keepN hb (by assumption))
        (first
          | (go_at_call 26; refine (rSign_any _ _ (by assumption)).mono ?_; rintro e w' ⟨rfl, hb⟩)
          | (go_at_call 38; refine (less_any _ _ _ A.1 A.2 B.1 B.2).mono ?_; rintro e w' ⟨rfl, hb⟩))
      go_wp2
      go_region_held3 (fun W => (W.cell? ⟨w.heap.size, 0, none⟩ = some (.bool (decide (a < 0))) ∧ W.cell? ⟨w.heap.size, 1, none⟩ = some (.int .u64 (d0 (a.natAbs))) ∧ W.cell? ⟨w.heap.size, 2, none⟩ = some (.int .u64 (d1 (a.natAbs))) ∧ W.cell? ⟨w.heap.size, 3, none⟩ = some (.int .u64 (d2 (a.natAbs))) ∧ W.cell? ⟨w.heap.size, 4, none⟩ = some (.int .u64 (d3 (a.natAbs)))) ∧ (W.cell? ⟨w.heap.size + 1, 0, none⟩ = some (.bool (decide (b < 0))) ∧ W.cell? ⟨w.heap.size + 1, 1, none⟩ = some (.int .u64 (d0 (b.natAbs))) ∧ W.cell? ⟨w.heap.size + 1, 2, none⟩ = some (.int .u64 (d1 (b.natAbs))) ∧ W.cell? ⟨w.heap.size + 1, 3, none⟩ = some (.int .u64 (d2 (b.natAbs))) ∧ W.cell? ⟨w.heap.size + 1, 4, none⟩ = some (.int .u64 (d3 (b.natAbs)))) ∧ w.heap.size < W.heap.size ∧ w.heap.size + 1 < W.heap.size ∧ w.heap.size ≤ W.heap.size ∧ Below w.heap.size w W)
        (first | exact keepN ((Below.refl _ _).drew) HS.out | exact keepN ((Below.refl _ _).drew) (by assumption) | exact keepN hb (by assumption))
        (first
          | (go_at_call 26; refine (rSign_any _ _ (by assumption)).mono ?_; rintro e w' ⟨rfl, hb⟩)
          | (go_at_call 38; refine (less_any _ _ _ A.1 A.2 B.1 B.2).mono ?_; rintro e w' ⟨rfl, hb⟩))
      go_wp2
      go_ret
      exact ⟨retI K.out, endN (by assumption)⟩
    · have K := Lib.hid (show 1 = cmpI a b by unfold cmpI at l s ⊢; split at l <;> split at l <;> (try split at l) <;> (try split at l) <;> (first | (rw [if_neg (by omega), if_neg (by omega)]) | (exfalso; simp_all; done) | (exfalso; omega)))
      clear s
      go_enter Try.func24, Try.ntmps24
      go_wp2_with fail
      have HS := Lib.hid (startN (B := w.heap.size) (w := w) ((CellN.new w (decide (a < 0)) a.natAbs 29).alloc (by simp) (.cells #[.bool (decide (b < 0)), .int .u64 (d0 b.natAbs), .int .u64 (d1 b.natAbs), .int .u64 (d2 b.natAbs), .int .u64 (d3 b.natAbs)] 29))
        (by have := CellN.new (w.alloc (.cells #[.bool (decide (a < 0)), .int .u64 (d0 a.natAbs), .int .u64 (d1 a.natAbs), .int .u64 (d2 a.natAbs), .int .u64 (d3 a.natAbs)] 29)) (decide (b < 0)) b.natAbs 29; simpa using this) (by simp; omega) (by simp) (by simp; omega) (by repeat (first | exact Below.refl _ _ | assumption | refine Below.setCell ?_ (by first | omega | (simp; done) | (simp; omega)) _ | refine Below.alloc ?_ (by first | omega | (simp; done) | (simp; omega)) _ | refine below_drewN ?_ _ | refine Below.drew ?_ | refine Below.trans ?_ (Below.mono (by assumption) (by first | omega | (simp; done) | (simp; omega))))))
      go_region_held3 (fun W => (W.cell? ⟨w.heap.size, 0, none⟩ = some (.bool (decide (a < 0))) ∧ W.cell? ⟨w.heap.size, 1, none⟩ = some (.int .u64 (d0 (a.natAbs))) ∧ W.cell? ⟨w.heap.size, 2, none⟩ = some (.int .u64 (d1 (a.natAbs))) ∧ W.cell? ⟨w.heap.size, 3, none⟩ = some (.int .u64 (d2 (a.natAbs))) ∧ W.cell? ⟨w.heap.size, 4, none⟩ = some (.int .u64 (d3 (a.natAbs)))) ∧ (W.cell? ⟨w.heap.size + 1, 0, none⟩ = some (.bool (decide (b < 0))) ∧ W.cell? ⟨w.heap.size + 1, 1, none⟩ = some (.int .u64 (d0 (b.natAbs))) ∧ W.cell? ⟨w.heap.size + 1, 2, none⟩ = some (.int .u64 (d1 (b.natAbs))) ∧ W.cell? ⟨w.heap.size + 1, 3, none⟩ = some (.int .u64 (d2 (b.natAbs))) ∧ W.cell? ⟨w.heap.size + 1, 4, none⟩ = some (.int .u64 (d3 (b.natAbs)))) ∧ w.heap.size < W.heap.size ∧ w.heap.size + 1 < W.heap.size ∧ w.heap.size ≤ W.heap.size ∧ Below w.heap.size w W)
        (first | exact keepN ((Below.refl _ _).drew) HS.out | exact keepN ((Below.refl _ _).drew) (by assumption) | exact keepN hb (by assumption))
        (first
          | (go_at_call 26; refine (rSign_any _ _ (by assumption)).mono ?_; rintro e w' ⟨rfl, hb⟩)
          | (go_at_call 38; refine (less_any _ _ _ A.1 A.2 B.1 B.2).mono ?_; rintro e w' ⟨rfl, hb⟩))
      go_wp2
      go_region_held3 (fun W => (W.cell? ⟨w.heap.size, 0, none⟩ = some (.bool (decide (a < 0))) ∧ W.cell? ⟨w.heap.size, 1, none⟩ = some (.int .u64 (d0 (a.natAbs))) ∧ W.cell? ⟨w.heap.size, 2, none⟩ = some (.int .u64 (d1 (a.natAbs))) ∧ W.cell? ⟨w.heap.size, 3, none⟩ = some (.int .u64 (d2 (a.natAbs))) ∧ W.cell? ⟨w.heap.size, 4, none⟩ = some (.int .u64 (d3 (a.natAbs)))) ∧ (W.cell? ⟨w.heap.size + 1, 0, none⟩ = some (.bool (decide (b < 0))) ∧ W.cell? ⟨w.heap.size + 1, 1, none⟩ = some (.int .u64 (d0 (b.natAbs))) ∧ W.cell? ⟨w.heap.size + 1, 2, none⟩ = some (.int .u64 (d1 (b.natAbs))) ∧ W.cell? ⟨w.heap.size + 1, 3, none⟩ = some (.int .u64 (d2 (b.natAbs))) ∧ W.cell? ⟨w.heap.size + 1, 4, none⟩ = some (.int .u64 (d3 (b.natAbs)))) ∧ w.heap.size < W.heap.size ∧ w.heap.size + 1 < W.heap.size ∧ w.heap.size ≤ W.heap.size ∧ Below w.heap.size w W)
        (first | exact keepN ((Below.refl _ _).drew) HS.out | exact keepN ((Below.refl _ _).drew) (by assumption) | exact keepN hb (by assumption))
        (first
          | (go_at_call 26; refine (rSign_any _ _ (by assumption)).mono ?_; rintro e w' ⟨rfl, hb⟩)
          | (go_at_call 38; refine (less_any _ _ _ A.1 A.2 B.1 B.2).mono ?_; rintro e w' ⟨rfl, hb⟩))
      go_wp2
      go_ret
      exact ⟨retI K.out, endN (by assumption)⟩
end Go.Proofs.Ytjilgfgchmdppaa

/- The contract of the document's Crosses. -/
import Derived.Test.YtmfmdipejlnmfaaNg
import Derived.Test.YtmfmdipejlnmfaaBg
namespace Go.Proofs.Ytmfmdipejlnmfaa
open Go.RowKit
set_option linter.unusedVariables false
set_option linter.unusedSimpArgs false

/-- where on its way a move crosses -/
noncomputable def crossN (a b p q : Pt) : Int := if crossP a b p q = true then partI (-(area a b p)) (area a b q - area a b p) else 0
theorem sgnA_pos {n : Int} : 0 < sgnA n ↔ 0 < n := by unfold sgnA; split <;> (try split) <;> omega
theorem sgnA_lt {n : Int} : sgnA n < 0 ↔ n < 0 := by unfold sgnA; split <;> (try split) <;> omega
theorem sgnA_in (n : Int) : -1 ≤ sgnA n ∧ sgnA n ≤ 1 := by unfold sgnA; split <;> (try split) <;> omega
/-- a move near the middle crosses by four signs -/
theorem cross_near {a b p q : Pt} (h : a.near ∧ b.near ∧ p.near ∧ q.near) : crossP a b p q = decide (¬ 0 < sgnA (area a b p) ∧ 0 < sgnA (area a b q) ∧ ¬ sideP p q a < 0 ∧ sideP p q b < 0) := by
  unfold crossP sideP
  rw [decide_eq_decide, if_pos ⟨h.2.2.1, h.2.2.2, h.1⟩, if_pos ⟨h.2.2.1, h.2.2.2, h.2.1⟩, sgnA_pos, sgnA_pos, sgnA_lt, sgnA_lt]
  constructor
  · rintro ⟨_, c, d, e, f⟩; exact ⟨by omega, d, by omega, f⟩
  · rintro ⟨c, d, e, f⟩; exact ⟨h, by omega, d, by omega, f⟩
/-- the number of all the move's parts fits -/
theorem all_fit {s t : Int} (h1 : -633825300114114700748351602688 ≤ s) (h2 : s ≤ 633825300114114700748351602688) (h3 : -633825300114114700748351602688 ≤ t) (h4 : t ≤ 633825300114114700748351602688) :
    In128 s ∧ In128 (-s) ∧ In128 t ∧ clipW (t + -s) = t - s ∧ In128 (t - s) := by
  have i1 : In128 (t + -s) := by unfold In128; omega
  refine ⟨by unfold In128; omega, by unfold In128; omega, by unfold In128; omega, ?_, by unfold In128; omega⟩
  unfold clipW; rw [if_pos i1]; omega
theorem area_99 {a b p : Pt} (ha : a.near) (hb : b.near) (hp : p.near) : -633825300114114700748351602688 ≤ area a b p ∧ area a b p ≤ 633825300114114700748351602688 := by
  unfold Pt.near Rg at *
  have h : ∀ {x y : Int}, -562949953421312 ≤ x → x ≤ 562949953421312 → -562949953421312 ≤ y → y ≤ 562949953421312 → -316912650057057350374175801344 ≤ x * y ∧ x * y ≤ 316912650057057350374175801344 := by
    intro x y x0 x1 y0 y1
    have h1 : 0 ≤ (562949953421312 - x) * (562949953421312 + y) := Int.mul_nonneg (by omega) (by omega)
    have h2 : 0 ≤ (562949953421312 + x) * (562949953421312 - y) := Int.mul_nonneg (by omega) (by omega)
    have h3 : 0 ≤ (562949953421312 - x) * (562949953421312 - y) := Int.mul_nonneg (by omega) (by omega)
    have h4 : 0 ≤ (562949953421312 + x) * (562949953421312 + y) := Int.mul_nonneg (by omega) (by omega)
    have e1 : (562949953421312 - x) * (562949953421312 + y) = 316912650057057350374175801344 + 562949953421312 * y - 562949953421312 * x - x * y := by grind
    have e2 : (562949953421312 + x) * (562949953421312 - y) = 316912650057057350374175801344 - 562949953421312 * y + 562949953421312 * x - x * y := by grind
    have e3 : (562949953421312 - x) * (562949953421312 - y) = 316912650057057350374175801344 - 562949953421312 * y - 562949953421312 * x + x * y := by grind
    have e4 : (562949953421312 + x) * (562949953421312 + y) = 316912650057057350374175801344 + 562949953421312 * y + 562949953421312 * x + x * y := by grind
    omega
  have q1 := h (x := b.x - a.x) (y := p.y - a.y) (by omega) (by omega) (by omega) (by omega)
  have q2 := h (x := b.y - a.y) (y := p.x - a.x) (by omega) (by omega) (by omega) (by omega)
  unfold area
  omega
theorem cross_no {a b p q : Pt} (h : crossP a b p q = false) : crossN a b p q = 0 := by unfold crossN; rw [if_neg (by rw [h]; simp)]
theorem cross_yes {a b p q : Pt} (h : crossP a b p q = true) : crossN a b p q = partI (-(area a b p)) (area a b q - area a b p) := by unfold crossN; rw [if_pos h]
/-- the numbers of a move's parts: the two areas, and what lies between them -/
structure CrossC (w : World) (s t u v e f ns A : Int) : Prop where
  sg : ∀ W : World, Calls Try.prog 23 #[.agg #[.bool (decide (s < 0)), .int .u64 (d0 (s.natAbs)), .int .u64 (d1 (s.natAbs)), .int .u64 (d2 (s.natAbs)), .int .u64 (d3 (s.natAbs))]] W fun e w' => e = .returned (.int .i64 u) ∧ Below W.heap.size W w'
  sh : ∀ W : World, Calls Try.prog 23 #[.agg #[.bool (decide (t < 0)), .int .u64 (d0 (t.natAbs)), .int .u64 (d1 (t.natAbs)), .int .u64 (d2 (t.natAbs)), .int .u64 (d3 (t.natAbs))]] W fun e w' => e = .returned (.int .i64 v) ∧ Below W.heap.size W w'
  op : ∀ W : World, Calls Try.prog 29 #[.agg #[.bool (decide (s < 0)), .int .u64 (d0 (s.natAbs)), .int .u64 (d1 (s.natAbs)), .int .u64 (d2 (s.natAbs)), .int .u64 (d3 (s.natAbs))]] W fun e w' => e = .returned (.agg #[.bool (decide (ns < 0)), .int .u64 (d0 (ns.natAbs)), .int .u64 (d1 (ns.natAbs)), .int .u64 (d2 (ns.natAbs)), .int .u64 (d3 (ns.natAbs))]) ∧ Below W.heap.size W w'
  ad : ∃ fw, ∀ W : World, Calls Try.prog 28 #[.agg #[.bool (decide (t < 0)), .int .u64 (d0 (t.natAbs)), .int .u64 (d1 (t.natAbs)), .int .u64 (d2 (t.natAbs)), .int .u64 (d3 (t.natAbs))], .agg #[.bool (decide (ns < 0)), .int .u64 (d0 (ns.natAbs)), .int .u64 (d1 (ns.natAbs)), .int .u64 (d2 (ns.natAbs)), .int .u64 (d3 (ns.natAbs))]] W fun e w' => e = .returned (.tuple #[.agg #[.bool (decide (A < 0)), .int .u64 (d0 (A.natAbs)), .int .u64 (d1 (A.natAbs)), .int .u64 (d2 (A.natAbs)), .int .u64 (d3 (A.natAbs))], .bool fw]) ∧ Below W.heap.size W w'
  pt : ∀ W : World, Calls Try.prog 30 #[.agg #[.bool (decide (ns < 0)), .int .u64 (d0 (ns.natAbs)), .int .u64 (d1 (ns.natAbs)), .int .u64 (d2 (ns.natAbs)), .int .u64 (d3 (ns.natAbs))], .agg #[.bool (decide (A < 0)), .int .u64 (d0 (A.natAbs)), .int .u64 (d1 (A.natAbs)), .int .u64 (d2 (A.natAbs)), .int .u64 (d3 (A.natAbs))]] W fun e w' => e = .returned (.int .u32 (partI ns A)) ∧ Below W.heap.size W w'
theorem crossC {s t : Int} (w : World) (e f : Int) (h1 : -633825300114114700748351602688 ≤ s ∧ s ≤ 633825300114114700748351602688) (h2 : -633825300114114700748351602688 ≤ t ∧ t ≤ 633825300114114700748351602688) : CrossC w s t (sgnA s) (sgnA t) e f (-s) (t - s) := by
  obtain ⟨i1, i2, i3, e1, i4⟩ := all_fit h1.1 h1.2 h2.1 h2.2
  refine ⟨fun W => ?_, fun W => ?_, fun W => rOpposite_any s W i1, ⟨fitW (t + -s), fun W => ?_⟩, fun W => rPart_any (-s) (t - s) W i2 i4⟩
  · have := rSign_any s W i1; rw [cmp_sgn] at this; exact this
  · have := rSign_any t W i3; rw [cmp_sgn] at this; exact this
  · have := rAdd_any t (-s) W i3 i2; rw [e1] at this; exact this
/-- all that is to come, in a block of its own, beside the first area -/
def CrCut (w : World) (n1 : Nat) (s A : Int) (t : Value) (W : World) : Prop := ∃ n3 : Nat, t = .pointer (some ⟨n3, 0, none⟩) ∧ St w W [(n3, [.bool (decide (A < 0)), .int .u64 (d0 (A).natAbs), .int .u64 (d1 (A).natAbs), .int .u64 (d2 (A).natAbs), .int .u64 (d3 (A).natAbs)]), (n1, [.bool (decide (s < 0)), .int .u64 (d0 (s).natAbs), .int .u64 (d1 (s).natAbs), .int .u64 (d2 (s).natAbs), .int .u64 (d3 (s).natAbs)])]
/-- the blocks of Crosses -/
def CrL (w : World) (ax ay bx by' px py qx qy : Int) : List (Nat × List Value) := [(w.heap.size, [.int .i64 ax, .int .i64 ay]), (w.heap.size + 1, [.int .i64 bx, .int .i64 by']), (w.heap.size + 1 + 1, [.int .i64 px, .int .i64 py]), (w.heap.size + 1 + 1 + 1, [.int .i64 qx, .int .i64 qy])]
theorem cr_sv {w W : World} {ax ay bx by' px py qx qy : Int} (k : St w W (CrL w ax ay bx by' px py qx qy)) : (W.cell? ⟨w.heap.size, 0, none⟩ = some (.int .i64 ax) ∧ W.cell? ⟨w.heap.size, 1, none⟩ = some (.int .i64 ay)) ∧ (W.cell? ⟨w.heap.size + 1, 0, none⟩ = some (.int .i64 bx) ∧ W.cell? ⟨w.heap.size + 1, 1, none⟩ = some (.int .i64 by')) ∧ (W.cell? ⟨w.heap.size + 1 + 1, 0, none⟩ = some (.int .i64 px) ∧ W.cell? ⟨w.heap.size + 1 + 1, 1, none⟩ = some (.int .i64 py)) ∧ (W.cell? ⟨w.heap.size + 1 + 1 + 1, 0, none⟩ = some (.int .i64 qx) ∧ W.cell? ⟨w.heap.size + 1 + 1 + 1, 1, none⟩ = some (.int .i64 qy)) :=
  ⟨(k.b _ _ (by unfold CrL; simp)).h2', (k.b _ _ (by unfold CrL; simp)).h2', (k.b _ _ (by unfold CrL; simp)).h2', (k.b _ _ (by unfold CrL; simp)).h2'⟩
theorem cr_z {w W : World} {ax ay bx by' px py qx qy : Int} (k : St w W (CrL w ax ay bx by' px py qx qy)) : w.heap.size + 1 + 1 + 1 < W.heap.size := (k.b (w.heap.size + 1 + 1 + 1) [.int .i64 qx, .int .i64 qy] (by unfold CrL; simp)).lt
theorem cr_new {w : World} {ax ay bx by' px py qx qy : Int} {W : World} (h0 : BW W w.heap.size [.int .i64 ax, .int .i64 ay]) (h1 : BW W (w.heap.size + 1) [.int .i64 bx, .int .i64 by']) (h2 : BW W (w.heap.size + 1 + 1) [.int .i64 px, .int .i64 py]) (h3 : BW W (w.heap.size + 1 + 1 + 1) [.int .i64 qx, .int .i64 qy]) (h : Below w.heap.size w W) : St w W (CrL w ax ay bx by' px py qx qy) :=
  St.cons h0 (St.cons h1 (St.cons h2 (St.cons h3 (St.nil h))))
set_option maxRecDepth 100000 in
set_option maxHeartbeats 8000000 in
theorem rCrosses_any (ax ay bx by' px py qx qy : Int) (w : World) :
    Calls Try.prog 14 #[.agg #[.int .i64 ax, .int .i64 ay], .agg #[.int .i64 bx, .int .i64 by'], .agg #[.int .i64 px, .int .i64 py], .agg #[.int .i64 qx, .int .i64 qy]] w fun e w' => e = .returned (.tuple #[.int .u32 (crossN ⟨ax, ay⟩ ⟨bx, by'⟩ ⟨px, py⟩ ⟨qx, qy⟩), .bool (crossP ⟨ax, ay⟩ ⟨bx, by'⟩ ⟨px, py⟩ ⟨qx, qy⟩)]) ∧ Below w.heap.size w w' := by
  by_cases h : (Rg ax ∧ Rg ay) ∧ (Rg bx ∧ Rg by') ∧ (Rg px ∧ Rg py) ∧ (Rg qx ∧ Rg qy)
  · have N := Lib.hid (fun (n : Nat) (W : World) (B : BW W n [.int .i64 ax, .int .i64 ay, .int .i64 bx, .int .i64 by', .int .i64 px, .int .i64 py, .int .i64 qx, .int .i64 qy]) => rNear4_any ax ay bx by' px py qx qy n W B)
    rw [decide_eq_true h] at N
    have hP : Pt.near ⟨ax, ay⟩ ∧ Pt.near ⟨bx, by'⟩ ∧ Pt.near ⟨px, py⟩ ∧ Pt.near ⟨qx, qy⟩ := h
    have X1 := Lib.hid (fun (W : World) => rArea_any ax ay bx by' px py _ W h.1.1 h.1.2 h.2.1.1 h.2.1.2 h.2.2.1.1 h.2.2.1.2 rfl)
    have X2 := Lib.hid (fun (W : World) => rArea_any ax ay bx by' qx qy _ W h.1.1 h.1.2 h.2.1.1 h.2.1.2 h.2.2.2.1 h.2.2.2.2 rfl)
    have X3 := Lib.hid (fun (W : World) => rSide_any px py qx qy ax ay W)
    have X4 := Lib.hid (fun (W : World) => rSide_any px py qx qy bx by' W)
    have C := Lib.hid (crossC w (sideP ⟨px, py⟩ ⟨qx, qy⟩ ⟨ax, ay⟩) (sideP ⟨px, py⟩ ⟨qx, qy⟩ ⟨bx, by'⟩) (area_99 hP.1 hP.2.1 hP.2.2.1) (area_99 hP.1 hP.2.1 hP.2.2.2))
    have E1 := Lib.hid (cross_near hP)
    have E2 := Lib.hid (fun (k : crossP ⟨ax, ay⟩ ⟨bx, by'⟩ ⟨px, py⟩ ⟨qx, qy⟩ = true) => cross_yes k)
    have E3 := Lib.hid (fun (k : crossP ⟨ax, ay⟩ ⟨bx, by'⟩ ⟨px, py⟩ ⟨qx, qy⟩ = false) => cross_no k)
    generalize crossN ⟨ax, ay⟩ ⟨bx, by'⟩ ⟨px, py⟩ ⟨qx, qy⟩ = r1 at *
    generalize crossP ⟨ax, ay⟩ ⟨bx, by'⟩ ⟨px, py⟩ ⟨qx, qy⟩ = r2 at *
    generalize sideP ⟨px, py⟩ ⟨qx, qy⟩ ⟨ax, ay⟩ = e' at *
    generalize sideP ⟨px, py⟩ ⟨qx, qy⟩ ⟨bx, by'⟩ = f at *
    generalize area ⟨ax, ay⟩ ⟨bx, by'⟩ ⟨px, py⟩ = s at *
    generalize area ⟨ax, ay⟩ ⟨bx, by'⟩ ⟨qx, qy⟩ = t at *
    generalize sgnA s = u at *
    generalize sgnA t = v at *
    generalize t - s = A at *
    generalize -s = ns at *
    clear hP h
    go_enter Try.func14, Try.ntmps14
    go_wp2_with fail
    refine (N.out _ _ (BW.new _ _ [_, _, _, _, _, _, _, _] _ (by simp))).mono ?_
    rintro e w1 ⟨rfl, rfl⟩
    go_wp2_with fail
    refine calls_gen (S := fun W => St w W (CrL w ax ay bx by' px py qx qy)) (cr_new (((((BW.new w w.heap.size [_, _] _ rfl).alloc _).alloc _).alloc _).alloc _) ((((BW.new _ _ [_, _] _ (by simp)).alloc _).alloc _).alloc _) (((BW.new _ _ [_, _] _ (by simp)).alloc _).alloc _) ((BW.new _ _ [_, _] _ (by simp)).alloc _) (by repeat (first | exact Below.refl _ _ | assumption | refine Below.setCell ?_ (by first | omega | (simp; done) | (simp; omega)) _ | refine Below.alloc ?_ (by first | omega | (simp; done) | (simp; omega)) _ | refine below_drewN ?_ _ | refine Below.drew ?_ | refine Below.trans ?_ (Below.mono (by assumption) (by first | omega | (simp; done) | (simp; omega)))))) (fun W0 hS => ?_)
    have K0 := Lib.hid hS
    clear hS N
    refine (X1.out _).mono ?_
    rintro e w1 ⟨rfl, h⟩
    have K1 := Lib.hid (K0.out.step h)
    clear h K0
    obtain ⟨⟨a0, a1⟩, ⟨b0, b1⟩, ⟨p0, p1⟩, ⟨q0, q1⟩⟩ := cr_sv (K1.out)
    have z1 : w.heap.size + 1 + 1 + 1 < w1.heap.size := cr_z K1.out
    have z1a : w.heap.size + 1 + 1 < w1.heap.size := by omega
    have z1b : w.heap.size + 1 < w1.heap.size := by omega
    have z1c : w.heap.size < w1.heap.size := by omega
    go_wp2_with fail
    refine calls_gen (S := fun W => St w W ((w1.heap.size, [.bool (decide (s < 0)), .int .u64 (d0 (s).natAbs), .int .u64 (d1 (s).natAbs), .int .u64 (d2 (s).natAbs), .int .u64 (d3 (s).natAbs)]) :: CrL w ax ay bx by' px py qx qy)) (St.cons (BW.new w1 _ [_, _, _, _, _] _ rfl) (K1.out.alloc _)) (fun W1 hS => ?_)
    clear a0 a1 b0 b1 p0 p1 q0 q1
    clear K1
    generalize w1.heap.size = n1 at *
    have K2 := Lib.hid hS
    clear hS X1
    refine (X2.out _).mono ?_
    rintro e w3 ⟨rfl, h⟩
    have K3 := Lib.hid (K2.out.step h)
    clear h K2
    have z3 : n1 < w3.heap.size := (K3.out.b n1 _ (List.mem_cons_self ..)).lt
    obtain ⟨s0, s1, s2, s3, s4⟩ := (K3.out.b n1 _ (List.mem_cons_self ..)).h5
    go_wp2_with fail
    refine calls_gen (S := fun W => St w W ((w3.heap.size, [.bool (decide (t < 0)), .int .u64 (d0 (t).natAbs), .int .u64 (d1 (t).natAbs), .int .u64 (d2 (t).natAbs), .int .u64 (d3 (t).natAbs)]) :: (n1, [.bool (decide (s < 0)), .int .u64 (d0 (s).natAbs), .int .u64 (d1 (s).natAbs), .int .u64 (d2 (s).natAbs), .int .u64 (d3 (s).natAbs)]) :: CrL w ax ay bx by' px py qx qy)) (St.cons (BW.new w3 _ [_, _, _, _, _] _ rfl) (K3.out.alloc _)) (fun W3 hS => ?_)
    clear K3 s0 s1 s2 s3 s4
    generalize w3.heap.size = n2 at *
    have K4 := Lib.hid hS
    clear hS X2
    refine (C.out.sg _).mono ?_
    rintro e w5 ⟨rfl, h⟩
    have K5 := Lib.hid (K4.out.step h)
    clear h K4
    by_cases c1 : 0 < u
    · have EE : r2 = false := by rw [E1.out, decide_eq_false_iff_not]; rintro ⟨g, _⟩; omega
      have EF := Lib.hid (E3.out EE)
      subst EE
      go_wp2
      go_ret2
      exact ⟨retIB EF.out.symm rfl, K5.out.l⟩
    · obtain ⟨s0, s1, s2, s3, s4⟩ := (K5.out.b n2 _ (List.mem_cons_self ..)).h5
      go_wp2_with fail
      refine (C.out.sh _).mono ?_
      clear s0 s1 s2 s3 s4
      rintro e w6 ⟨rfl, h⟩
      have K6 := Lib.hid (K5.out.step h)
      clear h K5
      by_cases c2 : 0 < v
      · have c2' : ¬ v ≤ 0 := by omega
        obtain ⟨⟨a0, a1⟩, ⟨b0, b1⟩, ⟨p0, p1⟩, ⟨q0, q1⟩⟩ := cr_sv (K6.out.tail.tail)
        go_wp2_with fail
        refine (X3.out _).mono ?_
        clear a0 a1 b0 b1 p0 p1 q0 q1
        rintro e w7 ⟨rfl, h⟩
        have K7 := Lib.hid (K6.out.step h)
        clear h K6
        by_cases c3 : e' < 0
        · have EE : r2 = false := by rw [E1.out, decide_eq_false_iff_not]; rintro ⟨_, _, g, _⟩; omega
          have EF := Lib.hid (E3.out EE)
          subst EE
          go_wp2
          go_ret2
          exact ⟨retIB EF.out.symm rfl, K7.out.l⟩
        · skip
          obtain ⟨⟨a0, a1⟩, ⟨b0, b1⟩, ⟨p0, p1⟩, ⟨q0, q1⟩⟩ := cr_sv (K7.out.tail.tail)
          go_wp2_with fail
          refine (X4.out _).mono ?_
          clear a0 a1 b0 b1 p0 p1 q0 q1
          rintro e w8 ⟨rfl, h⟩
          have K8 := Lib.hid (K7.out.step h)
          clear h K7
          by_cases c4 : f < 0
          · have c4' : ¬ 0 ≤ f := by omega
            have EE : r2 = true := by rw [E1.out, decide_eq_true_iff]; exact ⟨c1, c2, c3, c4⟩
            have EF := Lib.hid (E2.out EE)
            subst EE
            have KK := Lib.hid (St.cons (K8.out.b n1 [.bool (decide (s < 0)), .int .u64 (d0 (s).natAbs), .int .u64 (d1 (s).natAbs), .int .u64 (d2 (s).natAbs), .int .u64 (d3 (s).natAbs)] (by simp)) (St.cons (K8.out.b n2 [.bool (decide (t < 0)), .int .u64 (d0 (t).natAbs), .int .u64 (d1 (t).natAbs), .int .u64 (d2 (t).natAbs), .int .u64 (d3 (t).natAbs)] (by simp)) (St.nil K8.out.l)))
            clear K8 E1 E2 E3 X3 X4
            obtain ⟨fw, AD⟩ := C.out.ad
            have X5 := Lib.hid AD
            have X6 := Lib.hid C.out.op
            have X7 := Lib.hid C.out.pt
            clear C AD
            go_wp2_with fail
            clear c1 c2 c3 c4 c2' c4'
            refine wp_gen (S := fun W => St w W [(n1, [.bool (decide (s < 0)), .int .u64 (d0 (s).natAbs), .int .u64 (d1 (s).natAbs), .int .u64 (d2 (s).natAbs), .int .u64 (d3 (s).natAbs)]), (n2, [.bool (decide (t < 0)), .int .u64 (d0 (t).natAbs), .int .u64 (d1 (t).natAbs), .int .u64 (d2 (t).natAbs), .int .u64 (d3 (t).natAbs)])]) KK.out (fun W9 hS => ?_)
            have K0 := Lib.hid hS.drew
            clear hS KK
            go_cut [12] (fun t W => CrCut w n1 s A t W)
            case first =>
              refine wp_region_held_drew (S := fun W => (W.cell? ⟨n1, 0, none⟩ = some (.bool (decide (s < 0))) ∧ W.cell? ⟨n1, 1, none⟩ = some (.int .u64 (d0 (s).natAbs)) ∧ W.cell? ⟨n1, 2, none⟩ = some (.int .u64 (d1 (s).natAbs)) ∧ W.cell? ⟨n1, 3, none⟩ = some (.int .u64 (d2 (s).natAbs)) ∧ W.cell? ⟨n1, 4, none⟩ = some (.int .u64 (d3 (s).natAbs))) ∧ (W.cell? ⟨n2, 0, none⟩ = some (.bool (decide (t < 0))) ∧ W.cell? ⟨n2, 1, none⟩ = some (.int .u64 (d0 (t).natAbs)) ∧ W.cell? ⟨n2, 2, none⟩ = some (.int .u64 (d1 (t).natAbs)) ∧ W.cell? ⟨n2, 3, none⟩ = some (.int .u64 (d2 (t).natAbs)) ∧ W.cell? ⟨n2, 4, none⟩ = some (.int .u64 (d3 (t).natAbs)))) (by kernel_rfl) ⟨(K0.out.b n1 _ (by simp)).h5, (K0.out.b n2 _ (by simp)).h5⟩ (fun hHeld => ?_)
              generalize W9.drew = w0 at *
              refine wpAnyH_takeD 0 52 (v := ?_) (by kernel_rfl) (by kernel_rfl) (by kernel_rfl) (by kernel_rfl) (by rfl) (fun _ _ _ h => h) ?_ hHeld ?_
              rotate_left 1
              (intro o ho W hSw; simp only [List.getElem?_toArray, List.getElem?_cons_succ, List.getElem?_cons_zero, Option.some.injEq] at ho; subst ho; (try dsimp only at hSw); go_simp; try with_reducible rfl)
              (try simp only [Act.put, List.setIfInBounds_toArray, List.set_cons_zero, List.set_cons_succ])
              refine wpAnyH_takeD 1 53 (v := ?_) (by kernel_rfl) (by kernel_rfl) (by kernel_rfl) (by kernel_rfl) (by rfl) (fun _ _ _ h => h) ?_ hHeld ?_
              rotate_left 1
              (intro o ho W hSw; simp only [List.getElem?_toArray, List.getElem?_cons_succ, List.getElem?_cons_zero, Option.some.injEq] at ho; subst ho; (try dsimp only at hSw); go_simp; try with_reducible rfl)
              (try simp only [Act.put, List.setIfInBounds_toArray, List.set_cons_zero, List.set_cons_succ])
              refine wpAnyH_twoD 2 7 (by kernel_rfl) (fun o ho K hK => ?_) (fun o ho K hK => ?_) (by kernel_rfl) (by kernel_rfl)
              · skip
                simp only [List.getElem?_toArray, List.getElem?_cons_succ, List.getElem?_cons_zero, Option.some.injEq] at ho
                subst ho
                go_simp
                refine (X6.out _).mono ?_
                rintro e w1 ⟨rfl, h⟩
                have K1 := Lib.hid (K0.out.step h)
                (try have V1 := Lib.hid (V0.out.below h V0.out.lt))
                go_wp2_with fail
                refine hK.out _ _ (⟨(K1.out.b n1 _ (by simp)).h5, (K1.out.b n2 _ (by simp)).h5⟩) ?_
                clear hK K hHeld
                intro hHeld
                clear h K0
                (try clear V0)
                refine wpAnyH_twoD 3 7 (by kernel_rfl) (fun o ho K hK => ?_) (fun o ho K hK => ?_) (by kernel_rfl) (by kernel_rfl)
                · skip
                  simp only [List.getElem?_toArray, List.getElem?_cons_succ, List.getElem?_cons_zero, Option.some.injEq] at ho
                  subst ho
                  go_simp
                  refine (X5.out _).mono ?_
                  rintro e w2 ⟨rfl, h⟩
                  have K2 := Lib.hid (K1.out.step h)
                  (try have V2 := Lib.hid (V1.out.below h V1.out.lt))
                  go_wp2_with fail
                  refine hK.out _ _ (⟨(K2.out.b n1 _ (by simp)).h5, (K2.out.b n2 _ (by simp)).h5⟩) ?_
                  clear hK K hHeld
                  intro hHeld
                  clear h K1
                  (try clear V1)
                  refine wpAnyH_takeD 4 51 (v := ?_) (by kernel_rfl) (by kernel_rfl) (by kernel_rfl) (by kernel_rfl) (by rfl) (fun _ _ _ h => h) ?_ hHeld ?_
                  rotate_left 1
                  (intro o ho W hSw; simp only [List.getElem?_toArray, List.getElem?_cons_succ, List.getElem?_cons_zero, Option.some.injEq] at ho; subst ho; (try dsimp only at hSw); go_simp; try with_reducible rfl)
                  (try simp only [Act.put, List.setIfInBounds_toArray, List.set_cons_zero, List.set_cons_succ])
                  refine wpAnyH_takeD 5 56 (v := ?_) (by kernel_rfl) (by kernel_rfl) (by kernel_rfl) (by kernel_rfl) (by rfl) (fun _ _ _ h => h) ?_ hHeld ?_
                  rotate_left 1
                  (intro o ho W hSw; simp only [List.getElem?_toArray, List.getElem?_cons_succ, List.getElem?_cons_zero, Option.some.injEq] at ho; subst ho; (try dsimp only at hSw); go_simp; try with_reducible rfl)
                  (try simp only [Act.put, List.setIfInBounds_toArray, List.set_cons_zero, List.set_cons_succ])
                  refine wpAnyH_takeD 6 57 (v := ?_) (by kernel_rfl) (by kernel_rfl) (by kernel_rfl) (by kernel_rfl) (by rfl) (fun _ _ _ h => h) ?_ hHeld ?_
                  rotate_left 1
                  (intro o ho W hSw; simp only [List.getElem?_toArray, List.getElem?_cons_succ, List.getElem?_cons_zero, Option.some.injEq] at ho; subst ho; (try dsimp only at hSw); go_simp; try with_reducible rfl)
                  (try simp only [Act.put, List.setIfInBounds_toArray, List.set_cons_zero, List.set_cons_succ])
                  refine wpAnyH_onlyD 7 (by kernel_rfl) (fun o ho K hK => ?_) (by kernel_rfl)
                  simp only [List.getElem?_toArray, List.getElem?_cons_succ, List.getElem?_cons_zero, Option.some.injEq] at ho
                  subst ho
                  go_simp
                  refine hK.out _ _ ⟨((K2.out.alloc _).b n1 _ (by simp)).h5, ((K2.out.alloc _).b n2 _ (by simp)).h5⟩ ?_
                  clear hK K hHeld
                  intro hHeld
                  have K3 := Lib.hid (K2.out.alloc (.cells #[.bool false, .int .u64 0, .int .u64 0, .int .u64 0, .int .u64 0] 48))
                  have V3 := Lib.hid (BW.new w2 w2.heap.size [.bool false, .int .u64 0, .int .u64 0, .int .u64 0, .int .u64 0] 48 rfl)
                  have hne := ar_ne K2.out
                  have hz4 : w.heap.size ≤ w2.heap.size := K2.out.l.size
                  clear K2
                  generalize w2.alloc (.cells #[.bool false, .int .u64 0, .int .u64 0, .int .u64 0, .int .u64 0] 48) = wa at *
                  generalize w2.heap.size = n4 at *
                  obtain ⟨v0, v1, v2, v3, v4⟩ := V3.out.h5
                  have vf := V3.out.f
                  have KF := Lib.hid (K3.out.far5 hz4 hne (.bool (decide (A < 0))) (.int .u64 (d0 A.natAbs)) (.int .u64 (d1 A.natAbs)) (.int .u64 (d2 A.natAbs)) (.int .u64 (d3 A.natAbs)))
                  refine wpAnyH_onlyD 8 (by kernel_rfl) (fun o ho K hK => ?_) (by kernel_rfl)
                  simp only [List.getElem?_toArray, List.getElem?_cons_succ, List.getElem?_cons_zero, Option.some.injEq] at ho
                  subst ho
                  go_simp
                  refine hK.out _ _ (⟨(KF.out.b n1 _ (by simp)).h5, (KF.out.b n2 _ (by simp)).h5⟩) ?_
                  clear hK K hHeld
                  intro hHeld
                  refine wpAnyH_takeD 9 13 (v := ?_) (by kernel_rfl) (by kernel_rfl) (by kernel_rfl) (by kernel_rfl) (by rfl) (fun _ _ _ h => h) ?_ hHeld ?_
                  rotate_left 1
                  (intro o ho W hSw; simp only [List.getElem?_toArray, List.getElem?_cons_succ, List.getElem?_cons_zero, Option.some.injEq] at ho; subst ho; (try dsimp only at hSw); go_simp; try with_reducible rfl)
                  (try simp only [Act.put, List.setIfInBounds_toArray, List.set_cons_zero, List.set_cons_succ])
                  refine wpAnyH_done (by kernel_rfl) ?_ _
                  go_wp2_with fail
                  go_meet
                  exact ⟨_, rfl, St.cons (V3.out.put5 _ _ _ _ _) (St.cons (KF.out.b n1 _ (by simp)) (St.nil KF.out.l))⟩
                · skip
                  simp only [List.getElem?_toArray, List.getElem?_cons_succ, List.getElem?_cons_zero, Option.some.injEq] at ho
                  subst ho
                  go_simp
                  refine hK.out _ _ ⟨((K1.out.alloc _).b n1 _ (by simp)).h5, ((K1.out.alloc _).b n2 _ (by simp)).h5⟩ ?_
                  clear hK K hHeld
                  intro hHeld
                  have K2 := Lib.hid (K1.out.alloc (.cells #[.bool false, .int .u64 0, .int .u64 0, .int .u64 0, .int .u64 0] 48))
                  have V2 := Lib.hid (BW.new w1 w1.heap.size [.bool false, .int .u64 0, .int .u64 0, .int .u64 0, .int .u64 0] 48 rfl)
                  have hne := ar_ne K1.out
                  have hz4 : w.heap.size ≤ w1.heap.size := K1.out.l.size
                  clear K1
                  generalize w1.alloc (.cells #[.bool false, .int .u64 0, .int .u64 0, .int .u64 0, .int .u64 0] 48) = wa at *
                  generalize w1.heap.size = n4 at *
                  refine wpAnyH_onlyD 3 (by kernel_rfl) (fun o ho K hK => ?_) (by kernel_rfl)
                  simp only [List.getElem?_toArray, List.getElem?_cons_succ, List.getElem?_cons_zero, Option.some.injEq] at ho
                  subst ho
                  go_simp
                  refine (X5.out _).mono ?_
                  rintro e w3 ⟨rfl, h⟩
                  have K3 := Lib.hid (K2.out.step h)
                  (try have V3 := Lib.hid (V2.out.below h V2.out.lt))
                  go_wp2_with fail
                  refine hK.out _ _ (⟨(K3.out.b n1 _ (by simp)).h5, (K3.out.b n2 _ (by simp)).h5⟩) ?_
                  clear hK K hHeld
                  intro hHeld
                  clear h K2
                  (try clear V2)
                  refine wpAnyH_takeD 4 51 (v := ?_) (by kernel_rfl) (by kernel_rfl) (by kernel_rfl) (by kernel_rfl) (by rfl) (fun _ _ _ h => h) ?_ hHeld ?_
                  rotate_left 1
                  (intro o ho W hSw; simp only [List.getElem?_toArray, List.getElem?_cons_succ, List.getElem?_cons_zero, Option.some.injEq] at ho; subst ho; (try dsimp only at hSw); go_simp; try with_reducible rfl)
                  (try simp only [Act.put, List.setIfInBounds_toArray, List.set_cons_zero, List.set_cons_succ])
                  refine wpAnyH_takeD 5 56 (v := ?_) (by kernel_rfl) (by kernel_rfl) (by kernel_rfl) (by kernel_rfl) (by rfl) (fun _ _ _ h => h) ?_ hHeld ?_
                  rotate_left 1
                  (intro o ho W hSw; simp only [List.getElem?_toArray, List.getElem?_cons_succ, List.getElem?_cons_zero, Option.some.injEq] at ho; subst ho; (try dsimp only at hSw); go_simp; try with_reducible rfl)
                  (try simp only [Act.put, List.setIfInBounds_toArray, List.set_cons_zero, List.set_cons_succ])
                  refine wpAnyH_takeD 6 57 (v := ?_) (by kernel_rfl) (by kernel_rfl) (by kernel_rfl) (by kernel_rfl) (by rfl) (fun _ _ _ h => h) ?_ hHeld ?_
                  rotate_left 1
                  (intro o ho W hSw; simp only [List.getElem?_toArray, List.getElem?_cons_succ, List.getElem?_cons_zero, Option.some.injEq] at ho; subst ho; (try dsimp only at hSw); go_simp; try with_reducible rfl)
                  (try simp only [Act.put, List.setIfInBounds_toArray, List.set_cons_zero, List.set_cons_succ])
                  obtain ⟨v0, v1, v2, v3, v4⟩ := V3.out.h5
                  have vf := V3.out.f
                  have KF := Lib.hid (K3.out.far5 hz4 hne (.bool (decide (A < 0))) (.int .u64 (d0 A.natAbs)) (.int .u64 (d1 A.natAbs)) (.int .u64 (d2 A.natAbs)) (.int .u64 (d3 A.natAbs)))
                  refine wpAnyH_onlyD 8 (by kernel_rfl) (fun o ho K hK => ?_) (by kernel_rfl)
                  simp only [List.getElem?_toArray, List.getElem?_cons_succ, List.getElem?_cons_zero, Option.some.injEq] at ho
                  subst ho
                  go_simp
                  refine hK.out _ _ (⟨(KF.out.b n1 _ (by simp)).h5, (KF.out.b n2 _ (by simp)).h5⟩) ?_
                  clear hK K hHeld
                  intro hHeld
                  refine wpAnyH_takeD 9 13 (v := ?_) (by kernel_rfl) (by kernel_rfl) (by kernel_rfl) (by kernel_rfl) (by rfl) (fun _ _ _ h => h) ?_ hHeld ?_
                  rotate_left 1
                  (intro o ho W hSw; simp only [List.getElem?_toArray, List.getElem?_cons_succ, List.getElem?_cons_zero, Option.some.injEq] at ho; subst ho; (try dsimp only at hSw); go_simp; try with_reducible rfl)
                  (try simp only [Act.put, List.setIfInBounds_toArray, List.set_cons_zero, List.set_cons_succ])
                  refine wpAnyH_done (by kernel_rfl) ?_ _
                  go_wp2_with fail
                  go_meet
                  exact ⟨_, rfl, St.cons (V3.out.put5 _ _ _ _ _) (St.cons (KF.out.b n1 _ (by simp)) (St.nil KF.out.l))⟩
              · skip
                simp only [List.getElem?_toArray, List.getElem?_cons_succ, List.getElem?_cons_zero, Option.some.injEq] at ho
                subst ho
                go_simp
                refine hK.out _ _ ⟨((K0.out.alloc _).b n1 _ (by simp)).h5, ((K0.out.alloc _).b n2 _ (by simp)).h5⟩ ?_
                clear hK K hHeld
                intro hHeld
                have K1 := Lib.hid (K0.out.alloc (.cells #[.bool false, .int .u64 0, .int .u64 0, .int .u64 0, .int .u64 0] 48))
                have V1 := Lib.hid (BW.new w0 w0.heap.size [.bool false, .int .u64 0, .int .u64 0, .int .u64 0, .int .u64 0] 48 rfl)
                have hne := ar_ne K0.out
                have hz4 : w.heap.size ≤ w0.heap.size := K0.out.l.size
                clear K0
                generalize w0.alloc (.cells #[.bool false, .int .u64 0, .int .u64 0, .int .u64 0, .int .u64 0] 48) = wa at *
                generalize w0.heap.size = n4 at *
                refine wpAnyH_onlyD 2 (by kernel_rfl) (fun o ho K hK => ?_) (by kernel_rfl)
                simp only [List.getElem?_toArray, List.getElem?_cons_succ, List.getElem?_cons_zero, Option.some.injEq] at ho
                subst ho
                go_simp
                refine (X6.out _).mono ?_
                rintro e w2 ⟨rfl, h⟩
                have K2 := Lib.hid (K1.out.step h)
                (try have V2 := Lib.hid (V1.out.below h V1.out.lt))
                go_wp2_with fail
                refine hK.out _ _ (⟨(K2.out.b n1 _ (by simp)).h5, (K2.out.b n2 _ (by simp)).h5⟩) ?_
                clear hK K hHeld
                intro hHeld
                clear h K1
                (try clear V1)
                refine wpAnyH_onlyD 3 (by kernel_rfl) (fun o ho K hK => ?_) (by kernel_rfl)
                simp only [List.getElem?_toArray, List.getElem?_cons_succ, List.getElem?_cons_zero, Option.some.injEq] at ho
                subst ho
                go_simp
                refine (X5.out _).mono ?_
                rintro e w3 ⟨rfl, h⟩
                have K3 := Lib.hid (K2.out.step h)
                (try have V3 := Lib.hid (V2.out.below h V2.out.lt))
                go_wp2_with fail
                refine hK.out _ _ (⟨(K3.out.b n1 _ (by simp)).h5, (K3.out.b n2 _ (by simp)).h5⟩) ?_
                clear hK K hHeld
                intro hHeld
                clear h K2
                (try clear V2)
                refine wpAnyH_takeD 4 51 (v := ?_) (by kernel_rfl) (by kernel_rfl) (by kernel_rfl) (by kernel_rfl) (by rfl) (fun _ _ _ h => h) ?_ hHeld ?_
                rotate_left 1
                (intro o ho W hSw; simp only [List.getElem?_toArray, List.getElem?_cons_succ, List.getElem?_cons_zero, Option.some.injEq] at ho; subst ho; (try dsimp only at hSw); go_simp; try with_reducible rfl)
                (try simp only [Act.put, List.setIfInBounds_toArray, List.set_cons_zero, List.set_cons_succ])
                refine wpAnyH_takeD 5 56 (v := ?_) (by kernel_rfl) (by kernel_rfl) (by kernel_rfl) (by kernel_rfl) (by rfl) (fun _ _ _ h => h) ?_ hHeld ?_
                rotate_left 1
                (intro o ho W hSw; simp only [List.getElem?_toArray, List.getElem?_cons_succ, List.getElem?_cons_zero, Option.some.injEq] at ho; subst ho; (try dsimp only at hSw); go_simp; try with_reducible rfl)
                (try simp only [Act.put, List.setIfInBounds_toArray, List.set_cons_zero, List.set_cons_succ])
                refine wpAnyH_takeD 6 57 (v := ?_) (by kernel_rfl) (by kernel_rfl) (by kernel_rfl) (by kernel_rfl) (by rfl) (fun _ _ _ h => h) ?_ hHeld ?_
                rotate_left 1
                (intro o ho W hSw; simp only [List.getElem?_toArray, List.getElem?_cons_succ, List.getElem?_cons_zero, Option.some.injEq] at ho; subst ho; (try dsimp only at hSw); go_simp; try with_reducible rfl)
                (try simp only [Act.put, List.setIfInBounds_toArray, List.set_cons_zero, List.set_cons_succ])
                obtain ⟨v0, v1, v2, v3, v4⟩ := V3.out.h5
                have vf := V3.out.f
                have KF := Lib.hid (K3.out.far5 hz4 hne (.bool (decide (A < 0))) (.int .u64 (d0 A.natAbs)) (.int .u64 (d1 A.natAbs)) (.int .u64 (d2 A.natAbs)) (.int .u64 (d3 A.natAbs)))
                refine wpAnyH_onlyD 8 (by kernel_rfl) (fun o ho K hK => ?_) (by kernel_rfl)
                simp only [List.getElem?_toArray, List.getElem?_cons_succ, List.getElem?_cons_zero, Option.some.injEq] at ho
                subst ho
                go_simp
                refine hK.out _ _ (⟨(KF.out.b n1 _ (by simp)).h5, (KF.out.b n2 _ (by simp)).h5⟩) ?_
                clear hK K hHeld
                intro hHeld
                refine wpAnyH_takeD 9 13 (v := ?_) (by kernel_rfl) (by kernel_rfl) (by kernel_rfl) (by kernel_rfl) (by rfl) (fun _ _ _ h => h) ?_ hHeld ?_
                rotate_left 1
                (intro o ho W hSw; simp only [List.getElem?_toArray, List.getElem?_cons_succ, List.getElem?_cons_zero, Option.some.injEq] at ho; subst ho; (try dsimp only at hSw); go_simp; try with_reducible rfl)
                (try simp only [Act.put, List.setIfInBounds_toArray, List.set_cons_zero, List.set_cons_succ])
                refine wpAnyH_done (by kernel_rfl) ?_ _
                go_wp2_with fail
                go_meet
                exact ⟨_, rfl, St.cons (V3.out.put5 _ _ _ _ _) (St.cons (KF.out.b n1 _ (by simp)) (St.nil KF.out.l))⟩
            case rest =>
              obtain ⟨n3, rfl, HV⟩ := hcut
              clear K0
              have K0 := Lib.hid HV.drew
              clear HV
              go_wp2_with fail
              refine wp_region_held_drew (S := fun W => (W.cell? ⟨n3, 0, none⟩ = some (.bool (decide (A < 0))) ∧ W.cell? ⟨n3, 1, none⟩ = some (.int .u64 (d0 (A).natAbs)) ∧ W.cell? ⟨n3, 2, none⟩ = some (.int .u64 (d1 (A).natAbs)) ∧ W.cell? ⟨n3, 3, none⟩ = some (.int .u64 (d2 (A).natAbs)) ∧ W.cell? ⟨n3, 4, none⟩ = some (.int .u64 (d3 (A).natAbs))) ∧ (W.cell? ⟨n1, 0, none⟩ = some (.bool (decide (s < 0))) ∧ W.cell? ⟨n1, 1, none⟩ = some (.int .u64 (d0 (s).natAbs)) ∧ W.cell? ⟨n1, 2, none⟩ = some (.int .u64 (d1 (s).natAbs)) ∧ W.cell? ⟨n1, 3, none⟩ = some (.int .u64 (d2 (s).natAbs)) ∧ W.cell? ⟨n1, 4, none⟩ = some (.int .u64 (d3 (s).natAbs)))) (by kernel_rfl) ⟨(K0.out.b n3 _ (by simp)).h5, (K0.out.b n1 _ (by simp)).h5⟩ (fun hHeld => ?_)
              generalize wc.drew = w0 at *
              refine wpAnyH_takeD 0 58 (v := ?_) (by kernel_rfl) (by kernel_rfl) (by kernel_rfl) (by kernel_rfl) (by rfl) (fun _ _ _ h => h) ?_ hHeld ?_
              rotate_left 1
              (intro o ho W hSw; simp only [List.getElem?_toArray, List.getElem?_cons_succ, List.getElem?_cons_zero, Option.some.injEq] at ho; subst ho; (try dsimp only at hSw); go_simp; try with_reducible rfl)
              (try simp only [Act.put, List.setIfInBounds_toArray, List.set_cons_zero, List.set_cons_succ])
              refine wpAnyH_takeD 2 60 (v := ?_) (by kernel_rfl) (by kernel_rfl) (by kernel_rfl) (by kernel_rfl) (by rfl) (fun _ _ _ h => h) ?_ hHeld ?_
              rotate_left 1
              (intro o ho W hSw; simp only [List.getElem?_toArray, List.getElem?_cons_succ, List.getElem?_cons_zero, Option.some.injEq] at ho; subst ho; (try dsimp only at hSw); go_simp; try with_reducible rfl)
              (try simp only [Act.put, List.setIfInBounds_toArray, List.set_cons_zero, List.set_cons_succ])
              refine wpAnyH_onlyD 1 (by kernel_rfl) (fun o ho K hK => ?_) (by kernel_rfl)
              simp only [List.getElem?_toArray, List.getElem?_cons_succ, List.getElem?_cons_zero, Option.some.injEq] at ho
              subst ho
              go_simp
              refine (X6.out _).mono ?_
              rintro e w1 ⟨rfl, h⟩
              have K1 := Lib.hid (K0.out.step h)
              go_wp2_with fail
              refine hK.out _ _ (⟨(K1.out.b n3 _ (by simp)).h5, (K1.out.b n1 _ (by simp)).h5⟩) ?_
              clear hK K hHeld
              intro hHeld
              clear h K0
              refine wpAnyH_onlyD 3 (by kernel_rfl) (fun o ho K hK => ?_) (by kernel_rfl)
              simp only [List.getElem?_toArray, List.getElem?_cons_succ, List.getElem?_cons_zero, Option.some.injEq] at ho
              subst ho
              go_simp
              refine (X7.out _).mono ?_
              rintro e w2 ⟨rfl, h⟩
              have K2 := Lib.hid (K1.out.step h)
              go_wp2_with fail
              refine hK.out _ _ (⟨(K2.out.b n3 _ (by simp)).h5, (K2.out.b n1 _ (by simp)).h5⟩) ?_
              clear hK K hHeld
              intro hHeld
              clear h K1
              refine wpAnyH_takeD 4 8 (v := ?_) (by kernel_rfl) (by kernel_rfl) (by kernel_rfl) (by kernel_rfl) (by rfl) (fun _ _ _ h => h) ?_ hHeld ?_
              rotate_left 1
              (intro o ho W hSw; simp only [List.getElem?_toArray, List.getElem?_cons_succ, List.getElem?_cons_zero, Option.some.injEq] at ho; subst ho; (try dsimp only at hSw); go_simp; try with_reducible rfl)
              (try simp only [Act.put, List.setIfInBounds_toArray, List.set_cons_zero, List.set_cons_succ])
              refine wpAnyH_takeD 5 9 (v := ?_) (by kernel_rfl) (by kernel_rfl) (by kernel_rfl) (by kernel_rfl) (by rfl) (fun _ _ _ h => h) ?_ hHeld ?_
              rotate_left 1
              (intro o ho W hSw; simp only [List.getElem?_toArray, List.getElem?_cons_succ, List.getElem?_cons_zero, Option.some.injEq] at ho; subst ho; (try dsimp only at hSw); go_simp; try with_reducible rfl)
              (try simp only [Act.put, List.setIfInBounds_toArray, List.set_cons_zero, List.set_cons_succ])
              refine wpAnyH_done (by kernel_rfl) ?_ _
              go_wp2
              go_ret2
              exact ⟨retIB EF.out.symm rfl, K2.out.l⟩
          · have c4' : 0 ≤ f := by omega
            have EE : r2 = false := by rw [E1.out, decide_eq_false_iff_not]; rintro ⟨_, _, _, g⟩; omega
            have EF := Lib.hid (E3.out EE)
            subst EE
            go_wp2
            go_ret2
            exact ⟨retIB EF.out.symm rfl, K8.out.l⟩
      · have c2' : v ≤ 0 := by omega
        have EE : r2 = false := by rw [E1.out, decide_eq_false_iff_not]; rintro ⟨_, g, _⟩; omega
        have EF := Lib.hid (E3.out EE)
        subst EE
        go_wp2
        go_ret2
        exact ⟨retIB EF.out.symm rfl, K6.out.l⟩
  · have hP : ¬ (Pt.near ⟨ax, ay⟩ ∧ Pt.near ⟨bx, by'⟩ ∧ Pt.near ⟨px, py⟩ ∧ Pt.near ⟨qx, qy⟩) := h
    have EE : crossP ⟨ax, ay⟩ ⟨bx, by'⟩ ⟨px, py⟩ ⟨qx, qy⟩ = false := by unfold crossP; rw [decide_eq_false_iff_not]; exact fun k => hP k.1
    have EF := Lib.hid (cross_no EE)
    rw [EE, EF.out]
    have N := Lib.hid (fun (n : Nat) (W : World) (B : BW W n [.int .i64 ax, .int .i64 ay, .int .i64 bx, .int .i64 by', .int .i64 px, .int .i64 py, .int .i64 qx, .int .i64 qy]) => rNear4_any ax ay bx by' px py qx qy n W B)
    rw [decide_eq_false h] at N
    clear h hP EE
    go_enter Try.func14, Try.ntmps14
    go_wp2_with fail
    refine (N.out _ _ (BW.new _ _ [_, _, _, _, _, _, _, _] _ (by simp))).mono ?_
    rintro e w1 ⟨rfl, rfl⟩
    go_wp2
    go_ret2
    exact ⟨rfl, by repeat (first | exact Below.refl _ _ | assumption | refine Below.setCell ?_ (by first | omega | (simp; done) | (simp; omega)) _ | refine Below.alloc ?_ (by first | omega | (simp; done) | (simp; omega)) _ | refine below_drewN ?_ _ | refine Below.drew ?_ | refine Below.trans ?_ (Below.mono (by assumption) (by first | omega | (simp; done) | (simp; omega))))⟩
end Go.Proofs.Ytmfmdipejlnmfaa

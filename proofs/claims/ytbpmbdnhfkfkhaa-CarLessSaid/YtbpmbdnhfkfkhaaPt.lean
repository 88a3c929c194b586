/- Contracts of the program's pane: counted, bounded, shaped, rising, Right. -/
import Derived.Test.YtbpmbdnhfkfkhaaPs
namespace Go.Proofs.Ytbpmbdnhfkfkhaa
open Go.RowKit
set_option linter.unusedVariables false
set_option linter.unusedSimpArgs false

def cntPn (n : Nat) : Prop := 2 ≤ n ∧ n ≤ 32
instance (n : Nat) : Decidable (cntPn n) := by unfold cntPn; exact inferInstance
theorem pCounted_any (a : Option Addr) (n c : Nat) (w : World) (hmax : n ≤ 100) :
    Calls Try.prog 74 #[.slice a n c] w fun e w' => e = .returned (.bool (decide (cntPn n))) ∧ w' = w := by
  by_cases h : 2 ≤ n
  · have E := Lib.hid (show decide (cntPn n) = decide ((n : Int) ≤ 32) by rw [decide_eq_decide]; unfold cntPn; omega)
    have h1 : (2 : Int) ≤ n := by omega
    rw [E.out]
    go_enter Try.func74, Try.ntmps74
    go_wp2
    go_ret
    exact ⟨retB (by simp [h]), rfl⟩
  · have E := Lib.hid (show decide (cntPn n) = false by rw [decide_eq_false_iff_not]; unfold cntPn; omega)
    have h1 : ¬ (2 : Int) ≤ n := by omega
    rw [E.out]
    go_enter Try.func74, Try.ntmps74
    go_wp2
    go_ret
    exact ⟨retB (by simp [h]), rfl⟩
theorem pBnd1_any (n : Int) (w : World) :
    Calls Try.prog 76 #[.int .i64 n] w fun e w' => e = .returned (.bool (decide (inT n))) ∧ Below w.heap.size w w' := by
  by_cases h : -4503599627370496 ≤ n
  · have E := Lib.hid (show decide (inT n) = decide (n ≤ 4503599627370496) by rw [decide_eq_decide]; unfold inT; omega)
    rw [E.out]
    go_enter Try.func76, Try.ntmps76
    go_wp2
    go_ret
    exact ⟨retB (by simp [h]), Below.refl _ _⟩
  · have E := Lib.hid (show decide (inT n) = false by rw [decide_eq_false_iff_not]; unfold inT; omega)
    rw [E.out]
    go_enter Try.func76, Try.ntmps76
    go_wp2
    go_ret
    exact ⟨retB (by simp [h]), Below.refl _ _⟩
theorem pBounded_any (s : Sl) (B : Nat) (w : World) (hB : B ≤ w.heap.size) (hmax : s.n ≤ 100) (N : Nums B w s) :
    Calls Try.prog 56 #[.slice s.a s.n s.c] w fun e w' => e = .returned (.bool (decide (inS s))) ∧ Below w.heap.size w w' := by
  have X := Lib.hid (pAllF_any 76 #[] s.a s.n s.c s.v (fun i => decide (inT (s.v i))) w hmax (fun h0 => by
      obtain ⟨b, off, e, hb, hc⟩ := N.at' h0
      exact ⟨b, off, e, by omega, hc⟩) (fun _ _ => rfl) (fun i wr _ _ => pBnd1_any (s.v i) wr))
  have E := Lib.hid (show decide (∀ i, i < s.n → decide (inT (s.v i)) = true) = decide (inS s) by rw [decide_eq_decide]; unfold inS; simp)
  rw [E.out] at X
  generalize decide (inS s) = q at *
  clear N E
  obtain ⟨a, n, c, v⟩ := s
  dsimp only at *
  go_enter Try.func56, Try.ntmps56
  go_wp2_with fail
  refine X.out.mono ?_
  rintro e w1 ⟨rfl, h⟩
  go_wp2
  go_ret
  exact ⟨rfl, h⟩
theorem pShape1_any (a : Option Addr) (n c m : Nat) (xa : Option Addr) (xn xc : Nat) (w : World) (hc : w.cell? ⟨m, 0, none⟩ = some (.slice xa xn xc)) (hm : m < w.heap.size) :
    Calls Try.prog 73 #[.slice a n c, .pointer (some ⟨m, 0, none⟩)] w fun e w' => e = .returned (.bool (decide (n = xn))) ∧ Below w.heap.size w w' := by
  have E := Lib.hid (show decide (n = xn) = ((n : Int) == (xn : Int)) by rw [Bool.eq_iff_iff]; simp; omega)
  rw [E.out]
  clear E
  go_enter Try.func73, Try.ntmps73
  go_wp2
  go_ret
  exact ⟨rfl, by repeat (first | exact Below.refl _ _ | assumption | refine Below.setCell ?_ (by first | omega | (simp; done) | (simp; omega)) _ | refine Below.alloc ?_ (by first | omega | (simp; done) | (simp; omega)) _ | refine below_drewN ?_ _ | refine Below.drew ?_ | refine Below.trans ?_ (Below.mono (by assumption) (by first | omega | (simp; done) | (simp; omega))))⟩
set_option maxHeartbeats 2000000 in
theorem pRising_any (a : Option Addr) (n c : Nat) (v : Nat → Int) (B : Nat) (w : World) (hB : B ≤ w.heap.size) (hmax : n ≤ 100) (N : Nums B w ⟨a, n, c, v⟩) :
    Calls Try.prog 58 #[.slice a n c] w fun e w' => e = .returned (.bool (decide (upS ⟨a, n, c, v⟩))) ∧ Below w.heap.size w w' := by
  have HN := Lib.hid N
  obtain ⟨r, hr⟩ : ∃ r, (decide (upS ⟨a, n, c, v⟩)) = r := ⟨_, rfl⟩
  rw [hr]
  have R := Lib.hid hr
  clear hr N
  go_enter Try.func58, Try.ntmps58
  go_wp2
  go_loopw [3] (fun i wr => ∃ j : Nat, (j ≤ n ∨ j = 1) ∧ 0 < j ∧ i = .int .i64 j ∧ Hid (∀ k, k < j → k < n → 0 < k → v (k - 1) < v k) ∧ Below w.heap.size w wr ∧ Nums B wr ⟨a, n, c, v⟩) (fun i _ => n - (intOf i).toNat)
  case atStart => exact ⟨1, Or.inr rfl, by omega, rfl, Lib.hid (fun k h h1 h2 => absurd h (by omega)), Below.refl _ _, HN.out⟩
  case round =>
    obtain ⟨j, hj, h0, rfl, I, hB, hC⟩ := hrel
    have B1 := Lib.hid hB
    have C1 := Lib.hid hC
    clear hB hC HN
    by_cases hlt : j < n
    · obtain ⟨b, off, ha, hb, hcell⟩ := C1.out.at' (by show 0 < n; omega)
      dsimp only at ha hcell
      subst ha
      obtain ⟨i, hi⟩ : ∃ i, i + 1 = j := ⟨j - 1, by omega⟩
      have c0 : wr.cell? ⟨b, off + j, none⟩ = some (.int .i64 (v j)) := hcell j hlt
      have c1 : wr.cell? ⟨b, off + i, none⟩ = some (.int .i64 (v i)) := hcell i (by omega)
      have u1 : IntKind.i64.wrap ((j : Int) - 1) = (i : Int) := by rw [show (j : Int) - 1 = i by omega]; exact IntWalk.i64_in _ (by omega)
      have u2 : wrap64 ((j : Int) - 1) = (i : Int) := by unfold wrap64; omega
      have hin : i < n := by omega
      clear hcell hb
      have e : j - 1 = i := by omega
      by_cases hv : v i < v j
      · have I2 := Lib.hid (all_next (P := fun k => k < n → 0 < k → v (k - 1) < v k) I.out (fun _ _ => by rw [e]; exact hv))
        have J := Lib.hid hi
        clear I e hi
        have z0 : (0 : Int) ≤ (j : Int) := by omega
        have z1 : (j : Int) < (n : Int) := by omega
        have z2 : (0 : Int) ≤ (i : Int) := by omega
        have z3 : (i : Int) < (n : Int) := by omega
        go_wp2
        go_quiet (fail)
        go_wp2
        go_roundw
        case rel => exact ⟨j + 1, Or.inl (by omega), by omega, by go_num, I2, below_drewN B1.out _, C1.out.keep (below_drewN (Below.refl _ _) _) (by have := B1.out.size; omega)⟩
        case measure => simp [intOf]; omega
      · have E := Lib.hid (show false = r by rw [← R.out, decide_eq_false (show ¬ upS ⟨some ⟨b, off, none⟩, n, c, v⟩ from fun k => hv (by have := k j hlt h0; dsimp only at this; rw [e] at this; exact this))])
        have J := Lib.hid hi
        clear I e hi
        have z0 : (0 : Int) ≤ (j : Int) := by omega
        have z1 : (j : Int) < (n : Int) := by omega
        have z2 : (0 : Int) ≤ (i : Int) := by omega
        have z3 : (i : Int) < (n : Int) := by omega
        go_wp2
        go_quiet (fail)
        go_wp2
        go_ret
        exact ⟨by rw [← E.out]; rfl, below_drewN B1.out _⟩
    · have E := Lib.hid (show true = r by rw [← R.out, decide_eq_true (show upS ⟨a, n, c, v⟩ from fun k hk h => I.out k (by have : k < n := hk; omega) hk h)])
      clear I
      go_wp2
      go_ret
      exact ⟨by rw [← E.out]; rfl, B1.out⟩
set_option maxHeartbeats 4000000 in
theorem pShaped_any (p : Pn) (B : Nat) (w : World) (hB : B ≤ w.heap.size) (F : fewP p) (K : Pan B w p) :
    Calls Try.prog 55 #[.agg #[.slice p.x.a p.x.n p.x.c, .slice p.y.a p.y.n p.y.c, .slice p.a p.n p.c]] w fun e w' => e = .returned (.bool (decide (shapeP p))) ∧ Below w.heap.size w w' := by
  obtain ⟨q, hq⟩ : ∃ q, decide (shapeP p) = q := ⟨_, rfl⟩
  rw [hq]
  have Q0 := Lib.hid (PQ.new 33 K hB)
  have HQ := Lib.hid hq
  have X := Lib.hid (fun (W : World) (Q : PQ w W B w.heap.size p) => pAllS_any 73 #[.pointer (some ⟨w.heap.size, 0, none⟩)] p.a p.n p.c p.r (fun i => decide ((p.r i).n = p.x.n)) W (by have := F.2.2.1; omega) (fun h0 => by
      obtain ⟨b, off, e, hb, hc⟩ := Q.p.at' h0
      exact ⟨b, off, e, by have := Q.l.size; omega, hc⟩) (fun _ _ => rfl) (fun i wr _ hb => pShape1_any (p.r i).a (p.r i).n (p.r i).c w.heap.size p.x.a p.x.n p.x.c wr ((hb.cell (p := ⟨w.heap.size, 0, none⟩) Q.k.lt).trans (Q.k.c 0 _ rfl)) (by have := Q.k.lt; have := hb.size; omega)))
  have hmf : ∀ (fn : Fn) (first cap : Array Value) (w : World), (Instr.makeFunc fn first cap).run Try.prog w = .ok (.func fn first cap) w := fun _ _ _ _ => rfl
  have bx := F.1
  have by' := F.2.1
  have bn := F.2.2.1
  clear hq K F
  obtain ⟨⟨xa, xn, xc, xv⟩, ⟨ya, yn, yc, yv⟩, a, n, c, r⟩ := p
  dsimp only at *
  have CX := Lib.hid (fun (W : World) => pCounted_any xa xn xc W (by omega))
  have CY := Lib.hid (fun (W : World) => pCounted_any ya yn yc W (by omega))
  by_cases hx : cntPn xn
  rotate_left
  · have E := Lib.hid (show false = q by rw [← HQ.out, eq_comm, decide_eq_false_iff_not]; exact fun h => hx ⟨h.1.1, h.1.2.1⟩)
    rw [decide_eq_false hx] at CX
    clear X HQ CY hx
    go_enter Try.func55, Try.ntmps55
    go_wp2_with fail
    refine (CX.out _).mono ?_
    rintro e w1 ⟨rfl, rfl⟩
    go_wp2
    go_ret
    exact ⟨by rw [← E.out]; rfl, Q0.out.l⟩
  rw [decide_eq_true hx] at CX
  by_cases hy : cntPn yn
  rotate_left
  · have E := Lib.hid (show false = q by rw [← HQ.out, eq_comm, decide_eq_false_iff_not]; exact fun h => hy ⟨h.1.2.2.1, h.1.2.2.2.1⟩)
    rw [decide_eq_false hy] at CY
    clear X HQ hy hx
    go_enter Try.func55, Try.ntmps55
    go_wp2_with fail
    refine (CX.out _).mono ?_
    rintro e w1 ⟨rfl, rfl⟩
    go_wp2_with fail
    refine (CY.out _).mono ?_
    rintro e w1 ⟨rfl, rfl⟩
    go_wp2
    go_ret
    exact ⟨by rw [← E.out]; rfl, Q0.out.l⟩
  rw [decide_eq_true hy] at CY
  by_cases hn : n = yn
  rotate_left
  · have E := Lib.hid (show false = q by rw [← HQ.out, eq_comm, decide_eq_false_iff_not]; exact fun h => hn h.1.2.2.2.2)
    have hn2 : ¬ (n : Int) = (yn : Int) := by omega
    clear X HQ hy hx hn
    go_enter Try.func55, Try.ntmps55
    go_wp2_with fail
    refine (CX.out _).mono ?_
    rintro e w1 ⟨rfl, rfl⟩
    go_wp2_with fail
    refine (CY.out _).mono ?_
    rintro e w1 ⟨rfl, rfl⟩
    go_wp2
    go_ret
    exact ⟨by rw [← E.out]; rfl, Q0.out.l⟩
  subst hn
  have E := Lib.hid (show decide (∀ i, i < n → decide ((r i).n = xn) = true) = q by
    rw [← HQ.out, decide_eq_decide]
    constructor
    · intro h
      exact ⟨⟨hx.1, hx.2, hy.1, hy.2, rfl⟩, fun i hi => of_decide_eq_true (h i hi)⟩
    · intro h i hi
      exact decide_eq_true (h.2 i hi))
  rw [E.out] at X
  clear HQ hx hy E
  go_enter Try.func55, Try.ntmps55
  go_wp2_with fail
  refine (CX.out _).mono ?_
  rintro e w1 ⟨rfl, rfl⟩
  go_wp2_with fail
  refine (CY.out _).mono ?_
  rintro e w1 ⟨rfl, rfl⟩
  go_wp2_with fail
  refine (X.out _ Q0.out).mono ?_
  rintro e w1 ⟨rfl, h⟩
  have Q1 := Lib.hid (Q0.out.step h)
  go_wp2
  go_ret
  exact ⟨rfl, Q1.out.l⟩
theorem paneR_bools (p : Pn) : (if decide (shapeP p) then (if decide (inS p.x) && (decide (inS p.y) && decide (∀ i, i < p.n → decide (inS (p.r i)) = true)) then (if decide (upS p.x) && decide (upS p.y) then (0 : Int) else 41) else 40) else 42) = paneR p := by
  unfold paneR
  by_cases h1 : shapeP p
  · rw [if_pos (decide_eq_true h1), if_pos h1]
    by_cases h2 : rangeP p
    · rw [if_pos (by simp only [Bool.and_eq_true, decide_eq_true_eq]; exact ⟨h2.1.1, h2.1.2, h2.2⟩), if_pos h2]
      by_cases h3 : orderP p
      · rw [if_pos (by simp only [Bool.and_eq_true, decide_eq_true_eq]; exact h3), if_pos h3]
      · rw [if_neg (by simp only [Bool.and_eq_true, decide_eq_true_eq]; exact h3), if_neg h3]
    · rw [if_neg (by simp only [Bool.and_eq_true, decide_eq_true_eq]; exact fun h => h2 ⟨⟨h.1, h.2.1⟩, h.2.2⟩), if_neg h2]
  · rw [if_neg (by simp only [decide_eq_true_eq]; exact h1), if_neg h1]
set_option maxHeartbeats 8000000 in
theorem pRight_any (p : Pn) (B : Nat) (w : World) (hB : B ≤ w.heap.size) (F : fewP p) (K : Pan B w p) :
    Calls Try.prog 42 #[.agg #[.slice p.x.a p.x.n p.x.c, .slice p.y.a p.y.n p.y.c, .slice p.a p.n p.c]] w fun e w' => e = .returned (.int .i64 (paneR p)) ∧ Below w.heap.size w w' := by
  obtain ⟨q, hq⟩ : ∃ q, paneR p = q := ⟨_, rfl⟩
  rw [hq]
  have Q0 := Lib.hid (PQ.new 33 K hB)
  have XS := Lib.hid (fun (W : World) (Q : PQ w W B w.heap.size p) => pShaped_any p B W (by have := Q.l.size; omega) F Q.p)
  have X1 := Lib.hid (fun (W : World) (Q : PQ w W B w.heap.size p) => pBounded_any p.x B W (by have := Q.l.size; omega) (by have := F.1; omega) Q.p.x)
  have X2 := Lib.hid (fun (W : World) (Q : PQ w W B w.heap.size p) => pRising_any p.x.a p.x.n p.x.c p.x.v B W (by have := Q.l.size; omega) (by have := F.1; omega) Q.p.x)
  have Y1 := Lib.hid (fun (W : World) (Q : PQ w W B w.heap.size p) => pBounded_any p.y B W (by have := Q.l.size; omega) (by have := F.2.1; omega) Q.p.y)
  have Y2 := Lib.hid (fun (W : World) (Q : PQ w W B w.heap.size p) => pRising_any p.y.a p.y.n p.y.c p.y.v B W (by have := Q.l.size; omega) (by have := F.2.1; omega) Q.p.y)
  have XR := Lib.hid (fun (W : World) (Q : PQ w W B w.heap.size p) => pAllS_any 56 #[] p.a p.n p.c p.r (fun i => decide (inS (p.r i))) W (by have := F.2.2.1; omega) (fun h0 => by
      obtain ⟨b, off, e, hb, hc⟩ := Q.p.at' h0
      exact ⟨b, off, e, by have := Q.l.size; omega, hc⟩) (fun _ _ => rfl) (fun i wr hi hb => pBounded_any (p.r i) B wr (by have := Q.l.size; have := hb.size; omega) (by have := F.2.2.2 i hi; omega) ((Q.p.r i hi).keep hb (by have := Q.l.size; omega))))
  have EQ := Lib.hid ((paneR_bools p).trans hq)
  clear hq K F
  rw [show decide (upS ⟨p.x.a, p.x.n, p.x.c, p.x.v⟩) = decide (upS p.x) from rfl] at X2
  rw [show decide (upS ⟨p.y.a, p.y.n, p.y.c, p.y.v⟩) = decide (upS p.y) from rfl] at Y2
  generalize decide (shapeP p) = s at *
  generalize decide (inS p.x) = x1 at *
  generalize decide (inS p.y) = y1 at *
  generalize decide (upS p.x) = x2 at *
  generalize decide (upS p.y) = y2 at *
  generalize decide (∀ i, i < p.n → decide (inS (p.r i)) = true) = r1 at *
  obtain ⟨⟨xa, xn, xc, xv⟩, ⟨ya, yn, yc, yv⟩, a, n, c, r⟩ := p
  dsimp only at *
  have c0 : True := trivial
  have c1 : True := trivial
  have c2 : True := trivial
  go_enter Try.func42, Try.ntmps42
  go_wp2_with fail
  refine (XS.out _ Q0.out).mono ?_
  rintro e w1 ⟨rfl, h⟩
  have Q1 := Lib.hid (Q0.out.step h)
  clear h XS Q0 c0 c1 c2
  obtain ⟨c0, c1, c2⟩ := Q1.out.k.h3
  dsimp only at c0 c1 c2
  cases s with
  | false =>
    go_wp2
    go_ret
    exact ⟨retI EQ.out, Q1.out.l⟩
  | true =>
    go_wp2_with fail
    refine (X1.out _ Q1.out).mono ?_
    rintro e w2 ⟨rfl, h⟩
    have Q2 := Lib.hid (Q1.out.step h)
    clear h X1 Q1 c0 c1 c2
    obtain ⟨c0, c1, c2⟩ := Q2.out.k.h3
    dsimp only at c0 c1 c2
    cases x1 with
    | false =>
      go_wp2
      go_ret
      exact ⟨retI EQ.out, Q2.out.l⟩
    | true =>
      go_wp2_with fail
      refine (Y1.out _ Q2.out).mono ?_
      rintro e w3 ⟨rfl, h⟩
      have Q3 := Lib.hid (Q2.out.step h)
      clear h Y1 Q2 c0 c1 c2
      obtain ⟨c0, c1, c2⟩ := Q3.out.k.h3
      dsimp only at c0 c1 c2
      cases y1 with
      | false =>
        go_wp2
        go_ret
        exact ⟨retI EQ.out, Q3.out.l⟩
      | true =>
        go_wp2_with fail
        refine (XR.out _ Q3.out).mono ?_
        rintro e w4 ⟨rfl, h⟩
        have Q4 := Lib.hid (Q3.out.step h)
        clear h XR Q3 c0 c1 c2
        obtain ⟨c0, c1, c2⟩ := Q4.out.k.h3
        dsimp only at c0 c1 c2
        cases r1 with
        | false =>
          go_wp2
          go_ret
          exact ⟨retI EQ.out, Q4.out.l⟩
        | true =>
          go_wp2_with fail
          refine (X2.out _ Q4.out).mono ?_
          rintro e w5 ⟨rfl, h⟩
          have Q5 := Lib.hid (Q4.out.step h)
          clear h X2 Q4 c0 c1 c2
          obtain ⟨c0, c1, c2⟩ := Q5.out.k.h3
          dsimp only at c0 c1 c2
          cases x2 with
          | false =>
            go_wp2
            go_ret
            exact ⟨retI EQ.out, Q5.out.l⟩
          | true =>
            go_wp2_with fail
            refine (Y2.out _ Q5.out).mono ?_
            rintro e w6 ⟨rfl, h⟩
            have Q6 := Lib.hid (Q5.out.step h)
            clear h Y2 Q5 c0 c1 c2
            obtain ⟨c0, c1, c2⟩ := Q6.out.k.h3
            dsimp only at c0 c1 c2
            cases y2 with
            | false =>
              go_wp2
              go_ret
              exact ⟨retI EQ.out, Q6.out.l⟩
            | true =>
              go_wp2
              go_ret
              exact ⟨retI EQ.out, Q6.out.l⟩
end Go.Proofs.Ytbpmbdnhfkfkhaa

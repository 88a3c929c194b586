/- The contract of the document's Bounds of panes. -/
import Derived.Test.YtbpmbdnhfkfkhaaPd
namespace Go.Proofs.Ytbpmbdnhfkfkhaa
open Go.RowKit
set_option linter.unusedVariables false
set_option linter.unusedSimpArgs false

theorem min_if (a b : Int) : min a b = if b < a then b else a := by split <;> omega
theorem max_if (a b : Int) : max a b = if a < b then b else a := by split <;> omega
set_option maxHeartbeats 8000000 in
theorem rPBounds_any (p : Pn) (B : Nat) (w : World) (hB : B ≤ w.heap.size) (F : fewP p) (K : Pan B w p) :
    Calls Try.prog 48 #[.agg #[.slice p.x.a p.x.n p.x.c, .slice p.y.a p.y.n p.y.c, .slice p.a p.n p.c]] w fun e w' => e = .returned (.tuple #[.int .i64 (lowP p), .int .i64 (highP p)]) ∧ Below w.heap.size w w' := by
  have Q0 := Lib.hid (PQ.new 33 K hB)
  have X := Lib.hid (fun (W : World) (Q : PQ w W B w.heap.size p) => rPRight_any p B W (by have := Q.l.size; omega) F Q.p)
  by_cases hp : paneR p = 0
  · rw [hp] at X
    have L := Lib.hid (show lowP p = minR p.r ((p.r 0).v 0) p.n by unfold lowP; rw [if_pos hp])
    have H := Lib.hid (show highP p = maxR p.r ((p.r 0).v 0) p.n by unfold highP; rw [if_pos hp])
    obtain ⟨⟨s1, s2⟩, -⟩ := paneR_ok hp
    generalize lowP p = lo at *
    generalize highP p = hi at *
    clear hp K F
    obtain ⟨⟨xa, xn, xc, xv⟩, ⟨ya, yn, yc, yv⟩, a, n, c, r⟩ := p
    dsimp only at *
    obtain ⟨s3, s4, s5, s6, rfl⟩ := s1
    go_enter Try.func48, Try.ntmps48
    go_wp2_with fail
    refine calls_gen (S := fun W => PQ w W B w.heap.size ⟨⟨xa, xn, xc, xv⟩, ⟨ya, n, yc, yv⟩, a, n, c, r⟩) Q0.out (fun W1 hS => ?_)
    have Q1 := Lib.hid hS
    clear hS Q0
    refine (X.out _ Q1.out).mono ?_
    rintro e w1 ⟨rfl, h⟩
    have Q2 := Lib.hid (Q1.out.step h)
    clear h Q1 X
    obtain ⟨c0, c1, c2⟩ := Q2.out.k.h3
    dsimp only at c0 c1 c2
    obtain ⟨b, off, ha, hb, hcell⟩ := Q2.out.p.at' (by show 0 < n; omega)
    dsimp only at ha hcell
    subst ha
    obtain ⟨b2, off2, ha2, hb2, hcell2⟩ := (Q2.out.p.r 0 (by show 0 < n; omega)).at' (by show 0 < (r 0).n; rw [s2 0 (by omega)]; omega)
    dsimp only at ha2 hcell2
    have c3 := hcell 0 (by omega)
    rw [ha2, s2 0 (by omega)] at c3
    have c4 := hcell2 0 (by rw [s2 0 (by omega)]; omega)
    simp only [Nat.add_zero] at c3 c4
    have z0 : (0 : Int) < (n : Int) := by omega
    have z1 : (0 : Int) < (xn : Int) := by omega
    have S2 := Lib.hid s2
    clear hcell hcell2 ha2 hb hb2 s2
    generalize (r 0).v 0 = m0 at *
    go_wp2
    go_loopw [4, 5, 6] (fun u v i wr => ∃ j : Nat, j ≤ n ∧ i = .int .i64 j ∧ u = .int .i64 (minR r m0 j) ∧ v = .int .i64 (maxR r m0 j) ∧ PQ w wr B w.heap.size ⟨⟨xa, xn, xc, xv⟩, ⟨ya, n, yc, yv⟩, some ⟨b, off, none⟩, n, c, r⟩) (fun _ _ i _ => n - (intOf i).toNat)
    case atStart => exact ⟨0, by omega, rfl, rfl, rfl, Q2.out⟩
    case round =>
      obtain ⟨j, hj, rfl, rfl, rfl, hQ⟩ := hrel
      have Q3 := Lib.hid hQ
      clear hQ Q2 c0 c1 c2 c3 c4
      obtain ⟨c0, c1, c2⟩ := Q3.out.k.h3
      dsimp only at c0 c1 c2
      by_cases hlt : j < n
      · go_wp2
        go_loopw [4, 5, 7] (fun u v i wr => ∃ k : Nat, k ≤ xn ∧ i = .int .i64 k ∧ u = .int .i64 (minV (r j).v (minR r m0 j) k) ∧ v = .int .i64 (maxV (r j).v (maxR r m0 j) k) ∧ PQ w wr B w.heap.size ⟨⟨xa, xn, xc, xv⟩, ⟨ya, n, yc, yv⟩, some ⟨b, off, none⟩, n, c, r⟩) (fun _ _ i _ => xn - (intOf i).toNat)
        case atStart => exact ⟨0, by omega, rfl, rfl, rfl, Q3.out⟩
        case round =>
          obtain ⟨k, hk, rfl, rfl, rfl, hQ⟩ := hrel
          have Q4 := Lib.hid hQ
          clear hQ Q3 c0 c1 c2
          obtain ⟨c0, c1, c2⟩ := Q4.out.k.h3
          dsimp only at c0 c1 c2
          obtain ⟨b1, off1, ha, hb, hcell⟩ := Q4.out.p.at' (by show 0 < n; omega)
          dsimp only at ha hcell
          obtain ⟨rfl, rfl⟩ : b = b1 ∧ off = off1 := by cases ha; exact ⟨rfl, rfl⟩
          obtain ⟨b2, off2, ha2, hb2, hcell2⟩ := (Q4.out.p.r j hlt).at' (by show 0 < (r j).n; rw [S2.out j hlt]; omega)
          dsimp only at ha2 hcell2
          have c3 := hcell j hlt
          rw [ha2, S2.out j hlt] at c3
          have M1 := Lib.hid (show minV (r j).v (minR r m0 j) (k + 1) = min (minV (r j).v (minR r m0 j) k) ((r j).v k) from rfl)
          have M2 := Lib.hid (show maxV (r j).v (maxR r m0 j) (k + 1) = max (maxV (r j).v (maxR r m0 j) k) ((r j).v k) from rfl)
          by_cases hkt : k < xn
          · have c4 := hcell2 k (by rw [S2.out j hlt]; exact hkt)
            clear hcell hcell2 ha ha2 hb hb2
            go_wp2
            go_roundw
            case rel => exact ⟨k + 1, by omega, by go_num, by rw [M1.out, min_if], by rw [M2.out, max_if], Q4.out⟩
            case measure => simp [intOf]; omega
          · have e : k = xn := by omega
            have N1 := Lib.hid (show minR r m0 (j + 1) = minV (r j).v (minR r m0 j) k by rw [e, ← S2.out j hlt]; rfl)
            have N2 := Lib.hid (show maxR r m0 (j + 1) = maxV (r j).v (maxR r m0 j) k by rw [e, ← S2.out j hlt]; rfl)
            clear hcell hcell2 ha ha2 hb hb2 e
            go_wp2
            go_roundw
            case rel => exact ⟨j + 1, by omega, by go_num, by rw [N1.out], by rw [N2.out], Q4.out⟩
            case measure => simp [intOf]; omega
      · have e : j = n := by omega
        have E := Lib.hid (show minR r m0 j = lo ∧ maxR r m0 j = hi by rw [e, L.out, H.out]; exact ⟨rfl, rfl⟩)
        clear e
        go_wp2
        go_ret2
        exact ⟨by rw [← E.out.1, ← E.out.2]; rfl, Q3.out.l⟩
  · have L := Lib.hid (show lowP p = 0 by unfold lowP; rw [if_neg hp])
    have H := Lib.hid (show highP p = 0 by unfold highP; rw [if_neg hp])
    generalize lowP p = lo at *
    generalize highP p = hi at *
    generalize paneR p = q at *
    clear K F
    go_enter Try.func48, Try.ntmps48
    go_wp2_with fail
    refine calls_gen (S := fun W => PQ w W B w.heap.size p) Q0.out (fun W1 hS => ?_)
    have Q1 := Lib.hid hS
    clear hS Q0
    refine (X.out _ Q1.out).mono ?_
    rintro e w1 ⟨rfl, h⟩
    have Q2 := Lib.hid (Q1.out.step h)
    clear h Q1 X
    go_wp2
    go_ret2
    exact ⟨by rw [L.out, H.out]; rfl, Q2.out.l⟩
end Go.Proofs.Ytbpmbdnhfkfkhaa

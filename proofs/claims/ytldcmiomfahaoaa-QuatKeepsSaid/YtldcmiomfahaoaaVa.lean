/- The document's Div: a rest above the half. -/
import Derived.Test.YtldcmiomfahaoaaFz
namespace Go.Proofs.Ytldcmiomfahaoaa
open Go.RowKit

set_option maxRecDepth 100000 in
set_option maxHeartbeats 8000000 in
theorem rDiv_up (n b : Int) (w : World) (hn : In128 n) (b0 : -9223372036854775808 ≤ b) (b1 : b ≤ 9223372036854775807) (hb : b ≠ 0) (c : (b.natAbs : Int) < 2 * ((n.natAbs : Int) % (b.natAbs : Int))) :
    Calls Try.prog 77 #[.agg #[.bool (decide (n < 0)), .int .u64 (d0 (n.natAbs)), .int .u64 (d1 (n.natAbs)), .int .u64 (d2 (n.natAbs)), .int .u64 (d3 (n.natAbs))], .int .i64 b] w fun e w' => e = .returned (.tuple #[.int .i64 (divI n b), .bool (divB n b)]) ∧ Below w.heap.size w w' := by
  have tb : (b == 0) = false := by simp; exact hb
  have NE := Lib.hid (div_near (a := n) hb)
  have NB := Lib.hid (show (0 : Int) ≤ n.natAbs ∧ (n.natAbs : Int) < 340282366920938463463374607431768211456 ∧ (0 : Int) < b.natAbs ∧ (b.natAbs : Int) ≤ 9223372036854775808 by unfold In128 at hn; omega)
  obtain ⟨R, hRR⟩ : ∃ R, rndN (n.natAbs : Int) (b.natAbs : Int) = R := ⟨_, rfl⟩
  obtain ⟨sg, hsg⟩ : ∃ sg, (!decide (n < 0) == decide (b < 0)) = sg := ⟨_, rfl⟩
  rw [hRR, show (decide (n < 0) != decide (b < 0)) = sg from hsg] at NE
  have RR := Lib.hid hRR
  have R0 : 0 ≤ R := by rw [← hRR]; exact rndN_nn (by omega) (by omega)
  have R1 : R < 340282366920938463463374607431768211456 := by
    have := rnd_ge (n.natAbs : Int) (b.natAbs : Int)
    have := Int.ediv_le_self (b.natAbs : Int) NB.out.1
    unfold In128 at hn; omega
  have DR := d_bd R
  have DH := Lib.hid (dig_high R0 R1)
  clear hb hn hRR
  go_enter Try.func77, Try.ntmps77
  go_wp2_with fail
  refine (rOf_any b _ b0 b1).mono ?_
  rintro e w1 ⟨rfl, hb1⟩
  have CA : CellN w1 w.heap.size (decide (n < 0)) n.natAbs := (CellN.new w _ _ _).below hb1 (by simp)
  have Y1 : w.heap.size < w1.heap.size := by have := hb1.size; simp at this; omega
  have BL1 := Lib.hid (((Below.refl w.heap.size w).alloc (Nat.le_refl _) _).trans (hb1.mono (by simp)))
  have e0 := CA.c0
  have e1 := CA.c1
  have e2 := CA.c2
  have e3 := CA.c3
  have e4 := CA.c4
  have HA := Lib.hid CA
  clear CA hb1
  go_wp2_with fail
  refine (over_any n.natAbs b.natAbs _ NB.out.1 NB.out.2.1 NB.out.2.2.1 (by have := NB.out.2.2.2; omega)).mono ?_
  rintro e w2 ⟨rfl, hb2⟩
  have K2 : Below w1.heap.size w1 w2 := ((Below.refl _ _).alloc (Nat.le_refl _) _).trans (hb2.mono (by simp))
  have HA2 := Lib.hid (HA.out.below K2 Y1)
  have HD2 := Lib.hid ((CellN.new w1 (decide (b < 0)) b.natAbs 93).below hb2 (by simp))
  have BL2 := Lib.hid (BL1.out.trans (K2.mono (by omega)))
  have Y2 : w1.heap.size < w2.heap.size := by have := hb2.size; simp at this; omega
  clear e0 e1 e2 e3 e4 K2 hb2
  obtain ⟨q, hq⟩ : ∃ q, (n.natAbs : Int) / b.natAbs = q := ⟨_, rfl⟩
  obtain ⟨r, hr⟩ : ∃ r, (n.natAbs : Int) % b.natAbs = r := ⟨_, rfl⟩
  have RB := Lib.hid (show 0 ≤ r ∧ r < b.natAbs by rw [← hr]; exact ⟨Int.emod_nonneg _ (by have := NB.out; omega), Int.emod_lt_of_pos _ NB.out.2.2.1⟩)
  have QB := Lib.hid (show 0 ≤ q ∧ q ≤ n.natAbs by rw [← hq]; exact ⟨Int.ediv_nonneg NB.out.1 (by have := NB.out; omega), Int.ediv_le_self _ NB.out.1⟩)
  have HQ := Lib.hid hq
  have HR := Lib.hid hr
  rw [hq, hr]
  clear hq hr
  have TW := Lib.hid (show (2 * r + 0) % 340282366920938463463374607431768211456 = 2 * r by have := RB.out; have := NB.out; omega)
  go_wp2_with fail
  refine (twice_any r 0 _ RB.out.1 (by have := RB.out; have := NB.out; omega) (by omega) (by omega)).mono ?_
  rw [TW.out]
  rintro e w3 ⟨rfl, hb3⟩
  have MQ : DivM w n b q w1.heap.size w2.heap.size ((w2.alloc (.cells #[.int .u64 (d0 (q)), .int .u64 (d1 (q)), .int .u64 (d2 (q)), .int .u64 (d3 (q))] 87)).alloc (.cells #[.int .u64 (d0 (r)), .int .u64 (d1 (r)), .int .u64 (d2 (r)), .int .u64 (d3 (r))] 87)) :=
    ⟨(HA2.out.alloc (by omega) _).alloc (by first | (simp; done) | (simp; omega) | omega) _, (HD2.out.alloc (by omega) _).alloc (by first | (simp; done) | (simp; omega) | omega) _, ⟨by go_simp, by go_simp, by go_simp, by go_simp, fun j => by go_simp⟩, Y1, Y2, (by first | (simp; done) | (simp; omega) | omega), (BL2.out.alloc (by first | (simp; done) | (simp; omega) | omega) _).alloc (by first | (simp; done) | (simp; omega) | omega) _⟩
  have M3 := Lib.hid (MQ.more hb3)
  have z3 : w2.heap.size < w3.heap.size := M3.out.zq
  have z3d : w1.heap.size < w3.heap.size := by omega
  clear MQ hb3 HA2 HD2 BL2 HA BL1
  generalize w1.heap.size = n1 at *
  generalize w2.heap.size = n2 at *
  have f0 := M3.out.d.c0
  have f1 := M3.out.d.c1
  have f2 := M3.out.d.c2
  have f3 := M3.out.d.c3
  have f4 := M3.out.d.c4
  go_wp2_with fail
  refine (less_any b.natAbs (2 * r) _ (by have := NB.out; omega) (by have := NB.out; omega) (by have := RB.out; omega) (by have := RB.out; have := NB.out; omega)).mono ?_
  rintro e w4 ⟨rfl, hb4⟩
  have M4 := Lib.hid ((M3.out.alloc _).more hb4)
  have z4 : w3.heap.size < w4.heap.size := by have := hb4.size; simp at this; omega
  have T4 : CellQ w4 w3.heap.size (d0 (2 * r)) (d1 (2 * r)) (d2 (2 * r)) (d3 (2 * r)) := CellQ.below ⟨World.cell?_alloc_new w3 _ _ 0, World.cell?_alloc_new w3 _ _ 1, World.cell?_alloc_new w3 _ _ 2, World.cell?_alloc_new w3 _ _ 3, fun j => by go_simp⟩ hb4 (by simp)
  clear f0 f1 f2 f3 f4 hb4
  have z4q : n2 < w4.heap.size := by omega
  rw [HR.out] at c
  have ct : decide ((b.natAbs : Int) < 2 * r) = true := by rw [decide_eq_true_iff]; exact c
  have HU := Lib.hid (show q + 1 = R by rw [← RR.out, ← HQ.out]; exact rnd_up (.inl (by rw [HR.out]; exact c)))
  clear c T4
  have g0 := M4.out.q.c0
  have g1 := M4.out.q.c1
  have g2 := M4.out.q.c2
  have g3 := M4.out.q.c3
  have gf := M4.out.q.f
  go_wp2_with fail
  refine (rplus_any q 1 _ QB.out.1 (by have := QB.out; have := NB.out; omega) (by omega) (by omega)).mono ?_
  rw [HU.out, show R % 340282366920938463463374607431768211456 = R by omega]
  rintro e w5 ⟨rfl, hb5⟩
  have M5 := Lib.hid ((M4.out.alloc _).more hb5)
  have M6 := Lib.hid (M5.out.put R)
  clear g0 g1 g2 g3 gf hb5
  have g0 := M5.out.q.c0
  have g1 := M5.out.q.c1
  have g2 := M5.out.q.c2
  have g3 := M5.out.q.c3
  have gf := M5.out.q.f
  have zt : n2 < w5.heap.size := M5.out.zq
  have ba := M6.out.a.c0
  have bd := M6.out.d.c0
  have u0 := M6.out.q.c0
  have u1 := M6.out.q.c1
  have u2 := M6.out.q.c2
  have u3 := M6.out.q.c3
  have uf := M6.out.q.f
  try unfold put4 at ba bd u0 u1 u2 u3 uf
  by_cases far : 18446744073709551615 < R
  · have K := Lib.hid (sgn_far (n := R) (by omega) sg)
    by_cases h2 : d2 R = 0
    · have t2 : (d2 R != 0) = false := by simp; exact h2
      have t3 : (d3 R != 0) = true := by simp; intro h3; have := DH.out.1.1 ⟨h2, h3⟩; omega
      clear h2
      go_wp2
      go_ret2
      exact ⟨retIB (by rw [← NE.out.1]; exact K.out.1) (by rw [← NE.out.2]; exact K.out.2), (M6.out.bl).alloc (by have := M6.out.za; have := M6.out.zd; have := M6.out.zq; omega) _⟩
    · have t2 : (d2 R != 0) = true := by simp; exact h2
      clear h2
      go_wp2
      go_ret2
      exact ⟨retIB (by rw [← NE.out.1]; exact K.out.1) (by rw [← NE.out.2]; exact K.out.2), (M6.out.bl).alloc (by have := M6.out.za; have := M6.out.zd; have := M6.out.zq; omega) _⟩
  · have hz := DH.out.1.2 (by omega)
    have t2 : (d2 R != 0) = false := by simp; exact hz.1
    have t3 : (d3 R != 0) = false := by simp; exact hz.2
    have hn := DH.out.2 (by omega)
    have hn0 : d1 R * 4294967296 ≤ 18446744073709551615 := by omega
    clear hz
    cases sg with
    | true =>
      by_cases g2 : 9223372036854775808 < R
      · have K := Lib.hid (sgn_far (n := R) g2 true)
        go_wp2
        go_ret2
        exact ⟨retIB (by rw [← NE.out.1]; exact K.out.1) (by rw [← NE.out.2]; exact K.out.2), (M6.out.bl).alloc (by have := M6.out.za; have := M6.out.zd; have := M6.out.zq; omega) _⟩
      · go_wp2
        go_ret2
        refine ⟨retIB ?_ ?_, (M6.out.bl).alloc (by have := M6.out.za; have := M6.out.zd; have := M6.out.zq; omega) _⟩
        · rw [← NE.out.1]; unfold sgnI; rw [if_pos rfl, if_pos (by omega)]
          rw [IntKind.wrap_u64]; unfold wrap64; omega
        · rw [← NE.out.2]; unfold sgnB; rw [if_pos rfl]; symm; rw [decide_eq_true_iff]; omega
    | false =>
      by_cases g2 : 9223372036854775807 < R
      · have K1 : sgnI R false = 0 ∧ sgnB R false = false := by unfold sgnI sgnB; simp; omega
        have K := Lib.hid K1
        clear K1
        go_wp2
        go_ret2
        exact ⟨retIB (by rw [← NE.out.1]; exact K.out.1.symm) (by rw [← NE.out.2]; exact K.out.2.symm), (M6.out.bl).alloc (by have := M6.out.za; have := M6.out.zd; have := M6.out.zq; omega) _⟩
      · have K1 : sgnI R false = R ∧ sgnB R false = true := by unfold sgnI sgnB; simp; omega
        have K := Lib.hid K1
        clear K1
        go_wp2
        go_ret2
        exact ⟨retIB (by rw [← NE.out.1]; exact K.out.1.symm) (by rw [← NE.out.2]; exact K.out.2.symm), (M6.out.bl).alloc (by have := M6.out.za; have := M6.out.zd; have := M6.out.zq; omega) _⟩
end Go.Proofs.Ytldcmiomfahaoaa

/- The contract of the document's over. -/
import Derived.Test.YtldcmiomfahaoaaBn
import Derived.Test.YtldcmiomfahaoaaBf
import Derived.Deep.RegionWith
import Derived.Deep.CutRange
import Derived.RegionTactic
import Derived.BigRegion
namespace Go.Proofs.Ytldcmiomfahaoaa
open Go.RowKit

theorem CellQ.far {w : World} {n m : Nat} {x0 x1 x2 x3 : Int} (k : CellQ w n x0 x1 x2 x3) (h : m ≠ n) (i : Nat) (v : Value) : CellQ (w.setCell ⟨m, i, none⟩ v) n x0 x1 x2 x3 :=
  ⟨(World.cell?_setCell_other _ _ _ _ (addr_b h)).trans k.c0, (World.cell?_setCell_other _ _ _ _ (addr_b h)).trans k.c1, (World.cell?_setCell_other _ _ _ _ (addr_b h)).trans k.c2, (World.cell?_setCell_other _ _ _ _ (addr_b h)).trans k.c3, fun j => (World.frozen?_setCell _ _ _ _).trans (k.f j)⟩
theorem CellQ.drew {w : World} {n : Nat} {x0 x1 x2 x3 : Int} (k : CellQ w n x0 x1 x2 x3) : CellQ w.drew n x0 x1 x2 x3 := ⟨k.c0, k.c1, k.c2, k.c3, k.f⟩
/-- all that the loop knows of memory: six blocks one behind the other -/
structure Mem6 (w : World) (a b q r : Int) (W : World) : Prop where
  a : CellQ W w.heap.size (d0 a) (d1 a) (d2 a) (d3 a)
  b : CellQ W (w.heap.size + 1) (d0 b) (d1 b) (d2 b) (d3 b)
  x : CellQ W (w.heap.size + 1 + 1) 0 0 0 0
  y : CellQ W (w.heap.size + 1 + 1 + 1) 0 0 0 0
  q : CellQ W (w.heap.size + 1 + 1 + 1 + 1) (d0 q) (d1 q) (d2 q) (d3 q)
  r : CellQ W (w.heap.size + 1 + 1 + 1 + 1 + 1) (d0 r) (d1 r) (d2 r) (d3 r)
  z : w.heap.size + 1 + 1 + 1 + 1 + 1 < W.heap.size
  bl : Below w.heap.size w W
theorem Mem6.more {w W W' : World} {a b q r : Int} (M : Mem6 w a b q r W) (h : Below W.heap.size W W') : Mem6 w a b q r W' := by
  have z := M.z
  have s := h.size
  exact ⟨M.a.below h (by omega), M.b.below h (by omega), M.x.below h (by omega), M.y.below h (by omega), M.q.below h (by omega), M.r.below h (by omega), by omega, M.bl.trans (h.mono M.bl.size)⟩
theorem Mem6.drew {w W : World} {a b q r : Int} (M : Mem6 w a b q r W) : Mem6 w a b q r W.drew := ⟨M.a.drew, M.b.drew, M.x.drew, M.y.drew, M.q.drew, M.r.drew, M.z, M.bl.drew⟩
/-- four stores -/
def put4 (W : World) (n : Nat) (m : Int) : World := (((W.setCell ⟨n, 0, none⟩ (.int .u64 (d0 m))).setCell ⟨n, 1, none⟩ (.int .u64 (d1 m))).setCell ⟨n, 2, none⟩ (.int .u64 (d2 m))).setCell ⟨n, 3, none⟩ (.int .u64 (d3 m))
theorem put4_far {W : World} {n m : Nat} {x0 x1 x2 x3 : Int} (k : CellQ W n x0 x1 x2 x3) (h : m ≠ n) (v : Int) : CellQ (put4 W m v) n x0 x1 x2 x3 := (((k.far h 0 _).far h 1 _).far h 2 _).far h 3 _
theorem put4_at {W : World} {n : Nat} {x0 x1 x2 x3 : Int} (k : CellQ W n x0 x1 x2 x3) (v : Int) : CellQ (put4 W n v) n (d0 v) (d1 v) (d2 v) (d3 v) := k.all _ _ _ _
theorem put4_below {B n : Nat} {w W : World} (h : Below B w W) (hn : B ≤ n) (v : Int) : Below B w (put4 W n v) := (((h.setCell (p := ⟨n, 0, none⟩) hn _).setCell (p := ⟨n, 1, none⟩) hn _).setCell (p := ⟨n, 2, none⟩) hn _).setCell (p := ⟨n, 3, none⟩) hn _
theorem put4_size (W : World) (n : Nat) (v : Int) : (put4 W n v).heap.size = W.heap.size := by simp [put4, World.setCell]
theorem Mem6.putQ {w W : World} {a b q r : Int} (M : Mem6 w a b q r W) (v : Int) : Mem6 w a b v r (put4 W (w.heap.size + 1 + 1 + 1 + 1) v) :=
  ⟨put4_far M.a (by omega) v, put4_far M.b (by omega) v, put4_far M.x (by omega) v, put4_far M.y (by omega) v, put4_at M.q v, put4_far M.r (by omega) v, by rw [put4_size]; exact M.z, put4_below M.bl (by omega) v⟩
theorem Mem6.putR {w W : World} {a b q r : Int} (M : Mem6 w a b q r W) (v : Int) : Mem6 w a b q v (put4 W (w.heap.size + 1 + 1 + 1 + 1 + 1) v) :=
  ⟨put4_far M.a (by omega) v, put4_far M.b (by omega) v, put4_far M.x (by omega) v, put4_far M.y (by omega) v, put4_far M.q (by omega) v, put4_at M.r v, by rw [put4_size]; exact M.z, put4_below M.bl (by omega) v⟩
/-- the lowest digit of the quotient, raised by one -/
theorem Mem6.upQ {w W : World} {a b q r : Int} (M : Mem6 w a b (2 * q) r W) : Mem6 w a b (2 * q + 1) r (W.setCell ⟨w.heap.size + 1 + 1 + 1 + 1, 0, none⟩ (.int .u64 (d0 (2 * q) + 1))) := by
  have D := d_up q
  have K := M.q.set0 (d0 (2 * q) + 1)
  refine ⟨M.a.far (by omega) _ _, M.b.far (by omega) _ _, M.x.far (by omega) _ _, M.y.far (by omega) _ _, ?_, M.r.far (by omega) _ _, by simpa [World.setCell] using M.z, M.bl.setCell (p := ⟨w.heap.size + 1 + 1 + 1 + 1, 0, none⟩) (by show w.heap.size ≤ w.heap.size + 1 + 1 + 1 + 1; omega) _⟩
  rw [← D.1, ← D.2.1, ← D.2.2.1, ← D.2.2.2.1]; exact K
theorem mem6_new (w : World) (a b : Int) (t : TypeId) :
    Mem6 w a b 0 0 ((((((w.alloc (.cells #[.int .u64 (d0 (a)), .int .u64 (d1 (a)), .int .u64 (d2 (a)), .int .u64 (d3 (a))] t)).alloc (.cells #[.int .u64 (d0 (b)), .int .u64 (d1 (b)), .int .u64 (d2 (b)), .int .u64 (d3 (b))] t)).alloc (.cells #[.int .u64 0, .int .u64 0, .int .u64 0, .int .u64 0] t)).alloc (.cells #[.int .u64 0, .int .u64 0, .int .u64 0, .int .u64 0] t)).alloc (.cells #[.int .u64 0, .int .u64 0, .int .u64 0, .int .u64 0] t)).alloc (.cells #[.int .u64 0, .int .u64 0, .int .u64 0, .int .u64 0] t)) := by
  refine ⟨⟨by go_simp, by go_simp, by go_simp, by go_simp, fun j => by go_simp⟩, ⟨by go_simp, by go_simp, by go_simp, by go_simp, fun j => by go_simp⟩, ⟨by go_simp, by go_simp, by go_simp, by go_simp, fun j => by go_simp⟩, ⟨by go_simp, by go_simp, by go_simp, by go_simp, fun j => by go_simp⟩, ⟨?_, ?_, ?_, ?_, fun j => by go_simp⟩, ⟨?_, ?_, ?_, ?_, fun j => by go_simp⟩, by simp, by repeat (first | exact Below.refl _ _ | assumption | refine Below.setCell ?_ (by first | omega | (simp; done) | (simp; omega)) _ | refine Below.alloc ?_ (by first | omega | (simp; done) | (simp; omega)) _ | refine below_drewN ?_ _ | refine Below.drew ?_ | refine Below.trans ?_ (Below.mono (by assumption) (by first | omega | (simp; done) | (simp; omega))))⟩
  all_goals (go_simp; first | done | rfl | (simp [d0, d1, d2, d3]))
set_option maxRecDepth 100000 in
set_option maxHeartbeats 8000000 in
theorem over_any (a b : Int) (w : World) (a0 : 0 ≤ a) (a1 : a < 340282366920938463463374607431768211456) (b0 : 0 < b) (b1 : b < 170141183460469231731687303715884105728) :
    Calls Try.prog 99 #[.agg #[.int .u64 (d0 (a)), .int .u64 (d1 (a)), .int .u64 (d2 (a)), .int .u64 (d3 (a))], .agg #[.int .u64 (d0 (b)), .int .u64 (d1 (b)), .int .u64 (d2 (b)), .int .u64 (d3 (b))]] w fun e w' => e = .returned (.tuple #[.agg #[.int .u64 (d0 (a / b)), .int .u64 (d1 (a / b)), .int .u64 (d2 (a / b)), .int .u64 (d3 (a / b))], .agg #[.int .u64 (d0 (a % b)), .int .u64 (d1 (a % b)), .int .u64 (d2 (a % b)), .int .u64 (d3 (a % b))]]) ∧ Below w.heap.size w w' := by
  have ST := Lib.hid (OvW.start a0 a1 b0)
  have A0 := Lib.hid a0
  have A1 := Lib.hid a1
  have B0 := Lib.hid b0
  have B1 := Lib.hid b1
  clear a0 a1 b0 b1
  go_enter Try.func99, Try.ntmps99
  go_wp2
  go_loopw [8] (fun i W => ∃ v q r : Int, i = .int .i64 v ∧ OvW a b v q r ∧ Mem6 w a b q r W) (fun i _ => (intOf i + 1).toNat)
  case atStart => exact ⟨127, 0, 0, rfl, ST.out, mem6_new w a b _⟩
  case round =>
    obtain ⟨v, q, r, rfl, K, M⟩ := hrel
    have v0 := K.v0
    have v1 := K.v1
    have HK := Lib.hid K
    have HM := Lib.hid M
    clear K M
    by_cases hv : 0 ≤ v
    · obtain ⟨i, hi⟩ := Int.eq_ofNat_of_zero_le hv
      subst hi
      obtain ⟨bt, hbt⟩ : ∃ bt, ovBit a i = bt := ⟨_, rfl⟩
      have BT := Lib.hid (show a / 2 ^ i % 2 = bt by rw [ovBit_nat, hbt])
      have HBT := Lib.hid hbt
      have bb := ovBit_bd a i
      rw [hbt] at bb
      have TW := Lib.hid (show (2 * r + bt) % 340282366920938463463374607431768211456 = 2 * r + bt by have := HK.out.r0; have := HK.out.r1; have := B1.out; omega)
      have RB := Lib.hid (show 0 ≤ r ∧ r < 340282366920938463463374607431768211456 ∧ 0 ≤ 2 * r + bt ∧ 2 * r + bt < 340282366920938463463374607431768211456 by have := HK.out.r0; have := HK.out.r1; have := B1.out; omega)
      clear hbt
      have e0 := HM.out.r.c0
      have e1 := HM.out.r.c1
      have e2 := HM.out.r.c2
      have e3 := HM.out.r.c3
      have ef := HM.out.r.f
      have f0 := HM.out.a.c0
      have f1 := HM.out.a.c1
      have f2 := HM.out.a.c2
      have f3 := HM.out.a.c3
      have ff := HM.out.a.f
      have zz := HM.out.z
      go_upto_region 5 with fail
      go_cut [] from 9 to 30 (fun W => Mem6 w a b q (2 * r + bt) W)
      case first =>
        go_region_with (first | (go_at_call 109; refine (bit_any a i _ A0.out (by omega)).mono ?_; rw [BT.out]; rintro e w5 ⟨rfl, hb5⟩; have M5 := Lib.hid (HM.out.drew.more hb5); have g0 := M5.out.r.c0; have g1 := M5.out.r.c1; have g2 := M5.out.r.c2; have g3 := M5.out.r.c3) | (go_at_call 100; refine (twice_any r bt _ RB.out.1 RB.out.2.1 bb.1 bb.2).mono ?_; rw [TW.out]; rintro e w6 ⟨rfl, hb6⟩; have M6 := Lib.hid (M5.out.more hb6); have h0 := M6.out.r.c0; have h1 := M6.out.r.c1; have h2 := M6.out.r.c2; have h3 := M6.out.r.c3; have hf := M6.out.r.f))
        all_goals
          go_wp2_with fail
          go_meet
          exact M6.out.putR (2 * r + bt)
      case rest =>
        have HN := Lib.hid hcut
        have TQ := Lib.hid (show (2 * q + 0) % 340282366920938463463374607431768211456 = 2 * q by have := HK.out.q2 A0.out hv; have := HK.out.q0; have := A1.out; omega)
        have QB := Lib.hid (show 0 ≤ q ∧ q < 340282366920938463463374607431768211456 by have := HK.out.q2 A0.out hv; have := HK.out.q0; have := A1.out; omega)
        have BB := Lib.hid (show 0 ≤ b ∧ b < 340282366920938463463374607431768211456 by have := B0.out; have := B1.out; omega)
        clear e0 e1 e2 e3 ef f0 f1 f2 f3 ff zz hcut
        have e0 := HN.out.q.c0
        have e1 := HN.out.q.c1
        have e2 := HN.out.q.c2
        have e3 := HN.out.q.c3
        have ef := HN.out.q.f
        go_wp2_with fail
        refine (twice_any q 0 _ QB.out.1 QB.out.2 (by omega) (by omega)).mono ?_
        rw [TQ.out]
        rintro e w7 ⟨rfl, hb7⟩
        have M7 := Lib.hid (HN.out.more hb7)
        have M8 := Lib.hid (M7.out.putQ (2 * q))
        clear e0 e1 e2 e3 ef hb7
        have e0 := M7.out.q.c0
        have e1 := M7.out.q.c1
        have e2 := M7.out.q.c2
        have e3 := M7.out.q.c3
        have ef := M7.out.q.f
        have f0 := M8.out.r.c0
        have f1 := M8.out.r.c1
        have f2 := M8.out.r.c2
        have f3 := M8.out.r.c3
        have ff := M8.out.r.f
        have g0 := M8.out.b.c0
        have g1 := M8.out.b.c1
        have g2 := M8.out.b.c2
        have g3 := M8.out.b.c3
        have gf := M8.out.b.f
        unfold put4 at f0 f1 f2 f3 ff g0 g1 g2 g3 gf
        go_wp2_with fail
        by_cases c : 2 * r + bt < b
        · have C := Lib.hid (show decide (2 * r + bt < b) = true by rw [decide_eq_true_iff]; exact c)
          have NX := Lib.hid (HK.out.lo hv HBT.out.symm c)
          clear c
          refine (less_any (2 * r + bt) b _ RB.out.2.2.1 RB.out.2.2.2 BB.out.1 BB.out.2).mono ?_
          rw [C.out]
          rintro e w8 ⟨rfl, hb8⟩
          have M9 := Lib.hid (M8.out.more hb8)
          clear e0 e1 e2 e3 ef f0 f1 f2 f3 ff g0 g1 g2 g3 gf hb8
          go_wp2
          go_roundw
          case rel => first | exact ⟨i - 1, 2 * q, 2 * r + bt, by go_num, NX.out, M9.out⟩ | ((repeat apply Exists.intro); exact ⟨⟨i - 1, 2 * q, 2 * r + bt, by go_num, NX.out, M9.out⟩, rfl⟩)
          case measure => simp [intOf]
        · have C := Lib.hid (show decide (2 * r + bt < b) = false by rw [decide_eq_false_iff_not]; exact c)
          have NX := Lib.hid (HK.out.hi hv HBT.out.symm c)
          have MN := Lib.hid (show (2 * r + bt - b) % 340282366920938463463374607431768211456 = 2 * r + bt - b by have := RB.out; have := B0.out; omega)
          have DU := d_up q
          have du := DU.2.2.2.2
          have dq := (d_bd (2 * q)).1.1
          clear c DU
          refine (less_any (2 * r + bt) b _ RB.out.2.2.1 RB.out.2.2.2 BB.out.1 BB.out.2).mono ?_
          rw [C.out]
          rintro e w8 ⟨rfl, hb8⟩
          have M9 := Lib.hid (M8.out.more hb8)
          clear e0 e1 e2 e3 ef f0 f1 f2 f3 ff g0 g1 g2 g3 gf hb8
          have e0 := M9.out.r.c0
          have e1 := M9.out.r.c1
          have e2 := M9.out.r.c2
          have e3 := M9.out.r.c3
          have ef := M9.out.r.f
          have f0 := M9.out.b.c0
          have f1 := M9.out.b.c1
          have f2 := M9.out.b.c2
          have f3 := M9.out.b.c3
          have ff := M9.out.b.f
          go_wp2_with fail
          refine (rminus_any (2 * r + bt) b _ RB.out.2.2.1 RB.out.2.2.2 BB.out.1 BB.out.2).mono ?_
          rw [MN.out]
          rintro e w9 ⟨rfl, hb9⟩
          have MA := Lib.hid (M9.out.more hb9)
          have MB := Lib.hid (MA.out.putR (2 * r + bt - b))
          have MC := Lib.hid (MB.out.upQ)
          clear e0 e1 e2 e3 ef f0 f1 f2 f3 ff hb9
          have e0 := MA.out.r.c0
          have e1 := MA.out.r.c1
          have e2 := MA.out.r.c2
          have e3 := MA.out.r.c3
          have ef := MA.out.r.f
          have f0 := MB.out.q.c0
          have f1 := MB.out.q.c1
          have f2 := MB.out.q.c2
          have f3 := MB.out.q.c3
          have ff := MB.out.q.f
          unfold put4 at f0 f1 f2 f3 ff
          go_wp2
          go_roundw
          case rel => first | exact ⟨i - 1, 2 * q + 1, 2 * r + bt - b, by go_num, NX.out, MC.out⟩ | ((repeat apply Exists.intro); exact ⟨⟨i - 1, 2 * q + 1, 2 * r + bt - b, by go_num, NX.out, MC.out⟩, rfl⟩)
          case measure => simp [intOf]
    · obtain rfl : v = -1 := by omega
      have D := Lib.hid HK.out.done
      clear hv
      have e0 := HM.out.q.c0
      have e1 := HM.out.q.c1
      have e2 := HM.out.q.c2
      have e3 := HM.out.q.c3
      have ef := HM.out.q.f
      have f0 := HM.out.r.c0
      have f1 := HM.out.r.c1
      have f2 := HM.out.r.c2
      have f3 := HM.out.r.c3
      have ff := HM.out.r.f
      have g0 := HM.out.x.c0
      have g1 := HM.out.x.c1
      have g2 := HM.out.x.c2
      have g3 := HM.out.x.c3
      have gf := HM.out.x.f
      have h0 := HM.out.y.c0
      have h1 := HM.out.y.c1
      have h2 := HM.out.y.c2
      have h3 := HM.out.y.c3
      have hf := HM.out.y.f
      have bl := Lib.hid HM.out.bl
      go_wp2
      go_region
      all_goals
        go_wp2
        have bl1 := bl.out
        refine bodyPost_ret (v := .tuple #[.agg #[.int .u64 (d0 (q)), .int .u64 (d1 (q)), .int .u64 (d2 (q)), .int .u64 (d3 (q))], .agg #[.int .u64 (d0 (r)), .int .u64 (d1 (r)), .int .u64 (d2 (r)), .int .u64 (d3 (r))]]) (by simp [results, Try.results99, go_sem, g0, g1, g2, g3, h0, h1, h2, h3]) rfl ⟨by rw [D.out.1, D.out.2], by repeat (first | with_reducible refine Below.setCell ?_ (by first | omega | (simp; done) | (simp; omega)) _ | with_reducible refine Below.alloc ?_ (by first | omega | (simp; done) | (simp; omega)) _ | with_reducible refine below_drewN ?_ _ | with_reducible refine Below.drew ?_ | with_reducible exact Below.refl _ _ | with_reducible assumption | with_reducible refine Below.trans ?_ (Below.mono (by assumption) (by first | omega | (simp; done) | (simp; omega))))⟩
end Go.Proofs.Ytldcmiomfahaoaa

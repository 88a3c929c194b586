/- The contract of the document's over, and of its Div for fx. -/
import Derived.Test.YtbigjdhehaihoaaGu
import Derived.Test.YtbigjdhehaihoaaGg
import Derived.Test.YtbigjdhehaihoaaFa
namespace Go.Proofs.Ytbigjdhehaihoaa
open Go.RowKit

set_option maxRecDepth 100000 in
set_option maxHeartbeats 4000000 in
theorem rover_any (x y : Int) (w : World) (x0 : 0 ≤ x) (x1 : x ≤ 9223372036854775808) (y0 : 0 < y) (y1 : y ≤ 9223372036854775808) :
    Calls Try.prog 68 #[.int .u64 x, .int .u64 y] w fun e w' => e = .returned (.tuple #[.int .u64 (ovQ (x * 4294967296) y), .bool (ovB (x * 4294967296) y)]) ∧ w' = w := by
  obtain ⟨N, hN⟩ : ∃ N, x * 4294967296 = N := ⟨_, rfl⟩
  rw [hN]
  have N0 : 0 ≤ N := by omega
  have ST := Lib.hid (OvR.start (N := N) (y := y) N0 (by omega) y0)
  have HB : Hid (∀ s : Nat, x / ((2 ^ s : Nat) : Int) % 2 = ovBit N (s + 32)) := fun s => by rw [← hN]; exact ovBit_high x s
  have HL : Hid (∀ v : Int, 0 ≤ v → v < 32 → (0 : Int) = ovBit N v) := fun v h0 h1 => by rw [← hN]; exact ovBit_low x v h0 h1
  have HN0 := Lib.hid N0
  clear hN N0
  go_enter Try.func68, Try.ntmps68
  go_wp2
  go_loop [6, 7, 8] (fun q r i => ∃ v qq rr : Int, i = .int .i64 v ∧ q = .int .u64 qq ∧ r = .int .u64 rr ∧ OvR N y v qq rr) (fun _ _ i => (intOf i + 1).toNat)
  case atStart => exact ⟨95, 0, 0, rfl, rfl, rfl, ST.out⟩
  case round =>
    obtain ⟨v, q, r, rfl, rfl, rfl, K⟩ := hrel
    have v0 := K.v0
    have v1 := K.v1
    have q0 := K.q0
    have q1 := K.q1
    have r0 := K.r0
    have r1 := K.r1
    have HK := Lib.hid K
    clear K
    by_cases hv : 0 ≤ v
    · by_cases far : 9223372036854775808 ≤ q
      · have KN := Lib.hid (ov_no (HK.out.no HN0.out hv far))
        by_cases hs : 32 ≤ v
        ·
          obtain ⟨s, hs⟩ : ∃ s : Nat, v = s + 32 := ⟨(v - 32).toNat, by omega⟩
          subst hs
          obtain ⟨bt, hbt⟩ : ∃ bt, (x / 2 ^ s).tmod 2 = bt := ⟨_, rfl⟩
          have HBT := Lib.hid (show bt = ovBit N (s + 32) by rw [← hbt, Int.tmod_eq_emod_of_nonneg (Int.ediv_nonneg x0 (Int.le_of_lt (Int.pow_pos (by omega)))), ← HB.out s]; simp)
          have bt0 : 0 ≤ bt := by rw [HBT.out]; exact (ovBit_bd _ _).1
          have bt1 : bt ≤ 1 := by rw [HBT.out]; exact (ovBit_bd _ _).2
          go_wp2
          go_ret2
          exact ⟨retIB KN.out.1 KN.out.2, rfl⟩
        · go_wp2
          go_ret2
          exact ⟨retIB KN.out.1 KN.out.2, rfl⟩
      · by_cases hs : 32 ≤ v
        ·
          obtain ⟨s, hs⟩ : ∃ s : Nat, v = s + 32 := ⟨(v - 32).toNat, by omega⟩
          subst hs
          obtain ⟨bt, hbt⟩ : ∃ bt, (x / 2 ^ s).tmod 2 = bt := ⟨_, rfl⟩
          have HBT := Lib.hid (show bt = ovBit N (s + 32) by rw [← hbt, Int.tmod_eq_emod_of_nonneg (Int.ediv_nonneg x0 (Int.le_of_lt (Int.pow_pos (by omega)))), ← HB.out s]; simp)
          have bt0 : 0 ≤ bt := by rw [HBT.out]; exact (ovBit_bd _ _).1
          have bt1 : bt ≤ 1 := by rw [HBT.out]; exact (ovBit_bd _ _).2
          by_cases c : 2 * r + bt < y
          · have KL := Lib.hid (HK.out.lo hv (by omega) HBT.out c)
            go_wp2
            go_round
            case rel => exact ⟨s + 32 - 1, 2 * q, 2 * r + bt, by go_num, by go_num, by go_num, KL.out⟩
            case measure => simp [intOf]; omega
          · have KL := Lib.hid (HK.out.hi hv (by omega) HBT.out c)
            go_wp2
            go_round
            case rel => exact ⟨s + 32 - 1, 2 * q + 1, 2 * r + bt - y, by go_num, by go_num, by go_num, KL.out⟩
            case measure => simp [intOf]; omega
        · have HBT := Lib.hid (HL.out v hv (by omega))
          by_cases c : 2 * r < y
          · have KL := Lib.hid (HK.out.lo hv (by omega) HBT.out (by omega))
            rw [Int.add_zero] at KL
            go_wp2
            go_round
            case rel => exact ⟨v - 1, 2 * q, 2 * r, by go_num, by go_num, by go_num, KL.out⟩
            case measure => simp [intOf]; omega
          · have KL := Lib.hid (HK.out.hi hv (by omega) HBT.out (by omega))
            rw [Int.add_zero] at KL
            go_wp2
            go_round
            case rel => exact ⟨v - 1, 2 * q + 1, 2 * r - y, by go_num, by go_num, by go_num, KL.out⟩
            case measure => simp [intOf]; omega
    · obtain rfl : v = -1 := by omega
      have D := Lib.hid HK.out.done
      clear hv
      by_cases c : y - r < r
      · have hq := Lib.hid (rnd_up (n := N) (d := y) (by rw [D.out.2]; omega))
        rw [D.out.1] at hq
        by_cases c4 : q = 18446744073709551615
        · have KN := Lib.hid (ov_no (N := N) (y := y) (by have := hq.out; omega))
          have hv : IntKind.u64.wrap (q + 1) = 0 := by rw [c4]; decide
          clear c4
          go_wp2
          go_ret2
          exact ⟨retIB KN.out.1 KN.out.2, rfl⟩
        · have KN := Lib.hid (ov_yes hq.out (by omega))
          have q3 : q ≤ 18446744073709551614 := by omega
          have t5 : (q + 1 == 0) = false := by simp; omega
          clear c4
          go_wp2
          go_ret2
          exact ⟨retIB KN.out.1 KN.out.2, rfl⟩
      · by_cases c2 : r = y - r
        · have t : (r == y - r) = true := by simp; exact c2
          by_cases c3 : q % 2 = 1
          · have t3 : (q % 2 == 1) = true := by simp; exact c3
            have hq := Lib.hid (rnd_up (n := N) (d := y) (by rw [D.out.2, D.out.1]; omega))
            rw [D.out.1] at hq
            clear c3 c2
            by_cases c4 : q = 18446744073709551615
            · have KN := Lib.hid (ov_no (N := N) (y := y) (by have := hq.out; omega))
              have hv : IntKind.u64.wrap (q + 1) = 0 := by rw [c4]; decide
              clear c4
              go_wp2
              go_ret2
              exact ⟨retIB KN.out.1 KN.out.2, rfl⟩
            · have KN := Lib.hid (ov_yes hq.out (by omega))
              have q3 : q ≤ 18446744073709551614 := by omega
              have t5 : (q + 1 == 0) = false := by simp; omega
              clear c4
              go_wp2
              go_ret2
              exact ⟨retIB KN.out.1 KN.out.2, rfl⟩
          · have t3 : (q % 2 == 1) = false := by simp; omega
            have hq := Lib.hid (rnd_down (n := N) (d := y) (by rw [D.out.2, D.out.1]; omega))
            rw [D.out.1] at hq
            clear c3 c2
            have KN := Lib.hid (ov_yes hq.out q1)
            go_wp2
            go_ret2
            exact ⟨retIB KN.out.1 KN.out.2, rfl⟩
        · have t : (r == y - r) = false := by simp; exact c2
          have hq := Lib.hid (rnd_down (n := N) (d := y) (by rw [D.out.2, D.out.1]; omega))
          rw [D.out.1] at hq
          clear c2
          have KN := Lib.hid (ov_yes hq.out q1)
          go_wp2
          go_ret2
          exact ⟨retIB KN.out.1 KN.out.2, rfl⟩
end Go.Proofs.Ytbigjdhehaihoaa

/- math/bits.Div64 -/
import Derived.Test.YtmdcfnifbkpedaaWe
import Derived.Test.YtmdcfnifbkpedaaDn
namespace Go.Proofs.Ytmdcfnifbkpedaa
open Go.RowKit

set_option maxHeartbeats 4000000 in
set_option maxRecDepth 100000 in
theorem Div64_great (h l y : Int) (w : World) (h0 : 1 ≤ h) (h1 : h < y) (l0 : 0 ≤ l) (l1 : l ≤ 18446744073709551615) (y1 : y ≤ 18446744073709551615) :
    Calls Try.prog 32 #[.int .u64 h, .int .u64 l, .int .u64 y] w fun e w' => e = .returned (.tuple #[.int .u64 ((h * 18446744073709551616 + l) / y), .int .u64 ((h * 18446744073709551616 + l) % y)]) ∧ w' = w := by
  have t1 : (y == 0) = false := by simp; omega
  have t2 : (h == 0) = false := by simp; omega
  have t3 : ¬ y ≤ h := by omega
  obtain ⟨k, v, hh, lt, u, ll, e1, e2, e3, e4, e5, e6, N⟩ := norm_of h l y (by omega) h1 l0 l1 y1
  have E1 := Lib.hid e1
  clear e1
  go_enter Try.func32, Try.ntmps32
  go_wp2_with fail
  refine (Try.bits_LeadingZeros64 y _ (by omega) (by omega)).mono ?_
  rintro e w1 ⟨rfl, rfl⟩
  rw [E1.out]
  have k1 := N.k1
  have v0 := N.v0
  have v1 := N.v1
  have f1 := and_mask32 v (by omega) v1
  have f2 := and_mask32 ll N.ll0 N.ll1
  have hu0 := N.u0
  have hll0 := N.ll0
  have hll1 := N.ll1
  have hlt0 := N.lt0
  have hhh0 := N.hh0
  obtain ⟨q1, Q1⟩ : ∃ q1, KnQ u (ll / 4294967296) (v / 4294967296) (v % 4294967296) q1 := ⟨_, KnQ.mk' N.u0 (by omega) (by omega) (by omega) (by omega) (by omega) (by omega) (by have := N.uv; omega)⟩
  obtain ⟨a1, p1, b1, g1, g2, g3, K1⟩ := kn_start_w Q1 (by have := N.uv; omega)
  obtain ⟨x1, x2, x3, r1, i1, i2, i3, i4, I1, r10, r11⟩ := kn_rest_w Q1
  obtain ⟨q2, Q2⟩ : ∃ q2, KnQ r1 (ll % 4294967296) (v / 4294967296) (v % 4294967296) q2 := ⟨_, KnQ.mk' r10 (by omega) (by omega) (by omega) (by omega) (by omega) (by omega) (by omega)⟩
  obtain ⟨a2, p2, b2, g4, g5, g6, K2⟩ := kn_start_w Q2 (by omega)
  obtain ⟨z1, z2, z3, r2, j1, j2, j3, j4, J1, r20, r21⟩ := kn_rest_w Q2
  have q10 := Q1.q0
  have q11 := Q1.q1
  have q20 := Q2.q0
  have q21 := Q2.q1
  have A := kn_all (n := h * 18446744073709551616 + l) (y := y) (p := 2 ^ k) (Int.pow_pos (by omega)) N.ev (by omega) (by rw [N.en]; omega) I1.out J1.out r20 r21
  have HA := Lib.hid A
  clear A
  have v10 := Q1.v10
  go_wp2
  go_loop [15, 16] (fun s t => ∃ a b : Int, s = .int .u64 a ∧ t = .int .u64 b ∧ Kn u (v / 4294967296) q1 a b) (fun s _ => (intOf s).toNat)
  case atStart => exact ⟨a1, b1, rfl, rfl, K1⟩
  case round =>
    obtain ⟨a, b, rfl, rfl, K⟩ := hrel
    have ha0 := Kn.a0 Q1 K
    have ha1 := K.a1
    have hb0 := K.b0
    have hb1 := K.b1
    have hqa := K.qa
    by_cases ta : 4294967296 ≤ a
    · by_cases c : 4294967296 ≤ b + v / 4294967296
      · have hq := Kn.broke Q1 K (.inl ta) c
        go_wp2
        clear K ha0 ha1 hb0 hb1 hqa
        go_loop [18, 16] (fun s t => ∃ a b : Int, s = .int .u64 a ∧ t = .int .u64 b ∧ Kn r1 (v / 4294967296) q2 a b) (fun s _ => (intOf s).toNat)
        case atStart => exact ⟨a2, b2, rfl, rfl, K2⟩
        case round =>
          obtain ⟨a, b, rfl, rfl, K⟩ := hrel
          have ha0 := Kn.a0 Q2 K
          have ha1 := K.a1
          have hb0 := K.b0
          have hb1 := K.b1
          have hqa := K.qa
          by_cases ta : 4294967296 ≤ a
          · by_cases c : 4294967296 ≤ b + v / 4294967296
            · have hq := Kn.broke Q2 K (.inl ta) c
              go_wp2
              go_ret2
              exact ⟨retII HA.out.1 HA.out.2, rfl⟩
            · have hle := Kn.less Q2 K (.inl ta)
              have HK := Lib.hid (Kn.next Q2 K (.inl ta) (by omega))
              clear K
              go_wp2
              go_round
              case rel => exact ⟨_, _, rfl, rfl, HK.out⟩
              case measure => simp [intOf]; omega
          · have hp := Kn.prod Q2 K (by omega)
            by_cases tb : 4294967296 * b + ll % 4294967296 < a * (v % 4294967296)
            · by_cases c : 4294967296 ≤ b + v / 4294967296
              · have hq := Kn.broke Q2 K (.inr tb) c
                go_wp2
                go_ret2
                exact ⟨retII HA.out.1 HA.out.2, rfl⟩
              · have hle := Kn.less Q2 K (.inr tb)
                have HK := Lib.hid (Kn.next Q2 K (.inr tb) (by omega))
                clear K
                go_wp2
                go_round
                case rel => exact ⟨_, _, rfl, rfl, HK.out⟩
                case measure => simp [intOf]; omega
            · obtain rfl : a = q2 := Kn.done Q2 K (by omega)
              go_wp2
              go_ret2
              exact ⟨retII HA.out.1 HA.out.2, rfl⟩
      · have hle := Kn.less Q1 K (.inl ta)
        have HK := Lib.hid (Kn.next Q1 K (.inl ta) (by omega))
        clear K
        go_wp2
        go_round
        case rel => exact ⟨_, _, rfl, rfl, HK.out⟩
        case measure => simp [intOf]; omega
    · have hp := Kn.prod Q1 K (by omega)
      by_cases tb : 4294967296 * b + ll / 4294967296 < a * (v % 4294967296)
      · by_cases c : 4294967296 ≤ b + v / 4294967296
        · have hq := Kn.broke Q1 K (.inr tb) c
          go_wp2
          clear K ha0 ha1 hb0 hb1 hqa
          go_loop [18, 16] (fun s t => ∃ a b : Int, s = .int .u64 a ∧ t = .int .u64 b ∧ Kn r1 (v / 4294967296) q2 a b) (fun s _ => (intOf s).toNat)
          case atStart => exact ⟨a2, b2, rfl, rfl, K2⟩
          case round =>
            obtain ⟨a, b, rfl, rfl, K⟩ := hrel
            have ha0 := Kn.a0 Q2 K
            have ha1 := K.a1
            have hb0 := K.b0
            have hb1 := K.b1
            have hqa := K.qa
            by_cases ta : 4294967296 ≤ a
            · by_cases c : 4294967296 ≤ b + v / 4294967296
              · have hq := Kn.broke Q2 K (.inl ta) c
                go_wp2
                go_ret2
                exact ⟨retII HA.out.1 HA.out.2, rfl⟩
              · have hle := Kn.less Q2 K (.inl ta)
                have HK := Lib.hid (Kn.next Q2 K (.inl ta) (by omega))
                clear K
                go_wp2
                go_round
                case rel => exact ⟨_, _, rfl, rfl, HK.out⟩
                case measure => simp [intOf]; omega
            · have hp := Kn.prod Q2 K (by omega)
              by_cases tb : 4294967296 * b + ll % 4294967296 < a * (v % 4294967296)
              · by_cases c : 4294967296 ≤ b + v / 4294967296
                · have hq := Kn.broke Q2 K (.inr tb) c
                  go_wp2
                  go_ret2
                  exact ⟨retII HA.out.1 HA.out.2, rfl⟩
                · have hle := Kn.less Q2 K (.inr tb)
                  have HK := Lib.hid (Kn.next Q2 K (.inr tb) (by omega))
                  clear K
                  go_wp2
                  go_round
                  case rel => exact ⟨_, _, rfl, rfl, HK.out⟩
                  case measure => simp [intOf]; omega
              · obtain rfl : a = q2 := Kn.done Q2 K (by omega)
                go_wp2
                go_ret2
                exact ⟨retII HA.out.1 HA.out.2, rfl⟩
        · have hle := Kn.less Q1 K (.inr tb)
          have HK := Lib.hid (Kn.next Q1 K (.inr tb) (by omega))
          clear K
          go_wp2
          go_round
          case rel => exact ⟨_, _, rfl, rfl, HK.out⟩
          case measure => simp [intOf]; omega
      · obtain rfl : a = q1 := Kn.done Q1 K (by omega)
        go_wp2
        clear K ha0 ha1 hb0 hb1 hqa
        go_loop [18, 16] (fun s t => ∃ a b : Int, s = .int .u64 a ∧ t = .int .u64 b ∧ Kn r1 (v / 4294967296) q2 a b) (fun s _ => (intOf s).toNat)
        case atStart => exact ⟨a2, b2, rfl, rfl, K2⟩
        case round =>
          obtain ⟨a, b, rfl, rfl, K⟩ := hrel
          have ha0 := Kn.a0 Q2 K
          have ha1 := K.a1
          have hb0 := K.b0
          have hb1 := K.b1
          have hqa := K.qa
          by_cases ta : 4294967296 ≤ a
          · by_cases c : 4294967296 ≤ b + v / 4294967296
            · have hq := Kn.broke Q2 K (.inl ta) c
              go_wp2
              go_ret2
              exact ⟨retII HA.out.1 HA.out.2, rfl⟩
            · have hle := Kn.less Q2 K (.inl ta)
              have HK := Lib.hid (Kn.next Q2 K (.inl ta) (by omega))
              clear K
              go_wp2
              go_round
              case rel => exact ⟨_, _, rfl, rfl, HK.out⟩
              case measure => simp [intOf]; omega
          · have hp := Kn.prod Q2 K (by omega)
            by_cases tb : 4294967296 * b + ll % 4294967296 < a * (v % 4294967296)
            · by_cases c : 4294967296 ≤ b + v / 4294967296
              · have hq := Kn.broke Q2 K (.inr tb) c
                go_wp2
                go_ret2
                exact ⟨retII HA.out.1 HA.out.2, rfl⟩
              · have hle := Kn.less Q2 K (.inr tb)
                have HK := Lib.hid (Kn.next Q2 K (.inr tb) (by omega))
                clear K
                go_wp2
                go_round
                case rel => exact ⟨_, _, rfl, rfl, HK.out⟩
                case measure => simp [intOf]; omega
            · obtain rfl : a = q2 := Kn.done Q2 K (by omega)
              go_wp2
              go_ret2
              exact ⟨retII HA.out.1 HA.out.2, rfl⟩
end Go.Proofs.Ytmdcfnifbkpedaa

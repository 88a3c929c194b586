/- Contracts of the program's table: within, last, Cell, Right, Bound. -/
import Derived.Test.YtbggakbjppnchaaOe
import Derived.Test.YtbggakbjppnchaaGp
import Derived.Test.YtbggakbjppnchaaKz
namespace Go.Proofs.Ytbggakbjppnchaa
open Go.RowKit
set_option linter.unusedVariables false
set_option linter.unusedSimpArgs false

/-- a slice in a box of its own, a number in another -/
structure TB (W : World) (n m : Nat) (v : Value) (x : Int) : Prop where
  c : W.cell? ⟨n, 0, none⟩ = some v
  d : W.cell? ⟨m, 0, none⟩ = some (.int .i64 x)
  nl : n < W.heap.size
  ml : m < W.heap.size
theorem TB.below {B : Nat} {w w' : World} {n m : Nat} {v : Value} {x : Int} (p : TB w n m v x) (h : Below B w w') (hn : n < B) (hm : m < B) : TB w' n m v x :=
  ⟨(h.cell (p := ⟨n, 0, none⟩) hn).trans p.c, (h.cell (p := ⟨m, 0, none⟩) hm).trans p.d, by have := h.size; have := p.nl; omega, by have := h.size; have := p.ml; omega⟩
set_option maxHeartbeats 1000000 in
theorem tCellF_any (a : Option Addr) (len cap : Nat) (X Y : Nat → Int) (x : Int) (i n m : Nat) (w : World) (hi : i < len) (D : Dots w a len cap X Y) (T : TB w n m (.slice a len cap) x) :
    Calls Try.prog 53 #[.int .i64 i, .pointer (some ⟨n, 0, none⟩), .pointer (some ⟨m, 0, none⟩)] w fun e w' => e = .returned (.bool (decide (X i ≤ x))) ∧ Below w.heap.size w w' := by
  obtain ⟨b, off, rfl, hb, hcell⟩ := D.at' (by omega)
  have c0 := (hcell i hi).1
  have tc := T.c
  have td := T.d
  clear hcell D T
  go_enter Try.func53, Try.ntmps53
  go_wp2_with fail
  go_quiet (fail)
  go_wp2
  go_ret
  exact ⟨rfl, by repeat (first | exact Below.refl _ _ | assumption | refine Below.setCell ?_ (by first | omega | (simp; done) | (simp; omega)) _ | refine Below.alloc ?_ (by first | omega | (simp; done) | (simp; omega)) _ | refine below_drewN ?_ _ | refine Below.drew ?_ | refine Below.trans ?_ (Below.mono (by assumption) (by first | omega | (simp; done) | (simp; omega))))⟩
theorem cellUp_one (X : Nat → Int) (x : Int) {k : Nat} (h : k ≤ 1) : cellUp X x k = 0 := by
  have := cellUp_le X x k; omega
theorem cellUp_yes {X : Nat → Int} {x : Int} {j : Nat} (h : X j ≤ x) : cellUp X x (j + 1) = j := if_pos h
theorem cellUp_no {X : Nat → Int} {x : Int} {j : Nat} (h : ¬ X j ≤ x) : cellUp X x (j + 1) = cellUp X x j := if_neg h
set_option maxHeartbeats 2000000 in
set_option maxRecDepth 100000 in
/-- last: places are asked from the last one down to the second -/
theorem tLast_any (g : Nat) (cb : Array Value) (k : Nat) (X : Nat → Int) (x kk : Int) (w : World) (eg : ∀ args w, (callFunc g args).run Try.prog w = .ok (.enter g args) w) (hk : kk = k ∨ (k = 0 ∧ kk = -1)) (hsz : k < 1000)
    (hf : ∀ (i : Nat) (wr : World), i < k → Below w.heap.size w wr → Calls Try.prog g (#[.int .i64 i] ++ cb) wr fun e w' => e = .returned (.bool (decide (X i ≤ x))) ∧ Below wr.heap.size wr w') :
    Calls Try.prog 52 #[.int .i64 kk, .func (.func g) #[] cb] w fun e w' => e = .returned (.int .i64 (cellUp X x k)) ∧ Below w.heap.size w w' := by
  have HF := Lib.hid hf
  obtain ⟨R, hR⟩ : ∃ R, cellUp X x k = R := ⟨_, rfl⟩
  have k0 : -1 ≤ kk := by omega
  have k1 : kk < 1000 := by omega
  have S := Lib.hid (show (kk - 1 ≤ 0 → R = 0) ∧ (∀ j : Nat, kk - 1 = j → 0 < j → j < k ∧ cellUp X x (j + 1) = R) from
    ⟨fun h => by rw [← hR]; exact cellUp_one X x (by omega), fun j h h0 => by
      have e : k = j + 1 := by omega
      exact ⟨by omega, by rw [← hR, e]⟩⟩)
  rw [hR]
  clear hf hk hR
  go_enter Try.func52, Try.ntmps52
  go_wp2
  go_loopw [5] (fun i wr => ∃ z : Int, i = .int .i64 z ∧ -2 ≤ z ∧ z < 1000 ∧ Hid ((z ≤ 0 → R = 0) ∧ (∀ j : Nat, z = j → 0 < j → j < k ∧ cellUp X x (j + 1) = R)) ∧ Below w.heap.size w wr) (fun i _ => (intOf i + 2).toNat)
  case atStart => exact ⟨kk - 1, rfl, by omega, by omega, S.out, Below.refl _ _⟩
  case round =>
    obtain ⟨z, rfl, z0, z1, H, B⟩ := hrel
    clear S
    by_cases hz : 0 < z
    · obtain ⟨j, rfl⟩ : ∃ j : Nat, z = j := ⟨z.toNat, by omega⟩
      have hj := H.out.2 j rfl (by omega)
      have hc := HF.out j wr hj.1 B
      have hj1 := hj.1
      have HB := Lib.hid B
      clear B H
      by_cases c : X j ≤ x
      · rw [decide_eq_true c] at hc
        have E := Lib.hid (show j = R by rw [← hj.2, cellUp_yes c])
        clear hj c
        go_wp2_with (go_at_fn g; refine hc.mono ?_; rintro e w' ⟨rfl, hb⟩)
        go_ret
        exact ⟨by rw [← E.out]; rfl, HB.out.trans (hb.mono HB.out.size)⟩
      · rw [decide_eq_false c] at hc
        have E := Lib.hid (show ((j : Int) - 1 ≤ 0 → R = 0) ∧ (∀ i : Nat, (j : Int) - 1 = i → 0 < i → i < k ∧ cellUp X x (i + 1) = R) from
          ⟨fun h => by rw [← hj.2, cellUp_no c]; exact cellUp_one X x (by omega), fun i h h0 => by
            have e : j = i + 1 := by omega
            exact ⟨by omega, by rw [← hj.2, cellUp_no c, e]⟩⟩)
        clear hj c
        go_wp2_with (go_at_fn g; refine hc.mono ?_; rintro e w' ⟨rfl, hb⟩)
        go_roundw
        case rel => exact ⟨(j : Int) - 1, rfl, by omega, by omega, E.out, HB.out.trans (hb.mono HB.out.size)⟩
        case measure => simp [intOf]; omega
    · have E := Lib.hid (show (0 : Nat) = R from (H.out.1 (by omega)).symm)
      go_wp2
      go_ret
      exact ⟨by rw [← E.out]; rfl, B⟩
set_option maxHeartbeats 1000000 in
theorem tCell_any (a : Option Addr) (len cap : Nat) (X Y : Nat → Int) (x : Int) (w : World) (hmax : len ≤ 100) (hx : In64 x) (D : Dots w a len cap X Y) :
    Calls Try.prog 40 #[.slice a len cap, .int .i64 x] w fun e w' => e = .returned (.int .i64 (cellUp X x (len - 1))) ∧ Below w.heap.size w w' := by
  have HD := Lib.hid D
  have hmf : ∀ (fn : Fn) (first cap : Array Value) (w : World), (Instr.makeFunc fn first cap).run Try.prog w = .ok (.func fn first cap) w := fun _ _ _ _ => rfl
  have KK := Lib.hid (show (len : Int) - 1 = ((len - 1 : Nat) : Int) ∨ (len - 1 = 0 ∧ (len : Int) - 1 = -1) by omega)
  clear D
  go_enter Try.func40, Try.ntmps40
  go_wp2_with fail
  refine calls_gen (S := fun W => TB W w.heap.size (w.heap.size + 1) (.slice a len cap) x ∧ Below w.heap.size w W) ⟨⟨by go_simp, by go_simp, by simp; omega, by simp⟩, by repeat (first | exact Below.refl _ _ | assumption | refine Below.setCell ?_ (by first | omega | (simp; done) | (simp; omega)) _ | refine Below.alloc ?_ (by first | omega | (simp; done) | (simp; omega)) _ | refine below_drewN ?_ _ | refine Below.drew ?_ | refine Below.trans ?_ (Below.mono (by assumption) (by first | omega | (simp; done) | (simp; omega))))⟩ (fun W0 hS => ?_)
  have T0 := Lib.hid hS.1
  have B0 := Lib.hid hS.2
  clear hS
  refine (tLast_any 53 #[.pointer (some ⟨w.heap.size, 0, none⟩), .pointer (some ⟨w.heap.size + 1, 0, none⟩)] (len - 1) X x _ _ (fun _ _ => rfl) KK.out (by omega) (fun i wr hi hb => tCellF_any a len cap X Y x i _ _ wr (by omega) (HD.out.below (B0.out.trans (hb.mono B0.out.size)) (Nat.le_refl _)) (T0.out.below hb (by have := T0.out.ml; omega) T0.out.ml))).mono ?_
  rintro e w1 ⟨rfl, h⟩
  have B1 := Lib.hid (B0.out.trans (h.mono B0.out.size))
  clear h B0 T0
  go_wp2
  go_ret
  exact ⟨rfl, B1.out⟩
theorem tabs_fit {y : Int} (h : inT y) : absF y = if y < 0 then -y else y := by
  unfold inT at h
  unfold absF subF
  by_cases c : y < 0
  · rw [if_pos c, if_pos c, (clip64_of (n := 0 - y) (by unfold In64; omega)).1]; omega
  · rw [if_neg c, if_neg c]
end Go.Proofs.Ytbggakbjppnchaa

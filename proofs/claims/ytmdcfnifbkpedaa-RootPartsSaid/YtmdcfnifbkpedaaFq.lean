/- The contract of the document's square. -/
import Derived.Test.YtmdcfnifbkpedaaFe
import Derived.Test.YtmdcfnifbkpedaaFw
namespace Go.Proofs.Ytmdcfnifbkpedaa
open Go.RowKit

/-- all that the loops know of memory -/
structure SqS (w wr : World) (l0 l1 x0 x1 x2 x3 : Int) : Prop where
  o : CellQ wr (w.heap.size + 1 + 1) x0 x1 x2 x3
  l : CellL wr (w.heap.size + 1) l0 l1
  z : w.heap.size + 1 + 1 < wr.heap.size
  r : (∀ j, wr.frozen? ⟨w.heap.size, j, none⟩ = false) ∧ (∃ v, wr.cell? ⟨w.heap.size, 0, none⟩ = some v) ∧ (∃ v, wr.cell? ⟨w.heap.size, 1, none⟩ = some v) ∧ (∃ v, wr.cell? ⟨w.heap.size, 2, none⟩ = some v) ∧ (∃ v, wr.cell? ⟨w.heap.size, 3, none⟩ = some v)
  b : Below w.heap.size w wr
theorem sqS_start (w : World) (l0 l1 : Int) (t u : TypeId) :
    SqS w (((w.alloc (.cells #[.int .u64 0, .int .u64 0, .int .u64 0, .int .u64 0] t)).alloc (.cells #[.int .u64 l0, .int .u64 l1] u)).alloc (.cells #[.int .u64 0, .int .u64 0, .int .u64 0, .int .u64 0] t)) l0 l1 0 0 0 0 :=
  ⟨⟨by go_simp, by go_simp, by go_simp, by go_simp, fun j => by go_simp⟩, ⟨by go_simp, by go_simp⟩, by simp,
    ⟨fun j => by go_simp, ⟨.int .u64 0, by go_simp⟩, ⟨.int .u64 0, by go_simp⟩, ⟨.int .u64 0, by go_simp⟩, ⟨.int .u64 0, by go_simp⟩⟩, by repeat (first | exact Below.refl _ _ | assumption | refine Below.setCell ?_ (by first | omega | (simp; done) | (simp; omega)) _ | refine Below.alloc ?_ (by first | omega | (simp; done) | (simp; omega)) _ | refine below_drewN ?_ _ | refine Below.drew ?_ | refine Below.trans ?_ (Below.mono (by assumption) (by first | omega | (simp; done) | (simp; omega))))⟩
theorem SqS.drewN {w wr : World} {l0 l1 x0 x1 x2 x3 : Int} (k : SqS w wr l0 l1 x0 x1 x2 x3) (q : Nat) : SqS w (wr.drewN q) l0 l1 x0 x1 x2 x3 :=
  ⟨k.o.drewN q, k.l.drewN q, k.z, k.r, below_drewN k.b q⟩
theorem SqS.put {w wr : World} {l0 l1 x0 x1 x2 x3 y0 y1 y2 y3 : Int} (k : SqS w wr l0 l1 x0 x1 x2 x3) (i : Nat) (v : Value) (o : CellQ (wr.setCell ⟨w.heap.size + 1 + 1, i, none⟩ v) (w.heap.size + 1 + 1) y0 y1 y2 y3) :
    SqS w (wr.setCell ⟨w.heap.size + 1 + 1, i, none⟩ v) l0 l1 y0 y1 y2 y3 :=
  ⟨o, k.l.far (by omega) _ _, by have := k.z; simpa [World.setCell] using this,
    ⟨fun j => (World.frozen?_setCell _ _ _ _).trans (k.r.1 j), far_some (by omega) k.r.2.1, far_some (by omega) k.r.2.2.1, far_some (by omega) k.r.2.2.2.1, far_some (by omega) k.r.2.2.2.2⟩, k.b.setCell (by simp; omega) _⟩
set_option maxHeartbeats 8000000 in
set_option maxRecDepth 100000 in
theorem square_any (X : Int) (w : World) (X0 : 0 ≤ X) (X1 : X ≤ 18446744073709551615) :
    Calls Try.prog 60 #[.int .u64 X] w fun e w' => e = .returned (.agg #[.int .u64 (d0 (X * X)), .int .u64 (d1 (X * X)), .int .u64 (d2 (X * X)), .int .u64 (d3 (X * X))]) ∧ Below w.heap.size w w' := by
  obtain ⟨l0, el0⟩ : ∃ l0, X % 4294967296 = l0 := ⟨_, rfl⟩
  obtain ⟨l1, el1⟩ : ∃ l1, X / 4294967296 = l1 := ⟨_, rfl⟩
  have l00 : 0 ≤ l0 := by omega
  have l01 : l0 ≤ 4294967295 := by omega
  have l10 : 0 ≤ l1 := by omega
  have l11 : l1 ≤ 4294967295 := by omega
  have EL := Lib.hid (show l0 + l1 * 4294967296 = X by omega)
  go_enter Try.func60, Try.ntmps60
  go_wp2_with fail
  refine (low_any _ _ X0 X1).mono ?_
  rintro e w1 ⟨rfl, rfl⟩
  go_wp2
  have PB : ∀ i k : Nat, psum l0 l1 l0 l1 i k < 340282366920938463463374607431768211456 := by
    intro i k
    have p00 := dig_prod l00 l01 l00 l01
    have p01 := dig_prod l00 l01 l10 l11
    have p10 := dig_prod l10 l11 l00 l01
    have p11 := dig_prod l10 l11 l10 l11
    unfold psum
    split <;> split <;> split <;> split <;> omega
  have PBH := Lib.hid PB
  try rw [el1]
  clear PB el0 el1
  go_loopw [5] (fun v wr => ∃ (i : Nat) (x0 x1 x2 x3 : Int), i ≤ 2 ∧ v = .int .i64 i ∧ IsD x0 x1 x2 x3 (psum l0 l1 l0 l1 i 0) ∧ SqS w wr l0 l1 x0 x1 x2 x3) (fun v _ => 2 - (intOf v).toNat)
  case atStart => exact ⟨0, 0, 0, 0, 0, by omega, rfl, by simpa [psum] using isD_zero, sqS_start w l0 l1 _ _⟩
  case round =>
    obtain ⟨i, x0, x1, x2, x3, hi, rfl, D, M⟩ := hrel
    have D := Lib.hid D
    by_cases ii : i < 2
    · rcases (show i = 0 ∨ i = 1 by omega) with h | h
      · obtain rfl : i = 0 := h
        rw [show ((0 : Nat) : Int) = 0 from rfl]
        clear ii hi
        go_wp2
        go_loopw [6] (fun v wr => ∃ (k : Nat) (x0 x1 x2 x3 : Int), k ≤ 2 ∧ v = .int .i64 k ∧ IsD x0 x1 x2 x3 (psum l0 l1 l0 l1 0 k) ∧ SqS w wr l0 l1 x0 x1 x2 x3) (fun v _ => 2 - (intOf v).toNat)
        case atStart => exact ⟨0, x0, x1, x2, x3, by omega, rfl, D.out, M⟩
        case round =>
          clear D M
          obtain ⟨k, x0, x1, x2, x3, hk, rfl, D, M⟩ := hrel
          have D := Lib.hid D
          by_cases kk : k < 2
          · rcases (show k = 0 ∨ k = 1 by omega) with h | h
            · obtain rfl : k = 0 := h
              rw [show ((0 : Nat) : Int) = 0 from rfl]
              clear kk hk
              have hp := dig_prod (a := l0) (b := l0) (by omega) (by omega) (by omega) (by omega)
              have o0 := M.o.c0
              have o1 := M.o.c1
              have o2 := M.o.c2
              have o3 := M.o.c3
              have of := M.o.f
              have q0 := M.l.c0
              have q1 := M.l.c1
              go_wp2
              go_quiet (fail)
              go_wp2
              go_loopw [7, 8] (fun c t wr => ∃ (tt : Nat) (y0 y1 y2 y3 cc : Int), t = .int .i64 tt ∧ c = .int .u64 cc ∧ Acc tt y0 y1 y2 y3 cc (psum l0 l1 l0 l1 0 (0 + 1)) ∧ SqS w wr l0 l1 y0 y1 y2 y3) (fun _ t _ => 4 - (intOf t).toNat)
              case atStart => exact ⟨0 + 0, x0, x1, x2, x3, l0 * l0, by go_num, rfl, (by have := Acc.start (t := 0 + 0) D.out hp.1 (by omega) (by omega); simpa [psum, Int.add_assoc] using this), M.drewN _⟩
              case round =>
                clear o0 o1 o2 o3 of q0 q1 M D
                obtain ⟨tt, y0, y1, y2, y3, cc, rfl, rfl, K, M⟩ := hrel
                have k0 := K.k0
                have k1 := K.k1
                have ya := K.a0
                have yb := K.a1
                have yc := K.b0
                have yd := K.b1
                have ye := K.c0
                have yf := K.c1
                have yg := K.d0
                have yh := K.d1
                have yt := K.t4
                by_cases c : cc = 0 ∨ tt = 4
                · have DN := Lib.hid (K.done c (PBH.out 0 (0 + 1)))
                  by_cases c4 : tt = 4
                  · subst c4
                    rw [show ((4 : Nat) : Int) = 4 from rfl]
                    clear c K
                    go_wp2
                    go_roundw
                    case rel => first | exact ⟨0 + 1, _, _, _, _, by omega, by go_num, DN.out, M⟩ | ((repeat apply Exists.intro); exact ⟨⟨0 + 1, _, _, _, _, by omega, by go_num, DN.out, M⟩, rfl⟩)
                    case measure => simp [intOf]
                  · obtain rfl : cc = 0 := by omega
                    clear c K
                    go_wp2
                    go_roundw
                    case rel => first | exact ⟨0 + 1, _, _, _, _, by omega, by go_num, DN.out, M⟩ | ((repeat apply Exists.intro); exact ⟨⟨0 + 1, _, _, _, _, by omega, by go_num, DN.out, M⟩, rfl⟩)
                    case measure => simp [intOf]
                · have c0 : 0 < cc := by omega
                  have ct : tt < 4 := by omega
                  clear c
                  rcases (show tt = 0 ∨ tt = 1 ∨ tt = 2 ∨ tt = 3 by omega) with h | h | h | h
                  · obtain rfl : tt = 0 := h
                    rw [show ((0 : Nat) : Int) = 0 from rfl]
                    clear ct
                    have ks := K.s0
                    have KS := Lib.hid ks
                    clear ks K
                    have o0 := M.o.c0
                    have o1 := M.o.c1
                    have o2 := M.o.c2
                    have o3 := M.o.c3
                    have of := M.o.f
                    have q0 := M.l.c0
                    have q1 := M.l.c1
                    go_wp2
                    go_quiet ((go_at_call 53; exact Calls.quiet_of_same (low_any _ _ k0 k1)))
                    go_wp2_with fail
                    refine (low_any _ _ (by omega) (by omega)).mono ?_
                    rintro e w1 ⟨rfl, rfl⟩
                    go_wp2
                    go_roundw
                    case rel => exact ⟨1, _, _, _, _, _, by go_num, rfl, KS.out, (M.drewN _).put _ _ ((M.drewN _).o.set0 _)⟩
                    case measure => simp [intOf]
                  · obtain rfl : tt = 1 := h
                    rw [show ((1 : Nat) : Int) = 1 from rfl]
                    clear ct
                    have ks := K.s1
                    have KS := Lib.hid ks
                    clear ks K
                    have o0 := M.o.c0
                    have o1 := M.o.c1
                    have o2 := M.o.c2
                    have o3 := M.o.c3
                    have of := M.o.f
                    have q0 := M.l.c0
                    have q1 := M.l.c1
                    go_wp2
                    go_quiet ((go_at_call 53; exact Calls.quiet_of_same (low_any _ _ k0 k1)))
                    go_wp2_with fail
                    refine (low_any _ _ (by omega) (by omega)).mono ?_
                    rintro e w1 ⟨rfl, rfl⟩
                    go_wp2
                    go_roundw
                    case rel => exact ⟨2, _, _, _, _, _, by go_num, rfl, KS.out, (M.drewN _).put _ _ ((M.drewN _).o.set1 _)⟩
                    case measure => simp [intOf]
                  · obtain rfl : tt = 2 := h
                    rw [show ((2 : Nat) : Int) = 2 from rfl]
                    clear ct
                    have ks := K.s2
                    have KS := Lib.hid ks
                    clear ks K
                    have o0 := M.o.c0
                    have o1 := M.o.c1
                    have o2 := M.o.c2
                    have o3 := M.o.c3
                    have of := M.o.f
                    have q0 := M.l.c0
                    have q1 := M.l.c1
                    go_wp2
                    go_quiet ((go_at_call 53; exact Calls.quiet_of_same (low_any _ _ k0 k1)))
                    go_wp2_with fail
                    refine (low_any _ _ (by omega) (by omega)).mono ?_
                    rintro e w1 ⟨rfl, rfl⟩
                    go_wp2
                    go_roundw
                    case rel => exact ⟨3, _, _, _, _, _, by go_num, rfl, KS.out, (M.drewN _).put _ _ ((M.drewN _).o.set2 _)⟩
                    case measure => simp [intOf]
                  · obtain rfl : tt = 3 := h
                    rw [show ((3 : Nat) : Int) = 3 from rfl]
                    clear ct
                    have ks := K.s3
                    have KS := Lib.hid ks
                    clear ks K
                    have o0 := M.o.c0
                    have o1 := M.o.c1
                    have o2 := M.o.c2
                    have o3 := M.o.c3
                    have of := M.o.f
                    have q0 := M.l.c0
                    have q1 := M.l.c1
                    go_wp2
                    go_quiet ((go_at_call 53; exact Calls.quiet_of_same (low_any _ _ k0 k1)))
                    go_wp2_with fail
                    refine (low_any _ _ (by omega) (by omega)).mono ?_
                    rintro e w1 ⟨rfl, rfl⟩
                    go_wp2
                    go_roundw
                    case rel => exact ⟨4, _, _, _, _, _, by go_num, rfl, KS.out, (M.drewN _).put _ _ ((M.drewN _).o.set3 _)⟩
                    case measure => simp [intOf]
            · obtain rfl : k = 1 := h
              rw [show ((1 : Nat) : Int) = 1 from rfl]
              clear kk hk
              have hp := dig_prod (a := l0) (b := l1) (by omega) (by omega) (by omega) (by omega)
              have o0 := M.o.c0
              have o1 := M.o.c1
              have o2 := M.o.c2
              have o3 := M.o.c3
              have of := M.o.f
              have q0 := M.l.c0
              have q1 := M.l.c1
              go_wp2
              go_quiet (fail)
              go_wp2
              go_loopw [7, 8] (fun c t wr => ∃ (tt : Nat) (y0 y1 y2 y3 cc : Int), t = .int .i64 tt ∧ c = .int .u64 cc ∧ Acc tt y0 y1 y2 y3 cc (psum l0 l1 l0 l1 0 (1 + 1)) ∧ SqS w wr l0 l1 y0 y1 y2 y3) (fun _ t _ => 4 - (intOf t).toNat)
              case atStart => exact ⟨0 + 1, x0, x1, x2, x3, l0 * l1, by go_num, rfl, (by have := Acc.start (t := 0 + 1) D.out hp.1 (by omega) (by omega); simpa [psum, Int.add_assoc] using this), M.drewN _⟩
              case round =>
                clear o0 o1 o2 o3 of q0 q1 M D
                obtain ⟨tt, y0, y1, y2, y3, cc, rfl, rfl, K, M⟩ := hrel
                have k0 := K.k0
                have k1 := K.k1
                have ya := K.a0
                have yb := K.a1
                have yc := K.b0
                have yd := K.b1
                have ye := K.c0
                have yf := K.c1
                have yg := K.d0
                have yh := K.d1
                have yt := K.t4
                by_cases c : cc = 0 ∨ tt = 4
                · have DN := Lib.hid (K.done c (PBH.out 0 (1 + 1)))
                  by_cases c4 : tt = 4
                  · subst c4
                    rw [show ((4 : Nat) : Int) = 4 from rfl]
                    clear c K
                    go_wp2
                    go_roundw
                    case rel => first | exact ⟨1 + 1, _, _, _, _, by omega, by go_num, DN.out, M⟩ | ((repeat apply Exists.intro); exact ⟨⟨1 + 1, _, _, _, _, by omega, by go_num, DN.out, M⟩, rfl⟩)
                    case measure => simp [intOf]
                  · obtain rfl : cc = 0 := by omega
                    clear c K
                    go_wp2
                    go_roundw
                    case rel => first | exact ⟨1 + 1, _, _, _, _, by omega, by go_num, DN.out, M⟩ | ((repeat apply Exists.intro); exact ⟨⟨1 + 1, _, _, _, _, by omega, by go_num, DN.out, M⟩, rfl⟩)
                    case measure => simp [intOf]
                · have c0 : 0 < cc := by omega
                  have ct : tt < 4 := by omega
                  clear c
                  rcases (show tt = 0 ∨ tt = 1 ∨ tt = 2 ∨ tt = 3 by omega) with h | h | h | h
                  · obtain rfl : tt = 0 := h
                    rw [show ((0 : Nat) : Int) = 0 from rfl]
                    clear ct
                    have ks := K.s0
                    have KS := Lib.hid ks
                    clear ks K
                    have o0 := M.o.c0
                    have o1 := M.o.c1
                    have o2 := M.o.c2
                    have o3 := M.o.c3
                    have of := M.o.f
                    have q0 := M.l.c0
                    have q1 := M.l.c1
                    go_wp2
                    go_quiet ((go_at_call 53; exact Calls.quiet_of_same (low_any _ _ k0 k1)))
                    go_wp2_with fail
                    refine (low_any _ _ (by omega) (by omega)).mono ?_
                    rintro e w1 ⟨rfl, rfl⟩
                    go_wp2
                    go_roundw
                    case rel => exact ⟨1, _, _, _, _, _, by go_num, rfl, KS.out, (M.drewN _).put _ _ ((M.drewN _).o.set0 _)⟩
                    case measure => simp [intOf]
                  · obtain rfl : tt = 1 := h
                    rw [show ((1 : Nat) : Int) = 1 from rfl]
                    clear ct
                    have ks := K.s1
                    have KS := Lib.hid ks
                    clear ks K
                    have o0 := M.o.c0
                    have o1 := M.o.c1
                    have o2 := M.o.c2
                    have o3 := M.o.c3
                    have of := M.o.f
                    have q0 := M.l.c0
                    have q1 := M.l.c1
                    go_wp2
                    go_quiet ((go_at_call 53; exact Calls.quiet_of_same (low_any _ _ k0 k1)))
                    go_wp2_with fail
                    refine (low_any _ _ (by omega) (by omega)).mono ?_
                    rintro e w1 ⟨rfl, rfl⟩
                    go_wp2
                    go_roundw
                    case rel => exact ⟨2, _, _, _, _, _, by go_num, rfl, KS.out, (M.drewN _).put _ _ ((M.drewN _).o.set1 _)⟩
                    case measure => simp [intOf]
                  · obtain rfl : tt = 2 := h
                    rw [show ((2 : Nat) : Int) = 2 from rfl]
                    clear ct
                    have ks := K.s2
                    have KS := Lib.hid ks
                    clear ks K
                    have o0 := M.o.c0
                    have o1 := M.o.c1
                    have o2 := M.o.c2
                    have o3 := M.o.c3
                    have of := M.o.f
                    have q0 := M.l.c0
                    have q1 := M.l.c1
                    go_wp2
                    go_quiet ((go_at_call 53; exact Calls.quiet_of_same (low_any _ _ k0 k1)))
                    go_wp2_with fail
                    refine (low_any _ _ (by omega) (by omega)).mono ?_
                    rintro e w1 ⟨rfl, rfl⟩
                    go_wp2
                    go_roundw
                    case rel => exact ⟨3, _, _, _, _, _, by go_num, rfl, KS.out, (M.drewN _).put _ _ ((M.drewN _).o.set2 _)⟩
                    case measure => simp [intOf]
                  · obtain rfl : tt = 3 := h
                    rw [show ((3 : Nat) : Int) = 3 from rfl]
                    clear ct
                    have ks := K.s3
                    have KS := Lib.hid ks
                    clear ks K
                    have o0 := M.o.c0
                    have o1 := M.o.c1
                    have o2 := M.o.c2
                    have o3 := M.o.c3
                    have of := M.o.f
                    have q0 := M.l.c0
                    have q1 := M.l.c1
                    go_wp2
                    go_quiet ((go_at_call 53; exact Calls.quiet_of_same (low_any _ _ k0 k1)))
                    go_wp2_with fail
                    refine (low_any _ _ (by omega) (by omega)).mono ?_
                    rintro e w1 ⟨rfl, rfl⟩
                    go_wp2
                    go_roundw
                    case rel => exact ⟨4, _, _, _, _, _, by go_num, rfl, KS.out, (M.drewN _).put _ _ ((M.drewN _).o.set3 _)⟩
                    case measure => simp [intOf]
          · obtain rfl : k = 2 := by omega
            rw [show ((2 : Nat) : Int) = 2 from rfl]
            clear kk hk
            go_wp2
            go_roundw
            case rel => first | exact ⟨0 + 1, x0, x1, x2, x3, by omega, by go_num, by have := D.out; simpa [psum] using this, M⟩ | ((repeat apply Exists.intro); exact ⟨⟨0 + 1, x0, x1, x2, x3, by omega, by go_num, by have := D.out; simpa [psum] using this, M⟩, rfl⟩)
            case measure => simp [intOf]
      · obtain rfl : i = 1 := h
        rw [show ((1 : Nat) : Int) = 1 from rfl]
        clear ii hi
        go_wp2
        go_loopw [6] (fun v wr => ∃ (k : Nat) (x0 x1 x2 x3 : Int), k ≤ 2 ∧ v = .int .i64 k ∧ IsD x0 x1 x2 x3 (psum l0 l1 l0 l1 1 k) ∧ SqS w wr l0 l1 x0 x1 x2 x3) (fun v _ => 2 - (intOf v).toNat)
        case atStart => exact ⟨0, x0, x1, x2, x3, by omega, rfl, D.out, M⟩
        case round =>
          clear D M
          obtain ⟨k, x0, x1, x2, x3, hk, rfl, D, M⟩ := hrel
          have D := Lib.hid D
          by_cases kk : k < 2
          · rcases (show k = 0 ∨ k = 1 by omega) with h | h
            · obtain rfl : k = 0 := h
              rw [show ((0 : Nat) : Int) = 0 from rfl]
              clear kk hk
              have hp := dig_prod (a := l1) (b := l0) (by omega) (by omega) (by omega) (by omega)
              have o0 := M.o.c0
              have o1 := M.o.c1
              have o2 := M.o.c2
              have o3 := M.o.c3
              have of := M.o.f
              have q0 := M.l.c0
              have q1 := M.l.c1
              go_wp2
              go_quiet (fail)
              go_wp2
              go_loopw [7, 8] (fun c t wr => ∃ (tt : Nat) (y0 y1 y2 y3 cc : Int), t = .int .i64 tt ∧ c = .int .u64 cc ∧ Acc tt y0 y1 y2 y3 cc (psum l0 l1 l0 l1 1 (0 + 1)) ∧ SqS w wr l0 l1 y0 y1 y2 y3) (fun _ t _ => 4 - (intOf t).toNat)
              case atStart => exact ⟨1 + 0, x0, x1, x2, x3, l1 * l0, by go_num, rfl, (by have := Acc.start (t := 1 + 0) D.out hp.1 (by omega) (by omega); simpa [psum, Int.add_assoc] using this), M.drewN _⟩
              case round =>
                clear o0 o1 o2 o3 of q0 q1 M D
                obtain ⟨tt, y0, y1, y2, y3, cc, rfl, rfl, K, M⟩ := hrel
                have k0 := K.k0
                have k1 := K.k1
                have ya := K.a0
                have yb := K.a1
                have yc := K.b0
                have yd := K.b1
                have ye := K.c0
                have yf := K.c1
                have yg := K.d0
                have yh := K.d1
                have yt := K.t4
                by_cases c : cc = 0 ∨ tt = 4
                · have DN := Lib.hid (K.done c (PBH.out 1 (0 + 1)))
                  by_cases c4 : tt = 4
                  · subst c4
                    rw [show ((4 : Nat) : Int) = 4 from rfl]
                    clear c K
                    go_wp2
                    go_roundw
                    case rel => first | exact ⟨0 + 1, _, _, _, _, by omega, by go_num, DN.out, M⟩ | ((repeat apply Exists.intro); exact ⟨⟨0 + 1, _, _, _, _, by omega, by go_num, DN.out, M⟩, rfl⟩)
                    case measure => simp [intOf]
                  · obtain rfl : cc = 0 := by omega
                    clear c K
                    go_wp2
                    go_roundw
                    case rel => first | exact ⟨0 + 1, _, _, _, _, by omega, by go_num, DN.out, M⟩ | ((repeat apply Exists.intro); exact ⟨⟨0 + 1, _, _, _, _, by omega, by go_num, DN.out, M⟩, rfl⟩)
                    case measure => simp [intOf]
                · have c0 : 0 < cc := by omega
                  have ct : tt < 4 := by omega
                  clear c
                  rcases (show tt = 0 ∨ tt = 1 ∨ tt = 2 ∨ tt = 3 by omega) with h | h | h | h
                  · obtain rfl : tt = 0 := h
                    rw [show ((0 : Nat) : Int) = 0 from rfl]
                    clear ct
                    have ks := K.s0
                    have KS := Lib.hid ks
                    clear ks K
                    have o0 := M.o.c0
                    have o1 := M.o.c1
                    have o2 := M.o.c2
                    have o3 := M.o.c3
                    have of := M.o.f
                    have q0 := M.l.c0
                    have q1 := M.l.c1
                    go_wp2
                    go_quiet ((go_at_call 53; exact Calls.quiet_of_same (low_any _ _ k0 k1)))
                    go_wp2_with fail
                    refine (low_any _ _ (by omega) (by omega)).mono ?_
                    rintro e w1 ⟨rfl, rfl⟩
                    go_wp2
                    go_roundw
                    case rel => exact ⟨1, _, _, _, _, _, by go_num, rfl, KS.out, (M.drewN _).put _ _ ((M.drewN _).o.set0 _)⟩
                    case measure => simp [intOf]
                  · obtain rfl : tt = 1 := h
                    rw [show ((1 : Nat) : Int) = 1 from rfl]
                    clear ct
                    have ks := K.s1
                    have KS := Lib.hid ks
                    clear ks K
                    have o0 := M.o.c0
                    have o1 := M.o.c1
                    have o2 := M.o.c2
                    have o3 := M.o.c3
                    have of := M.o.f
                    have q0 := M.l.c0
                    have q1 := M.l.c1
                    go_wp2
                    go_quiet ((go_at_call 53; exact Calls.quiet_of_same (low_any _ _ k0 k1)))
                    go_wp2_with fail
                    refine (low_any _ _ (by omega) (by omega)).mono ?_
                    rintro e w1 ⟨rfl, rfl⟩
                    go_wp2
                    go_roundw
                    case rel => exact ⟨2, _, _, _, _, _, by go_num, rfl, KS.out, (M.drewN _).put _ _ ((M.drewN _).o.set1 _)⟩
                    case measure => simp [intOf]
                  · obtain rfl : tt = 2 := h
                    rw [show ((2 : Nat) : Int) = 2 from rfl]
                    clear ct
                    have ks := K.s2
                    have KS := Lib.hid ks
                    clear ks K
                    have o0 := M.o.c0
                    have o1 := M.o.c1
                    have o2 := M.o.c2
                    have o3 := M.o.c3
                    have of := M.o.f
                    have q0 := M.l.c0
                    have q1 := M.l.c1
                    go_wp2
                    go_quiet ((go_at_call 53; exact Calls.quiet_of_same (low_any _ _ k0 k1)))
                    go_wp2_with fail
                    refine (low_any _ _ (by omega) (by omega)).mono ?_
                    rintro e w1 ⟨rfl, rfl⟩
                    go_wp2
                    go_roundw
                    case rel => exact ⟨3, _, _, _, _, _, by go_num, rfl, KS.out, (M.drewN _).put _ _ ((M.drewN _).o.set2 _)⟩
                    case measure => simp [intOf]
                  · obtain rfl : tt = 3 := h
                    rw [show ((3 : Nat) : Int) = 3 from rfl]
                    clear ct
                    have ks := K.s3
                    have KS := Lib.hid ks
                    clear ks K
                    have o0 := M.o.c0
                    have o1 := M.o.c1
                    have o2 := M.o.c2
                    have o3 := M.o.c3
                    have of := M.o.f
                    have q0 := M.l.c0
                    have q1 := M.l.c1
                    go_wp2
                    go_quiet ((go_at_call 53; exact Calls.quiet_of_same (low_any _ _ k0 k1)))
                    go_wp2_with fail
                    refine (low_any _ _ (by omega) (by omega)).mono ?_
                    rintro e w1 ⟨rfl, rfl⟩
                    go_wp2
                    go_roundw
                    case rel => exact ⟨4, _, _, _, _, _, by go_num, rfl, KS.out, (M.drewN _).put _ _ ((M.drewN _).o.set3 _)⟩
                    case measure => simp [intOf]
            · obtain rfl : k = 1 := h
              rw [show ((1 : Nat) : Int) = 1 from rfl]
              clear kk hk
              have hp := dig_prod (a := l1) (b := l1) (by omega) (by omega) (by omega) (by omega)
              have o0 := M.o.c0
              have o1 := M.o.c1
              have o2 := M.o.c2
              have o3 := M.o.c3
              have of := M.o.f
              have q0 := M.l.c0
              have q1 := M.l.c1
              go_wp2
              go_quiet (fail)
              go_wp2
              go_loopw [7, 8] (fun c t wr => ∃ (tt : Nat) (y0 y1 y2 y3 cc : Int), t = .int .i64 tt ∧ c = .int .u64 cc ∧ Acc tt y0 y1 y2 y3 cc (psum l0 l1 l0 l1 1 (1 + 1)) ∧ SqS w wr l0 l1 y0 y1 y2 y3) (fun _ t _ => 4 - (intOf t).toNat)
              case atStart => exact ⟨1 + 1, x0, x1, x2, x3, l1 * l1, by go_num, rfl, (by have := Acc.start (t := 1 + 1) D.out hp.1 (by omega) (by omega); simpa [psum, Int.add_assoc] using this), M.drewN _⟩
              case round =>
                clear o0 o1 o2 o3 of q0 q1 M D
                obtain ⟨tt, y0, y1, y2, y3, cc, rfl, rfl, K, M⟩ := hrel
                have k0 := K.k0
                have k1 := K.k1
                have ya := K.a0
                have yb := K.a1
                have yc := K.b0
                have yd := K.b1
                have ye := K.c0
                have yf := K.c1
                have yg := K.d0
                have yh := K.d1
                have yt := K.t4
                by_cases c : cc = 0 ∨ tt = 4
                · have DN := Lib.hid (K.done c (PBH.out 1 (1 + 1)))
                  by_cases c4 : tt = 4
                  · subst c4
                    rw [show ((4 : Nat) : Int) = 4 from rfl]
                    clear c K
                    go_wp2
                    go_roundw
                    case rel => first | exact ⟨1 + 1, _, _, _, _, by omega, by go_num, DN.out, M⟩ | ((repeat apply Exists.intro); exact ⟨⟨1 + 1, _, _, _, _, by omega, by go_num, DN.out, M⟩, rfl⟩)
                    case measure => simp [intOf]
                  · obtain rfl : cc = 0 := by omega
                    clear c K
                    go_wp2
                    go_roundw
                    case rel => first | exact ⟨1 + 1, _, _, _, _, by omega, by go_num, DN.out, M⟩ | ((repeat apply Exists.intro); exact ⟨⟨1 + 1, _, _, _, _, by omega, by go_num, DN.out, M⟩, rfl⟩)
                    case measure => simp [intOf]
                · have c0 : 0 < cc := by omega
                  have ct : tt < 4 := by omega
                  clear c
                  rcases (show tt = 0 ∨ tt = 1 ∨ tt = 2 ∨ tt = 3 by omega) with h | h | h | h
                  · obtain rfl : tt = 0 := h
                    rw [show ((0 : Nat) : Int) = 0 from rfl]
                    clear ct
                    have ks := K.s0
                    have KS := Lib.hid ks
                    clear ks K
                    have o0 := M.o.c0
                    have o1 := M.o.c1
                    have o2 := M.o.c2
                    have o3 := M.o.c3
                    have of := M.o.f
                    have q0 := M.l.c0
                    have q1 := M.l.c1
                    go_wp2
                    go_quiet ((go_at_call 53; exact Calls.quiet_of_same (low_any _ _ k0 k1)))
                    go_wp2_with fail
                    refine (low_any _ _ (by omega) (by omega)).mono ?_
                    rintro e w1 ⟨rfl, rfl⟩
                    go_wp2
                    go_roundw
                    case rel => exact ⟨1, _, _, _, _, _, by go_num, rfl, KS.out, (M.drewN _).put _ _ ((M.drewN _).o.set0 _)⟩
                    case measure => simp [intOf]
                  · obtain rfl : tt = 1 := h
                    rw [show ((1 : Nat) : Int) = 1 from rfl]
                    clear ct
                    have ks := K.s1
                    have KS := Lib.hid ks
                    clear ks K
                    have o0 := M.o.c0
                    have o1 := M.o.c1
                    have o2 := M.o.c2
                    have o3 := M.o.c3
                    have of := M.o.f
                    have q0 := M.l.c0
                    have q1 := M.l.c1
                    go_wp2
                    go_quiet ((go_at_call 53; exact Calls.quiet_of_same (low_any _ _ k0 k1)))
                    go_wp2_with fail
                    refine (low_any _ _ (by omega) (by omega)).mono ?_
                    rintro e w1 ⟨rfl, rfl⟩
                    go_wp2
                    go_roundw
                    case rel => exact ⟨2, _, _, _, _, _, by go_num, rfl, KS.out, (M.drewN _).put _ _ ((M.drewN _).o.set1 _)⟩
                    case measure => simp [intOf]
                  · obtain rfl : tt = 2 := h
                    rw [show ((2 : Nat) : Int) = 2 from rfl]
                    clear ct
                    have ks := K.s2
                    have KS := Lib.hid ks
                    clear ks K
                    have o0 := M.o.c0
                    have o1 := M.o.c1
                    have o2 := M.o.c2
                    have o3 := M.o.c3
                    have of := M.o.f
                    have q0 := M.l.c0
                    have q1 := M.l.c1
                    go_wp2
                    go_quiet ((go_at_call 53; exact Calls.quiet_of_same (low_any _ _ k0 k1)))
                    go_wp2_with fail
                    refine (low_any _ _ (by omega) (by omega)).mono ?_
                    rintro e w1 ⟨rfl, rfl⟩
                    go_wp2
                    go_roundw
                    case rel => exact ⟨3, _, _, _, _, _, by go_num, rfl, KS.out, (M.drewN _).put _ _ ((M.drewN _).o.set2 _)⟩
                    case measure => simp [intOf]
                  · obtain rfl : tt = 3 := h
                    rw [show ((3 : Nat) : Int) = 3 from rfl]
                    clear ct
                    have ks := K.s3
                    have KS := Lib.hid ks
                    clear ks K
                    have o0 := M.o.c0
                    have o1 := M.o.c1
                    have o2 := M.o.c2
                    have o3 := M.o.c3
                    have of := M.o.f
                    have q0 := M.l.c0
                    have q1 := M.l.c1
                    go_wp2
                    go_quiet ((go_at_call 53; exact Calls.quiet_of_same (low_any _ _ k0 k1)))
                    go_wp2_with fail
                    refine (low_any _ _ (by omega) (by omega)).mono ?_
                    rintro e w1 ⟨rfl, rfl⟩
                    go_wp2
                    go_roundw
                    case rel => exact ⟨4, _, _, _, _, _, by go_num, rfl, KS.out, (M.drewN _).put _ _ ((M.drewN _).o.set3 _)⟩
                    case measure => simp [intOf]
          · obtain rfl : k = 2 := by omega
            rw [show ((2 : Nat) : Int) = 2 from rfl]
            clear kk hk
            go_wp2
            go_roundw
            case rel => first | exact ⟨1 + 1, x0, x1, x2, x3, by omega, by go_num, by have := D.out; simpa [psum] using this, M⟩ | ((repeat apply Exists.intro); exact ⟨⟨1 + 1, x0, x1, x2, x3, by omega, by go_num, by have := D.out; simpa [psum] using this, M⟩, rfl⟩)
            case measure => simp [intOf]
    · obtain rfl : i = 2 := by omega
      rw [show ((2 : Nat) : Int) = 2 from rfl]
      clear ii hi
      have D2 : IsD x0 x1 x2 x3 (X * X) := by
        have := D.out
        rw [psum_all, EL.out] at this
        exact this
      obtain ⟨rfl, rfl, rfl, rfl⟩ := D2.eqs
      clear D D2
      have o0 := M.o.c0
      have o1 := M.o.c1
      have o2 := M.o.c2
      have o3 := M.o.c3
      have of := M.o.f
      have q0 := M.l.c0
      have q1 := M.l.c1
      obtain ⟨rf, ⟨v1, t1⟩, ⟨v2, t2⟩, ⟨v3, t3⟩, ⟨v4, t4⟩⟩ := M.r
      have HB1 := Lib.hid M.b
      go_wp2
      refine bodyPost_ret (v := .agg #[.int .u64 (d0 (X * X)), .int .u64 (d1 (X * X)), .int .u64 (d2 (X * X)), .int .u64 (d3 (X * X))]) ?_ rfl ⟨rfl, ?_⟩
      · simp [results, Try.results60, go_sem, t1, t2, t3, t4]
      · repeat (refine Below.setCell ?_ (by exact Nat.le_refl _) _)
        exact HB1.out
end Go.Proofs.Ytmdcfnifbkpedaa

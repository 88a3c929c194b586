/- The walks of stage 8's statements, whatever the program's own table does as long as it tells what is told here: awake, TableRight, TableEval. -/
import Derived.Test.YtnedecpciioghaaOd
import Derived.Test.YtnedecpciioghaaBy
namespace Go.Proofs.Ytnedecpciioghaa
open Go.RowKit
set_option linter.unusedVariables false
set_option linter.unusedSimpArgs false

/-- what package table tells -/
structure TableC : Prop where
  right : ∀ (a : Option Addr) (len cap : Nat) (X Y : Nat → Int) (w : World) (hmax : len ≤ 100) (D : Dots w a len cap X Y), Calls Try.prog 8 #[.slice a len cap] w fun e w' => e = .returned (.int .i64 (rightN len X Y)) ∧ Below w.heap.size w w'
  cell : ∀ (a : Option Addr) (len cap : Nat) (X Y : Nat → Int) (x : Int) (w : World) (hmax : len ≤ 100) (hx : In64 x) (D : Dots w a len cap X Y), Calls Try.prog 13 #[.slice a len cap, .int .i64 x] w fun e w' => e = .returned (.int .i64 (cellUp X x (len - 1))) ∧ Below w.heap.size w w'
  eval : ∀ (a : Option Addr) (len cap : Nat) (X Y : Nat → Int) (x : Int) (b k : Nat) (o : Bool) (w : World) (hmax : len ≤ 100) (hx : In64 x) (hne : 0 < len → ∀ p, a = some p → p.block ≠ b) (D : Dots w a len cap X Y) (m : MAt w b k o), Calls Try.prog 15 #[.pointer (some ⟨b, k, none⟩), .slice a len cap, .int .i64 x] w fun e w' => e = .returned (.int .i64 (evalN len X Y x)) ∧ FxW w.heap.size w b k (o || evalO len X Y x) w'
  bound : ∀ (a : Option Addr) (len cap : Nat) (X Y : Nat → Int) (w : World) (R : RightT len X Y) (D : Dots w a len cap X Y), Calls Try.prog 10 #[.slice a len cap] w fun e w' => e = .returned (.int .i64 (boundUp Y len)) ∧ Below w.heap.size w w'
theorem Dots.fx {W W' : World} {a : Option Addr} {len cap : Nat} {X Y : Nat → Int} {b k : Nat} {q : Bool} (D : Dots W a len cap X Y) (h : FxW W.heap.size W b k q W') (hne : 0 < len → ∀ p, a = some p → p.block ≠ b) : Dots W' a len cap X Y :=
  ⟨D.hm, D.hl, D.wf, fun h0 => by
    obtain ⟨bs, off, rfl, hb, hc⟩ := D.at' h0
    have ne : b ≠ bs := fun e => hne h0 _ rfl e.symm
    exact ⟨bs, off, rfl, by have := h.size; omega, fun i hi => ⟨(h.cell hb ne).trans (hc i hi).1, (h.cell hb ne).trans (hc i hi).2⟩⟩⟩
theorem Dots.off {W : World} {a : Option Addr} {len cap : Nat} {X Y : Nat → Int} (D : Dots W a len cap X Y) (h : 0 < len) {n : Nat} (hn : W.heap.size ≤ n) : ∀ p, a = some p → p.block ≠ n := by
  intro p hp
  obtain ⟨b, off, rfl, hb, _⟩ := D.at' h
  cases hp
  show b ≠ n
  omega
theorem rTCell_bel (a : Option Addr) (len cap : Nat) (X Y : Nat → Int) (x : Int) (w : World) (hmax : len ≤ 100) (D : Dots w a len cap X Y) :
    Calls Try.prog 14 #[.slice a len cap, .int .i64 x] w fun e w' => e = .returned (.int .i64 (cellUp X x (len - 1))) ∧ Below w.heap.size w w' := by
  refine (rTCell_any a len cap X Y x w hmax D).mono ?_
  rintro e w' ⟨rfl, rfl⟩
  exact ⟨rfl, Below.refl _ _⟩
def exX (i : Nat) : Int := if i = 0 then 0 else 17179869184
def exY (i : Nat) : Int := if i = 0 then 4294967296 else 12884901888
theorem ex_ev : evalN 2 exX exY 4294967296 = 6442450944 ∧ evalN 2 exX exY (-21474836480) = 4294967296 ∧ evalN 2 exX exY 38654705664 = 12884901888 ∧ rightN 2 exX exY = 0 ∧ (false || evalO 2 exX exY 4294967296) = false ∧ (false || evalO 2 exX exY (-21474836480)) = false ∧ (false || evalO 2 exX exY 38654705664) = false ∧ rightN 0 exX exY = 42 := by decide +kernel
theorem ex_dots {W : World} {n : Nat} (B : BW W n [.int .i64 0, .int .i64 4294967296, .int .i64 17179869184, .int .i64 12884901888]) : Dots W (some ⟨n, 0, none⟩) 2 2 exX exY := by
  refine ⟨by unfold maxLen; omega, by omega, fun i h => ?_, fun _ => ⟨n, 0, rfl, B.lt, fun i h => ?_⟩⟩
  · obtain rfl | rfl : i = 0 ∨ i = 1 := by omega
    · exact ⟨by decide, by decide⟩
    · exact ⟨by decide, by decide⟩
  · obtain rfl | rfl : i = 0 ∨ i = 1 := by omega
    · exact ⟨B.c 0 _ rfl, B.c 1 _ rfl⟩
    · exact ⟨B.c 2 _ rfl, B.c 3 _ rfl⟩
theorem nil_dots {W : World} : Dots W none 0 0 exX exY := ⟨by unfold maxLen; omega, by omega, fun i h => absurd h (by omega), fun h => absurd h (by omega)⟩
set_option maxHeartbeats 4000000 in
theorem tableAwake_any (C : TableC) (w : World) :
    Calls Try.prog 12 #[] w fun e w' => e = .returned (.bool true) ∧ Below w.heap.size w w' := by
  have X1 := Lib.hid (fun (W : World) (D : Dots W (some ⟨w.heap.size + 1, 0, none⟩) 2 2 exX exY) (m : MAt W w.heap.size 0 false) => C.eval _ 2 2 exX exY 4294967296 w.heap.size 0 false W (by omega) ⟨by omega, by omega⟩ (fun _ p hp => by cases hp; show w.heap.size + 1 ≠ w.heap.size; omega) D m)
  rw [ex_ev.1, ex_ev.2.2.2.2.1] at X1
  have X2 := Lib.hid (fun (W : World) (D : Dots W (some ⟨w.heap.size + 1, 0, none⟩) 2 2 exX exY) (m : MAt W w.heap.size 0 false) => C.eval _ 2 2 exX exY (-21474836480) w.heap.size 0 false W (by omega) ⟨by omega, by omega⟩ (fun _ p hp => by cases hp; show w.heap.size + 1 ≠ w.heap.size; omega) D m)
  rw [ex_ev.2.1, ex_ev.2.2.2.2.2.1] at X2
  have X3 := Lib.hid (fun (W : World) (D : Dots W (some ⟨w.heap.size + 1, 0, none⟩) 2 2 exX exY) (m : MAt W w.heap.size 0 false) => C.eval _ 2 2 exX exY 38654705664 w.heap.size 0 false W (by omega) ⟨by omega, by omega⟩ (fun _ p hp => by cases hp; show w.heap.size + 1 ≠ w.heap.size; omega) D m)
  rw [ex_ev.2.2.1, ex_ev.2.2.2.2.2.2.1] at X3
  have X4 := Lib.hid (fun (W : World) (D : Dots W (some ⟨w.heap.size + 1, 0, none⟩) 2 2 exX exY) => C.right _ 2 2 exX exY W (by omega) D)
  rw [ex_ev.2.2.2.1] at X4
  have X5 := Lib.hid (fun (W : World) => C.right none 0 0 exX exY W (by omega) nil_dots)
  rw [ex_ev.2.2.2.2.2.2.2] at X5
  clear C
  go_enter Try.func12, Try.ntmps12
  go_wp2_with fail
  refine calls_gen (S := fun W => MAt W w.heap.size 0 false ∧ BW W (w.heap.size + 1) [.int .i64 0, .int .i64 4294967296, .int .i64 17179869184, .int .i64 12884901888] ∧ Below w.heap.size w W) ⟨(MAt.new w _ _).alloc _, BW.new _ _ [_, _, _, _] _ (by simp), by repeat (first | exact Below.refl _ _ | assumption | refine Below.setCell ?_ (by first | omega | (simp; done) | (simp; omega)) _ | refine Below.alloc ?_ (by first | omega | (simp; done) | (simp; omega)) _ | refine below_drewN ?_ _ | refine Below.drew ?_ | refine Below.trans ?_ (Below.mono (by assumption) (by first | omega | (simp; done) | (simp; omega))))⟩ (fun W0 hS => ?_)
  have M0 := Lib.hid hS.1
  have D0 := Lib.hid (ex_dots hS.2.1)
  have L0 := Lib.hid hS.2.2
  clear hS
  refine (X1.out _ D0.out M0.out).mono ?_
  rintro e w1 ⟨rfl, h⟩
  have M1 := Lib.hid (h.at M0.out M0.out.lt)
  have D1 := Lib.hid (D0.out.fx h (fun _ p hp => by cases hp; show w.heap.size + 1 ≠ w.heap.size; omega))
  have L1 := Lib.hid (L0.out.trans (h.below L0.out.size (Nat.le_refl _)))
  clear h M0 D0 L0
  go_wp2_with fail
  refine (X2.out _ D1.out M1.out).mono ?_
  rintro e w2 ⟨rfl, h⟩
  have M2 := Lib.hid (h.at M1.out M1.out.lt)
  have D2 := Lib.hid (D1.out.fx h (fun _ p hp => by cases hp; show w.heap.size + 1 ≠ w.heap.size; omega))
  have L2 := Lib.hid (L1.out.trans (h.below L1.out.size (Nat.le_refl _)))
  clear h M1 D1 L1
  go_wp2_with fail
  refine (X3.out _ D2.out M2.out).mono ?_
  rintro e w3 ⟨rfl, h⟩
  have M3 := Lib.hid (h.at M2.out M2.out.lt)
  have D3 := Lib.hid (D2.out.fx h (fun _ p hp => by cases hp; show w.heap.size + 1 ≠ w.heap.size; omega))
  have L3 := Lib.hid (L2.out.trans (h.below L2.out.size (Nat.le_refl _)))
  clear h M2 D2 L2
  go_wp2_with fail
  refine (X4.out _ D3.out).mono ?_
  rintro e w4 ⟨rfl, h⟩
  have M4 := Lib.hid (M3.out.below h M3.out.lt)
  have L4 := Lib.hid (L3.out.trans (h.mono L3.out.size))
  clear h M3 D3 L3
  go_wp2_with fail
  refine (X5.out _).mono ?_
  rintro e w5 ⟨rfl, h⟩
  have M5 := Lib.hid (M4.out.below h M4.out.lt)
  have L5 := Lib.hid (L4.out.trans (h.mono L4.out.size))
  have mc := M5.out.c
  clear h M4 L4
  go_wp2
  go_ret
  exact ⟨rfl, L5.out⟩
end Go.Proofs.Ytnedecpciioghaa

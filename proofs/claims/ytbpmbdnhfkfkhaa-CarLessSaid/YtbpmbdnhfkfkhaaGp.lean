/- Contracts of package fx: narrow, Sub, Neg, Abs of a nil receiver. -/
import Derived.Test.YtbpmbdnhfkfkhaaBx
namespace Go.Proofs.Ytbpmbdnhfkfkhaa
open Go.RowKit

set_option maxHeartbeats 1000000 in
theorem narrow_nil (n : Int) (w : World) (hn : In128 n) :
    Calls Try.prog 71 #[.agg #[.int .i64 (hiW n), .int .u64 (loW n)], .func (.func 51) #[.pointer none] #[]] w fun e w' => e = .returned (.int .i64 (clip64 n)) ∧ Below w.heap.size w w' := by
  obtain ⟨x, hx⟩ : ∃ x, wrap64 (loW n) = x := ⟨_, rfl⟩
  have L := low64 (n := n) (x := x) (by rw [← hx]; unfold wrap64; rfl)
  have x0 := L.1.1
  have x1 := L.1.2
  have HN := Lib.hid hn
  by_cases p : In64 n
  · have e := L.2.1 p
    subst e
    have K := Lib.hid (clip64_of p)
    clear p L
    go_enter Try.func71, Try.ntmps71
    go_wp2
    have C : CellW (w.alloc (.cells #[.int .i64 (hiW x), .int .u64 (loW x)] 73)) w.heap.size (hiW x) (loW x) := CellW.new w _ _ _
    have HS := Lib.hid (start1 (B := w.heap.size) (w := w) C (by simp) (by simp) (by repeat (first | exact Below.refl _ _ | assumption | refine Below.setCell ?_ (by first | omega | (simp; done) | (simp; omega)) _ | refine Below.alloc ?_ (by first | omega | (simp; done) | (simp; omega)) _ | refine below_drewN ?_ _ | refine Below.drew ?_ | refine Below.trans ?_ (Below.mono (by assumption) (by first | omega | (simp; done) | (simp; omega))))))
    clear C
    go_region_held3 (fun W => (W.cell? ⟨w.heap.size, 0, none⟩ = some (.int .i64 (hiW x)) ∧ W.cell? ⟨w.heap.size, 1, none⟩ = some (.int .u64 (loW x))) ∧ w.heap.size < W.heap.size ∧ w.heap.size ≤ W.heap.size ∧ Below w.heap.size w W)
        (first | exact keep1 ((Below.refl _ _).drew) HS.out | exact keep1 hb (by assumption))
        (first
          | (go_at_call 69; refine (Of_any _ _ x0 x1).mono ?_; rintro e w' ⟨rfl, hb⟩))
    go_wp2
    go_ret
    exact ⟨retI K.out.1.symm, end1 (by assumption)⟩
  · have ne := L.2.2 p
    have le : loW x = loW n := by rw [← hx]; unfold loW wrap64; omega
    have he : (hiW x == hiW n) = false := by
      rw [beq_eq_false_iff_ne]; intro c; exact ne (hilo_eq c le)
    have K := Lib.hid (clip64_out p)
    have LE := Lib.hid le
    clear p L ne le
    have hmf : ∀ (fn : Fn) (first cap : Array Value) (w : World), (Instr.makeFunc fn first cap).run Try.prog w = .ok (.func fn first cap) w := fun _ _ _ _ => rfl
    go_enter Try.func71, Try.ntmps71
    go_wp2
    have C : CellW (w.alloc (.cells #[.int .i64 (hiW n), .int .u64 (loW n)] 73)) w.heap.size (hiW n) (loW n) := CellW.new w _ _ _
    have HS := Lib.hid (start1 (B := w.heap.size) (w := w) C (by simp) (by simp) (by repeat (first | exact Below.refl _ _ | assumption | refine Below.setCell ?_ (by first | omega | (simp; done) | (simp; omega)) _ | refine Below.alloc ?_ (by first | omega | (simp; done) | (simp; omega)) _ | refine below_drewN ?_ _ | refine Below.drew ?_ | refine Below.trans ?_ (Below.mono (by assumption) (by first | omega | (simp; done) | (simp; omega))))))
    clear C
    go_region_held3 (fun W => (W.cell? ⟨w.heap.size, 0, none⟩ = some (.int .i64 (hiW n)) ∧ W.cell? ⟨w.heap.size, 1, none⟩ = some (.int .u64 (loW n))) ∧ w.heap.size < W.heap.size ∧ w.heap.size ≤ W.heap.size ∧ Below w.heap.size w W)
        (first | exact keep1 ((Below.refl _ _).drew) HS.out | exact keep1 hb (by assumption))
        (first
          | (go_at_call 69; refine (Of_any _ _ x0 x1).mono ?_; rintro e w' ⟨rfl, hb⟩))
    rename_i hH
    have hB : Below w.heap.size w w' := end1 hH
    have HB := Lib.hid hB
    have z : w.heap.size < w'.heap.size := hH.2.1
    clear hB
    go_wp2_with fail
    refine (Sign_n n _ HN.out).mono ?_
    rintro e w2 ⟨rfl, hb2⟩
    have B2 : Below w.heap.size w w2 := HB.out.trans (hb2.mono (by omega))
    have HB2 := Lib.hid B2
    clear B2 hb2 hb
    go_wp2_with fail
    refine (beyond_nil _ _).mono ?_
    rintro e w3 ⟨rfl, rfl⟩
    go_wp2
    go_ret
    exact ⟨retI (by rw [K.out.1, satS_cmp]), HB2.out⟩
set_option maxHeartbeats 2000000 in
theorem fxSub_nil (x y : Int) (w : World) (x0 : -9223372036854775808 ≤ x) (x1 : x ≤ 9223372036854775807) (y0 : -9223372036854775808 ≤ y) (y1 : y ≤ 9223372036854775807) :
    Calls Try.prog 52 #[.pointer none, .int .i64 x, .int .i64 y] w fun e w' => e = .returned (.int .i64 (subF x y)) ∧ Below w.heap.size w w' := by
  have I := Lib.hid (add_128 x0 x1 y0 y1)
  have I2 := Lib.hid (show x + -y = x - y by omega)
  have hmf : ∀ (fn : Fn) (first cap : Array Value) (w : World), (Instr.makeFunc fn first cap).run Try.prog w = .ok (.func fn first cap) w := fun _ _ _ _ => rfl
  go_enter Try.func52, Try.ntmps52
  go_wp2_with fail
  refine (Of_any y _ y0 y1).mono ?_
  rintro e w1 ⟨rfl, hb1⟩
  obtain ⟨hc_w1, hf_w1⟩ := bcell hb1
  have z_w1 := hb1.size
  try simp at z_w1
  have y_w1 : w.heap.size ≤ w1.heap.size := by omega
  go_wp2_with fail
  refine (Neg_yes y (-y) _ I.out.2.2.2.1 rfl I.out.2.2.2.2).mono ?_
  rintro e w2 ⟨rfl, hb2⟩
  obtain ⟨hc_w2, hf_w2⟩ := bcell hb2
  have z_w2 := hb2.size
  try simp at z_w2
  have y_w2 : w.heap.size ≤ w2.heap.size := by omega
  have B2 : Below w.heap.size w w2 := by repeat (first | exact Below.refl _ _ | assumption | refine Below.setCell ?_ (by first | omega | (simp; done) | (simp; omega)) _ | refine Below.alloc ?_ (by first | omega | (simp; done) | (simp; omega)) _ | refine below_drewN ?_ _ | refine Below.drew ?_ | refine Below.trans ?_ (Below.mono (by assumption) (by first | omega | (simp; done) | (simp; omega))))
  have HB2 := Lib.hid B2
  have y2 : w.heap.size ≤ w2.heap.size := B2.size
  clear B2 hb1 hb2 hc_w1 hf_w1 hc_w2 hf_w2
  go_wp2_with fail
  have C : CellW (w2.alloc (.cells #[.int .i64 (hiW (-y)), .int .u64 (loW (-y))] 73)) w2.heap.size (hiW (-y)) (loW (-y)) := CellW.new w2 _ _ _
  have c0 := C.c0
  have c1 := C.c1
  have HC := Lib.hid C
  clear C
  go_region_with (first | (go_at_call 69; refine (Of_any x _ x0 x1).mono ?_; rintro e w5 ⟨rfl, hb5⟩; have z5 : w2.heap.size < w5.heap.size := (by have := hb5.size; (try simp at this); omega); (try (have z5b : w2.heap.size + 1 < w5.heap.size := (by have := hb5.size; (try simp at this); omega))); obtain ⟨hc_w5, hf_w5⟩ := bcell hb5) | (go_at_call 70; refine (Add_yes x (-y) (x - y) _ I.out.2.2.1 I.out.2.2.2.2 I2.out I.out.2.1).mono ?_; rintro e w6 ⟨rfl, hb6⟩; have z6 : w2.heap.size < w6.heap.size := (by have := hb6.size; (try simp at this); omega); (try (have z6b : w2.heap.size + 1 < w6.heap.size := (by have := hb6.size; (try simp at this); omega))); (try (have z6c : w5.heap.size < w6.heap.size := (by have := hb6.size; (try simp at this); omega))); obtain ⟨hc_w6, hf_w6⟩ := bcell hb6))
  all_goals
    have B2 := HB2.out
    go_wp2_with fail
    refine (narrow_nil _ _ I.out.2.1).mono ?_
    rintro e w9 ⟨rfl, hb9⟩
    go_wp2
    go_ret
    exact ⟨rfl, (show Below w.heap.size w _ by repeat (first | exact Below.refl _ _ | assumption | refine Below.setCell ?_ (by first | omega | (simp; done) | (simp; omega)) _ | refine Below.alloc ?_ (by first | omega | (simp; done) | (simp; omega)) _ | refine below_drewN ?_ _ | refine Below.drew ?_ | refine Below.trans ?_ (Below.mono (by assumption) (by first | omega | (simp; done) | (simp; omega))))).trans (hb9.mono (by simp [World.setCell]; omega))⟩
theorem fxNeg_nil (x : Int) (w : World) (x0 : -9223372036854775808 ≤ x) (x1 : x ≤ 9223372036854775807) :
    Calls Try.prog 37 #[.pointer none, .int .i64 x] w fun e w' => e = .returned (.int .i64 (subF 0 x)) ∧ Below w.heap.size w w' := by
  go_enter Try.func37, Try.ntmps37
  go_wp2_with fail
  refine (fxSub_nil 0 x _ (by omega) (by omega) x0 x1).mono ?_
  rintro e w9 ⟨rfl, hb9⟩
  go_wp2
  go_ret
  exact ⟨rfl, hb9⟩
end Go.Proofs.Ytbpmbdnhfkfkhaa

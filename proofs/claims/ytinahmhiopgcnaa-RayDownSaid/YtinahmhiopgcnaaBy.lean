/- Contracts of the document's answers for fx: bound, signed, Add, Sub, Neg, Abs, Of, Floor, Clamp. -/
import Derived.Test.YtinahmhiopgcnaaBx
import Derived.Test.YtinahmhiopgcnaaBn
import Derived.Test.YtinahmhiopgcnaaBk
import Derived.OpenShut
import Derived.Deep.RegionWith
import Derived.Deep.DeepCutAuto
namespace Go.Proofs.Ytinahmhiopgcnaa
open Go.RowKit

def boundI (neg : Bool) : Int := if neg = true then -9223372036854775808 else 9223372036854775807
theorem FxW.put' {w : World} {b k : Nat} {o : Bool} : FxW w.heap.size w b k o (w.setCell ⟨b, k, none⟩ (.bool o)) := Below.refl _ _
theorem rbound_any (b k : Nat) (o neg : Bool) (w : World) (m : MAt w b k o) :
    Calls Try.prog 74 #[.pointer (some ⟨b, k, none⟩), .bool neg] w fun e w' => e = .returned (.int .i64 (boundI neg)) ∧ w' = w.setCell ⟨b, k, none⟩ (.bool true) := by
  have c := m.c
  have f := m.f
  cases neg with
  | true =>
    go_enter Try.func74, Try.ntmps74
    go_wp2
    go_ret
    exact ⟨retI rfl, rfl⟩
  | false =>
    go_enter Try.func74, Try.ntmps74
    go_wp2
    go_ret
    exact ⟨retI rfl, rfl⟩
theorem clip_low {n : Int} (h : n < -9223372036854775808) : boundI true = clip64 n ∧ out64 n = true := by
  refine ⟨by unfold clip64 boundI; rw [if_pos h, if_pos rfl], by unfold out64; rw [decide_eq_true_iff]; omega⟩
theorem clip_high {n : Int} (h : 9223372036854775807 < n) : boundI false = clip64 n ∧ out64 n = true := by
  refine ⟨by show (9223372036854775807 : Int) = clip64 n; unfold clip64; rw [if_neg (by omega), if_pos h], by unfold out64; rw [decide_eq_true_iff]; omega⟩
theorem clip_fit {n m : Int} (e : m = n) (h0 : -9223372036854775808 ≤ n) (h1 : n ≤ 9223372036854775807) : m = clip64 n ∧ out64 n = false := by
  have := clip64_of (n := n) ⟨h0, h1⟩
  exact ⟨e.trans this.1.symm, this.2⟩
set_option maxHeartbeats 1000000 in
theorem rsigned_any (n : Int) (b k : Nat) (o neg : Bool) (w : World) (n0 : 0 ≤ n) (n1 : n ≤ 18446744073709551615) (m : MAt w b k o) :
    Calls Try.prog 76 #[.pointer (some ⟨b, k, none⟩), .bool neg, .int .u64 n] w fun e w' => e = .returned (.int .i64 (clip64 (sgnW neg n))) ∧ FxW w.heap.size w b k (o || out64 (sgnW neg n)) w' := by
  have HM := Lib.hid m
  clear m
  cases neg with
  | true =>
    by_cases p : n = 9223372036854775808
    · have K := Lib.hid (clip_fit (n := sgnW true n) (m := -9223372036854775808) (by unfold sgnW; rw [p]; rfl) (by unfold sgnW; rw [p]; decide) (by unfold sgnW; rw [p]; decide))
      have t : (n == 9223372036854775808) = true := by simp; exact p
      clear p
      go_enter Try.func76, Try.ntmps76
      go_wp2
      go_ret
      exact ⟨retI K.out.1, by rw [K.out.2, Bool.or_false]; exact FxW.refl HM.out⟩
    · have t : (n == 9223372036854775808) = false := by simp; exact p
      by_cases q : 9223372036854775807 < n
      · have K := Lib.hid (clip_low (n := sgnW true n) (by unfold sgnW; simp; omega))
        clear p
        go_enter Try.func76, Try.ntmps76
        go_wp2_with fail
        refine (rbound_any b k o _ _ HM.out).mono ?_
        rintro e w3 ⟨rfl, rfl⟩
        go_wp2
        go_ret
        exact ⟨retI K.out.1, by rw [K.out.2, Bool.or_true]; exact FxW.put'⟩
      · have K := Lib.hid (clip_fit (n := sgnW true n) (m := -n) (by unfold sgnW; simp) (by unfold sgnW; simp; omega) (by unfold sgnW; simp; omega))
        clear p
        go_enter Try.func76, Try.ntmps76
        go_wp2
        go_ret
        exact ⟨retI K.out.1, by rw [K.out.2, Bool.or_false]; exact FxW.refl HM.out⟩
  | false =>
    by_cases q : 9223372036854775807 < n
    · have K := Lib.hid (clip_high (n := sgnW false n) (by unfold sgnW; simp; omega))
      go_enter Try.func76, Try.ntmps76
      go_wp2_with fail
      refine (rbound_any b k o _ _ HM.out).mono ?_
      rintro e w3 ⟨rfl, rfl⟩
      go_wp2
      go_ret
      exact ⟨retI K.out.1, by rw [K.out.2, Bool.or_true]; exact FxW.put'⟩
    · have K := Lib.hid (clip_fit (n := sgnW false n) (m := n) (by unfold sgnW; simp) (by unfold sgnW; simp; omega) (by unfold sgnW; simp; omega))
      go_enter Try.func76, Try.ntmps76
      go_wp2
      go_ret
      exact ⟨retI K.out.1, by rw [K.out.2, Bool.or_false]; exact FxW.refl HM.out⟩
set_option maxHeartbeats 1000000 in
theorem rfAdd_any (x y : Int) (b k : Nat) (o : Bool) (w : World) (x0 : -9223372036854775808 ≤ x) (x1 : x ≤ 9223372036854775807) (y0 : -9223372036854775808 ≤ y) (y1 : y ≤ 9223372036854775807) (m : MAt w b k o) :
    Calls Try.prog 50 #[.pointer (some ⟨b, k, none⟩), .int .i64 x, .int .i64 y] w fun e w' => e = .returned (.int .i64 (addF x y)) ∧ FxW w.heap.size w b k (o || addO x y) w' := by
  have HM := Lib.hid m
  clear m
  by_cases p : 0 < y
  · by_cases q : 9223372036854775807 - y < x
    · have K := Lib.hid (show boundI false = addF x y ∧ addO x y = true from clip_high (by omega))
      go_enter Try.func50, Try.ntmps50
      go_wp2_with fail
      refine (rbound_any b k o _ _ HM.out).mono ?_
      rintro e w3 ⟨rfl, rfl⟩
      go_wp2
      go_ret
      exact ⟨retI K.out.1, by rw [K.out.2, Bool.or_true]; exact FxW.put'⟩
    · have K := Lib.hid (show x + y = addF x y ∧ addO x y = false from clip_fit rfl (by omega) (by omega))
      go_enter Try.func50, Try.ntmps50
      go_wp2
      go_ret
      exact ⟨retI K.out.1, by rw [K.out.2, Bool.or_false]; exact FxW.refl HM.out⟩
  · by_cases r : y < 0
    · by_cases q : x < -9223372036854775808 - y
      · have K := Lib.hid (show boundI true = addF x y ∧ addO x y = true from clip_low (by omega))
        go_enter Try.func50, Try.ntmps50
        go_wp2_with fail
        refine (rbound_any b k o _ _ HM.out).mono ?_
        rintro e w3 ⟨rfl, rfl⟩
        go_wp2
        go_ret
        exact ⟨retI K.out.1, by rw [K.out.2, Bool.or_true]; exact FxW.put'⟩
      · have K := Lib.hid (show x + y = addF x y ∧ addO x y = false from clip_fit rfl (by omega) (by omega))
        go_enter Try.func50, Try.ntmps50
        go_wp2
        go_ret
        exact ⟨retI K.out.1, by rw [K.out.2, Bool.or_false]; exact FxW.refl HM.out⟩
    · have K := Lib.hid (show x + y = addF x y ∧ addO x y = false from clip_fit rfl (by omega) (by omega))
      go_enter Try.func50, Try.ntmps50
      go_wp2
      go_ret
      exact ⟨retI K.out.1, by rw [K.out.2, Bool.or_false]; exact FxW.refl HM.out⟩
end Go.Proofs.Ytinahmhiopgcnaa
namespace Go.Proofs.Ytinahmhiopgcnaa
open Go.RowKit

/-- two receivers of a statement's own, apart -/
structure Two (w W : World) (n m : Nat) (o p : Bool) : Prop where
  a : MAt W n 0 o
  b : MAt W m 0 p
  ne : n ≠ m
  na : w.heap.size ≤ n
  nb : w.heap.size ≤ m
  bl : Below w.heap.size w W
theorem Two.fst {w W W' : World} {n m : Nat} {o p q : Bool} (t : Two w W n m o p) (h : FxW W.heap.size W n 0 q W') : Two w W' n m q p :=
  ⟨h.at t.a t.a.lt, h.far t.b t.b.lt t.ne, t.ne, t.na, t.nb, t.bl.trans (h.below t.bl.size t.na)⟩
theorem Two.snd {w W W' : World} {n m : Nat} {o p q : Bool} (t : Two w W n m o p) (h : FxW W.heap.size W m 0 q W') : Two w W' n m o q :=
  ⟨h.far t.a t.a.lt (fun e => t.ne e.symm), h.at t.b t.b.lt, t.ne, t.na, t.nb, t.bl.trans (h.below t.bl.size t.nb)⟩
theorem Two.new {w W : World} (h : Below w.heap.size w W) (s t : TypeId) : Two w ((W.alloc (.cells #[.bool false] s)).alloc (.cells #[.bool false] t)) W.heap.size (W.heap.size + 1) false false := by
  have := h.size
  refine ⟨(MAt.new W false s).alloc _, ?_, by omega, this, by omega, (h.alloc this _).alloc (by simp; omega) _⟩
  have k := MAt.new (W.alloc (.cells #[.bool false] s)) false t
  simpa using k
theorem Two.le {w W : World} {n m : Nat} {o p : Bool} (t : Two w W n m o p) : w.heap.size ≤ W.heap.size := t.bl.size

theorem Two.drew {w W : World} {n m : Nat} {o p : Bool} (t : Two w W n m o p) : Two w W.drew n m o p := ⟨t.a.drew, t.b.drew, t.ne, t.na, t.nb, t.bl.drew⟩
theorem Two.more {w W W' : World} {n m : Nat} {o p : Bool} (t : Two w W n m o p) (h : Below W.heap.size W W') : Two w W' n m o p :=
  ⟨t.a.below h t.a.lt, t.b.below h t.b.lt, t.ne, t.na, t.nb, t.bl.trans (h.mono t.le)⟩
end Go.Proofs.Ytinahmhiopgcnaa

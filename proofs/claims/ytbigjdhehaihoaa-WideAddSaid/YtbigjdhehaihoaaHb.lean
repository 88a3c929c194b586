/- The walk of FxNear. -/
import Derived.Test.YtbigjdhehaihoaaGf
import Derived.Test.YtbigjdhehaihoaaGr
import Derived.OpenShut
import Derived.Deep.RegionWith
import Derived.Deep.RegionHeld3
import Derived.Deep.DeepCutAuto
namespace Go.Proofs.Ytbigjdhehaihoaa
open Go.RowKit

/-- a statement has made a wide number in a block of its own -/
def Made (w : World) (d : Int) (s : Value) (t : Value) (W : World) : Prop := ∃ g : Nat, s = .pointer (some ⟨g, 0, none⟩) ∧ t = .bool true ∧ CellW W g (hiW d) (loW d) ∧ g < W.heap.size ∧ w.heap.size ≤ W.heap.size ∧ Below w.heap.size w W
theorem CellW.newAt {w : World} {n : Nat} (h l : Int) (t : TypeId) (e : n = w.heap.size) : CellW (w.alloc (.cells #[.int .i64 h, .int .u64 l] t)) n h l := by
  subst e; exact CellW.new w h l t
theorem CellW.newAtD {w : World} {n : Nat} (h l : Int) (t : TypeId) (e : n = w.heap.size) : CellW (w.alloc (.cells #[.int .i64 h, .int .u64 l] t)).drew n h l := by
  have k := CellW.newAt (w := w) h l t e
  exact ⟨k.c0, k.c1, k.f0, k.f1⟩
theorem cmpI_le {a b : Int} (h : a ≤ b) : cmpI a b ≤ 0 := by unfold cmpI; split <;> (try split) <;> omega
theorem cmpI_ge' {a b : Int} (h : b ≤ a) : 0 ≤ cmpI a b := by unfold cmpI; split <;> (try split) <;> omega
theorem mulF_128 (a b : Int) : In128 (mulF a b * 4294967296) ∧ In128 (-(mulF a b * 4294967296)) := by
  have := mulF_in a b
  unfold In64 at this; unfold In128; omega
theorem in128_half : In128 2147483648 ∧ In128 (-2147483648) := by unfold In128; omega
set_option maxHeartbeats 4000000 in
theorem near_walk (a b : Int) (w : World) (a0 : -9223372036854775808 ≤ a) (a1 : a ≤ 9223372036854775807) (b0 : -9223372036854775808 ≤ b) (b1 : b ≤ 9223372036854775807) :
    Calls Try.prog 12 #[.int .i64 a, .int .i64 b] w fun e w' => e = .returned (.bool true) ∧ Below w.heap.size w w' := by
  cases ho : mulO a b with
  | true =>
    have HO := Lib.hid ho
    clear ho
    go_enter Try.func12, Try.ntmps12
    go_wp2_with fail
    have m0 : MAt (w.alloc (.cells #[.bool false] 47)) w.heap.size 0 false := MAt.new w _ _
    have M0 := Lib.hid m0
    clear m0
    refine (fxMul_any a b w.heap.size 0 false _ a0 a1 b0 b1 M0.out).mono ?_
    rw [HO.out]
    rintro e w1 ⟨rfl, h1⟩
    have M1 := Lib.hid (h1.at M0.out M0.out.lt)
    have B1 := Lib.hid (((Below.refl w.heap.size w).alloc (Nat.le_refl _) _).trans (h1.below (C := w.heap.size) (by simp) (Nat.le_refl _)))
    clear h1
    have c1 : w1.cell? ⟨w.heap.size, 0, none⟩ = some (.bool true) := M1.out.c
    go_wp2_with fail
    refine (fxAwake_any _).mono ?_
    rintro e w5 ⟨rfl, hb5⟩
    go_wp2
    go_ret
    exact ⟨rfl, B1.out.trans (hb5.mono B1.out.size)⟩
  | false =>
    have HO := Lib.hid ho
    have hn := mulF_near ho
    obtain ⟨d, hd⟩ : ∃ d, a * b + -(mulF a b * 4294967296) = d := ⟨_, rfl⟩
    have k0 := cmpI_le (show d ≤ 2147483648 by omega)
    have k1 := cmpI_ge' (show -2147483648 ≤ d by omega)
    have i0 : In128 d := by unfold In128; omega
    have HD := Lib.hid hd
    have iab := Lib.hid (mul_128 a0 a1 b0 b1)
    have ip := Lib.hid (mulF_128 a b)
    have pb := Lib.hid (mulF_in a b)
    have i1 := in128_half.1
    have i2 := in128_half.2
    clear ho hd hn
    go_enter Try.func12, Try.ntmps12
    go_wp2_with fail
    have m0 : MAt (w.alloc (.cells #[.bool false] 47)) w.heap.size 0 false := MAt.new w _ _
    have M0 := Lib.hid m0
    clear m0
    refine (fxMul_any a b w.heap.size 0 false _ a0 a1 b0 b1 M0.out).mono ?_
    rw [HO.out]
    rintro e w1 ⟨rfl, h1⟩
    have M1 := Lib.hid (h1.at M0.out M0.out.lt)
    have B1 := Lib.hid (((Below.refl w.heap.size w).alloc (Nat.le_refl _) _).trans (h1.below (C := w.heap.size) (by simp) (Nat.le_refl _)))
    clear h1
    have c1 : w1.cell? ⟨w.heap.size, 0, none⟩ = some (.bool false) := M1.out.c
    go_wp2_with fail
    refine (Mul_any (mulF a b) 4294967296 _ pb.out.1 pb.out.2 (by omega) (by omega)).mono ?_
    rintro e w2 ⟨rfl, hb2⟩
    have B2 := Lib.hid (B1.out.trans (hb2.mono B1.out.size))
    clear hb2 c1
    go_wp2_with fail
    refine (Neg_yes (mulF a b * 4294967296) (-(mulF a b * 4294967296)) _ ip.out.1 rfl ip.out.2).mono ?_
    rintro e w3 ⟨rfl, hb3⟩
    have B3 := Lib.hid (B2.out.trans (hb3.mono B2.out.size))
    have y3 : w.heap.size ≤ w3.heap.size := B3.out.size
    clear hb3
    obtain ⟨q, hq⟩ : ∃ q, -(mulF a b * 4294967296) = q := ⟨_, rfl⟩
    rw [hq] at HD ip ⊢
    clear hq
    go_wp2_with fail
    have C : CellW (w3.alloc (.cells #[.int .i64 (hiW q), .int .u64 (loW q)] 24)) w3.heap.size (hiW q) (loW q) := CellW.new w3 _ _ _
    have e0 := C.c0
    have e1 := C.c1
    have HC := Lib.hid C
    clear C
    go_cut [9, 10] (fun s t W => Made w d s t W)
    case first =>
      go_region_with (first | (go_at_call 46; refine (Mul_any a b _ a0 a1 b0 b1).mono ?_; rintro e w5 ⟨rfl, hb5⟩; have z5 : w3.heap.size < w5.heap.size := (by have := hb5.size; (try simp at this); omega); (try (have z5b : w3.heap.size + 1 < w5.heap.size := (by have := hb5.size; (try simp at this); omega))); obtain ⟨hc_w5, hf_w5⟩ := bcell hb5) | (go_at_call 13; refine (Add_yes (a * b) q d _ iab.out ip.out.2 HD.out i0).mono ?_; rintro e w6 ⟨rfl, hb6⟩; have z6 : w3.heap.size < w6.heap.size := (by have := hb6.size; (try simp at this); omega); (try (have z6b : w3.heap.size + 1 < w6.heap.size := (by have := hb6.size; (try simp at this); omega))); (try (have z6c : w5.heap.size < w6.heap.size := (by have := hb6.size; (try simp at this); omega))); obtain ⟨hc_w6, hf_w6⟩ := bcell hb6))
      all_goals
        have B3 := B3.out
        go_wp2_with fail
        go_meet
        first
          | exact ⟨w6.heap.size, rfl, rfl, CellW.new _ _ _ _, by simp, by simp; omega, by repeat (first | with_reducible refine Below.setCell ?_ (by first | omega | (simp; done) | (simp; omega)) _ | with_reducible refine Below.alloc ?_ (by first | omega | (simp; done) | (simp; omega)) _ | with_reducible refine below_drewN ?_ _ | with_reducible refine Below.drew ?_ | with_reducible exact Below.refl _ _ | with_reducible assumption | with_reducible refine Below.trans ?_ (Below.mono (by assumption) (by first | omega | (simp; done) | (simp; omega))))⟩
          | exact ⟨w5.heap.size, rfl, rfl, ((CellW.new w5 0 0 _).below hb6 (by simp)).set _ _, by simp [World.setCell]; omega, by simp [World.setCell]; omega, by repeat (first | with_reducible refine Below.setCell ?_ (by first | omega | (simp; done) | (simp; omega)) _ | with_reducible refine Below.alloc ?_ (by first | omega | (simp; done) | (simp; omega)) _ | with_reducible refine below_drewN ?_ _ | with_reducible refine Below.drew ?_ | with_reducible exact Below.refl _ _ | with_reducible assumption | with_reducible refine Below.trans ?_ (Below.mono (by assumption) (by first | omega | (simp; done) | (simp; omega))))⟩
          | exact ⟨w3.heap.size + 1, rfl, rfl, (((CellW.newAtD 0 0 _ (w := w3.alloc _) (by simp)).below hb5 (by first | (simp; done) | (show w3.heap.size + 1 < ((w3.alloc _).alloc _).heap.size; simp) | (simp; omega))).below hb6 (by omega)).set _ _, by simp [World.setCell]; omega, by simp [World.setCell]; omega, by repeat (first | with_reducible refine Below.setCell ?_ (by first | omega | (simp; done) | (simp; omega)) _ | with_reducible refine Below.alloc ?_ (by first | omega | (simp; done) | (simp; omega)) _ | with_reducible refine below_drewN ?_ _ | with_reducible refine Below.drew ?_ | with_reducible exact Below.refl _ _ | with_reducible assumption | with_reducible refine Below.trans ?_ (Below.mono (by assumption) (by first | omega | (simp; done) | (simp; omega))))⟩
    case rest =>
      obtain ⟨g, rfl, rfl, C, zg, yg, BW⟩ := hcut
      have HS := Lib.hid (start1 (B := w.heap.size) (w := w) C zg yg BW)
      clear C zg yg BW
      go_wp2_with fail
      go_region_held3 (fun W => (W.cell? ⟨g, 0, none⟩ = some (.int .i64 (hiW d)) ∧ W.cell? ⟨g, 1, none⟩ = some (.int .u64 (loW d))) ∧ g < W.heap.size ∧ w.heap.size ≤ W.heap.size ∧ Below w.heap.size w W)
        (first | exact keep1 ((Below.refl _ _).drew) HS.out | exact keep1 hb (by assumption))
        (first
          | (go_at_call 48; refine (Of_any _ _ (by omega) (by omega)).mono ?_; rintro e w' ⟨rfl, hb⟩)
          | (go_at_call 47; refine (Cmp_n _ _ _ (by assumption) (by assumption)).mono ?_; rintro e w' ⟨rfl, hb⟩)
          | (go_at_call 31; refine (fxAwake_any _).mono ?_; rintro e w' ⟨rfl, hb⟩))
      go_wp2
      go_ret
      exact ⟨rfl, end1 (by assumption)⟩
theorem near_law (a b : Int) (wa : (Lit.int .i64 a).wf = true) (wb : (Lit.int .i64 b).wf = true) (w : World) :
    Calls Try.prog 12 #[.int .i64 a, .int .i64 b] w fun e w' => e = .returned (.bool true) ∧ Below w.heap.size w w' := by
  have A := bounds_i64 wa
  have B := bounds_i64 wb
  exact near_walk a b w A.1 A.2 B.1 B.2
end Go.Proofs.Ytbigjdhehaihoaa

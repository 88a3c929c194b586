/- The walk of FxStays. -/
import Derived.Test.YtbigjdhehaihoaaHt
import Derived.Test.YtbigjdhehaihoaaGn
import Derived.Test.YtbigjdhehaihoaaZs
namespace Go.Proofs.Ytbigjdhehaihoaa
open Go.RowKit

set_option maxRecDepth 100000 in
set_option maxHeartbeats 4000000 in
theorem stays_walk (a : Option Addr) (len cap : Nat) (zs : List Int) (w : World) (I : Ints w .i64 a len cap zs) :
    Calls Try.prog 10 #[.slice a len cap] w fun e w' => e = .returned (.bool true) ∧ Below w.heap.size w w' := by
  have hm := I.hm
  have hl := I.hl
  unfold maxLen at hm
  by_cases h0 : len = 0
  · subst h0
    clear I
    go_enter Try.func10, Try.ntmps10
    go_wp2_with fail
    refine wp_loop_rounds 1 ?_
    rw [rounds_succ]
    go_wp2_with fail
    refine (fxAwake_any _).mono ?_
    rintro e w1 ⟨rfl, hb1⟩
    obtain ⟨hc_w1, hf_w1⟩ := bcell hb1
    have z_w1 := hb1.size
    try simp at z_w1
    have z0_w1 : w.heap.size < w1.heap.size := by omega
    have y_w1 : w.heap.size ≤ w1.heap.size := by omega
    go_wp2
    go_ret
    exact ⟨rfl, by repeat (first | exact Below.refl _ _ | assumption | refine Below.setCell ?_ (by first | omega | (simp; done) | (simp; omega)) _ | refine Below.alloc ?_ (by first | omega | (simp; done) | (simp; omega)) _ | refine below_drewN ?_ _ | refine Below.drew ?_ | refine Below.trans ?_ (Below.mono (by assumption) (by first | omega | (simp; done) | (simp; omega))))⟩
  · obtain ⟨b, off, rfl, hb, hcell⟩ := I.at' (by omega)
    have HC : Hid (∀ i, i < len → w.cell? ⟨b, off + i, none⟩ = some (.int .i64 (zs.getD i 0))) := hcell
    have HW : Hid (∀ i, i < len → (Lit.int .i64 (zs.getD i 0)).wf = true) := fun i hi => I.get hi
    have m0 : MAt (w.alloc (.cells #[.bool false] 47)) w.heap.size 0 false := MAt.new w _ _
    have M0 := Lib.hid m0
    clear hcell I m0
    go_enter Try.func10, Try.ntmps10
    go_wp2
    go_loopw [5, 6, 7] (fun over acc i wr => ∃ (k : Nat) (ov : Bool) (c : Int), k ≤ len ∧ i = .int .i64 k ∧ over = .bool ov ∧ acc = .int .i64 c ∧ In64 c ∧ MAt wr w.heap.size 0 ov ∧ Below w.heap.size w wr) (fun _ _ i _ => len - (intOf i).toNat)
    case atStart => exact ⟨0, false, 4294967296, by omega, rfl, rfl, rfl, by unfold In64; omega, M0.out, by repeat (first | exact Below.refl _ _ | assumption | refine Below.setCell ?_ (by first | omega | (simp; done) | (simp; omega)) _ | refine Below.alloc ?_ (by first | omega | (simp; done) | (simp; omega)) _ | refine below_drewN ?_ _ | refine Below.drew ?_ | refine Below.trans ?_ (Below.mono (by assumption) (by first | omega | (simp; done) | (simp; omega))))⟩
    case round =>
      obtain ⟨k, ov, c, hk, rfl, rfl, rfl, hc, M, B⟩ := hrel
      have c0 := hc.1
      have c1 := hc.2
      have HM := Lib.hid M
      have HB := Lib.hid B
      have zr : w.heap.size < wr.heap.size := M.lt
      have zb : b < wr.heap.size := by omega
      clear M B hc
      by_cases hlt : k < len
      · obtain ⟨x, hx⟩ : ∃ x, zs.getD k 0 = x := ⟨_, rfl⟩
        have xb := HW.out k hlt
        rw [hx] at xb
        have x0 := (bounds_i64 xb).1
        have x1 := (bounds_i64 xb).2
        have xc0 : wr.cell? ⟨b, off + k, none⟩ = some (.int .i64 x) := by rw [HB.out.cell (p := ⟨b, off + k, none⟩) hb, HC.out k hlt, hx]
        clear hx xb
        have o0 : MAt (wr.alloc (.cells #[.bool false] 47)) wr.heap.size 0 false := MAt.new wr _ _
        have O0 := Lib.hid o0
        clear o0
        go_wp2_with fail
        refine (fxMul_any c x wr.heap.size 0 false _ c0 c1 x0 x1 O0.out).mono ?_
        rintro e w1 ⟨rfl, h1⟩
        have O1 := Lib.hid (h1.at O0.out O0.out.lt)
        have M1 := Lib.hid (h1.far (HM.out.alloc _) (by simp; omega) (by omega))
        have B1 := Lib.hid ((HB.out.alloc (by omega) _).trans (h1.below (C := w.heap.size) (by simp; omega) (by omega)))
        have xc1 : w1.cell? ⟨b, off + k, none⟩ = some (.int .i64 x) := by rw [B1.out.cell (p := ⟨b, off + k, none⟩) hb, ← HB.out.cell (p := ⟨b, off + k, none⟩) hb]; exact xc0
        clear h1 xc0
        go_wp2_with fail
        refine (fxMul_any c x w.heap.size 0 ov _ c0 c1 x0 x1 M1.out).mono ?_
        rintro e w2 ⟨rfl, h2⟩
        have O2 := Lib.hid (h2.far O1.out O1.out.lt (by omega))
        have M2 := Lib.hid (h2.at M1.out M1.out.lt)
        have B2 := Lib.hid (B1.out.trans (h2.below (C := w.heap.size) B1.out.size (by omega)))
        have xc2 : w2.cell? ⟨b, off + k, none⟩ = some (.int .i64 x) := by rw [B2.out.cell (p := ⟨b, off + k, none⟩) hb, ← B1.out.cell (p := ⟨b, off + k, none⟩) hb]; exact xc1
        clear h2 xc1
        go_wp2_with fail
        refine (fxMul_nil c x _ c0 c1 x0 x1).mono ?_
        rintro e w3 ⟨rfl, h3⟩
        have O3 := Lib.hid (O2.out.below h3 O2.out.lt)
        have M3 := Lib.hid (M2.out.below h3 M2.out.lt)
        have B3 := Lib.hid (B2.out.trans (h3.mono B2.out.size))
        have oc : w3.cell? ⟨wr.heap.size, 0, none⟩ = some (.bool (mulO c x)) := O3.out.c
        have mc : w3.cell? ⟨w.heap.size, 0, none⟩ = some (.bool (ov || mulO c x)) := M3.out.c
        have pin := mulF_in c x
        have PIN := Lib.hid pin
        clear h3 xc2 pin
        cases ov with
        | true =>
          go_wp2
          go_roundw
          case rel => exact ⟨k + 1, true, mulF c x, by omega, by go_num, rfl, rfl, PIN.out, M3.out, B3.out⟩
          case measure => simp [intOf]; omega
        | false =>
          go_wp2
          go_roundw
          case rel => exact ⟨k + 1, mulO c x, mulF c x, by omega, by go_num, rfl, rfl, PIN.out, M3.out, B3.out⟩
          case measure => simp [intOf]; omega
      · go_wp2_with fail
        refine (fxAwake_any _).mono ?_
        rintro e w5 ⟨rfl, hb5⟩
        go_wp2
        go_ret
        exact ⟨rfl, HB.out.trans (hb5.mono HB.out.size)⟩
end Go.Proofs.Ytbigjdhehaihoaa

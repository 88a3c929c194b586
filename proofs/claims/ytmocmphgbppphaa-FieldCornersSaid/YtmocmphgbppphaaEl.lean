/- awake of the ground's laws. -/
import Derived.Test.YtmocmphgbppphaaEk
namespace Go.Proofs.Ytmocmphgbppphaa
open Go.RowKit
set_option linter.unusedVariables false
set_option linter.unusedSimpArgs false

theorem fsmp_lo {n lo : Nat} (h : lo ≤ n) : TrkLo lo (fsmp n) := by
  intro p hp
  rcases hp with e | e | e | e | e | e
  · cases e; exact h
  · cases e; show lo ≤ n + 1; omega
  · cases e; show lo ≤ n + 1 + 1; omega
  · cases e
  · cases e
  · cases e
set_option maxRecDepth 100000 in
set_option maxHeartbeats 2000000 in
theorem fawake_any (F : FieldT) (C : FieldC F) (w : World) : Calls Try.prog 13 #[] w fun e w' => e = .returned (.bool true) ∧ Below w.heap.size w w' := by
  have HC := Lib.hid C
  clear C
  go_enter Try.func13, Try.ntmps13
  go_wp2_with fail
  refine calls_gen (S := fun W => MAt W w.heap.size 0 false ∧ Below w.heap.size w W) ⟨MAt.new w _ _, by repeat (first | exact Below.refl _ _ | assumption | refine Below.setCell ?_ (by first | omega | (simp; done) | (simp; omega)) _ | refine Below.alloc ?_ (by first | omega | (simp; done) | (simp; omega)) _ | refine below_drewN ?_ _ | refine Below.drew ?_ | refine Below.trans ?_ (Below.mono (by assumption) (by first | omega | (simp; done) | (simp; omega))))⟩ (fun W0 hS => ?_)
  have A0 := Lib.hid hS.1
  have L0 := Lib.hid hS.2
  clear hS
  refine (fsample_any _).mono ?_
  rintro e w1 ⟨⟨n, hn, rfl, hk⟩, hb⟩
  have A1 := Lib.hid (A0.out.below hb A0.out.lt)
  have L1 := Lib.hid (L0.out.trans (hb.mono L0.out.size))
  have hlo : w.heap.size + 1 ≤ n := by have := A0.out.lt; omega
  have HK := Lib.hid hk
  have hm1 := A1.out.lt
  clear hb hk A0 L0
  go_wp2_with fail
  refine (HC.out.yes (fsmp n) (w.heap.size + 1) w1.heap.size w1 (Nat.le_refl _) HK.out (by omega) (fsmp_lo hlo) (fsmp_right n)).mono ?_
  rintro e w2 ⟨⟨f, rfl, hp⟩, hb⟩
  have G2 := Lib.hid (show GS F w w2 (w.heap.size + 1) w2.heap.size f w.heap.size false (fsmp n) from ⟨hp, A1.out.below hb A1.out.lt, L1.out.trans (hb.mono L1.out.size), Or.inl (by omega), Nat.le_refl _⟩)
  obtain ⟨top, htop⟩ : ∃ top, w2.heap.size = top := ⟨_, rfl⟩
  rw [htop] at G2
  clear hp hb htop A1 L1 HK
  go_wp2_with fail
  have XN := HC.out.no fnilT 0 w2 (Nat.zero_le _) (fnilT_m 0 _) (by rw [fnilT_right]; decide)
  rw [fnilT_right] at XN
  refine XN.mono ?_
  rintro e w3 ⟨rfl, h⟩
  have G3 := Lib.hid (G2.out.step h)
  clear h XN G2
  go_wp2_with fail
  have XM := HC.out.normal (fsmp n) 0 0 w.heap.size 0 false _ _ f w3 (by unfold In64; omega) (by unfold In64; omega) G3.out.p G3.out.e G3.out.a
  rw [(fsmp_slp n).1, (fsmp_slp n).2] at XM
  have ux := up_ex.1
  have uy := up_ex.2.1
  have uz := up_ex.2.2
  generalize upX 0 4294967296 = nx at *
  generalize upY 0 4294967296 = ny at *
  generalize upZ 0 4294967296 = nz at *
  subst ux
  refine XM.mono ?_
  rintro e w4 ⟨rfl, h⟩
  have G4 := Lib.hid (G3.out.fx h)
  clear h XM G3
  go_wp2_with fail
  refine calls_gen (S := fun W => GS F w W (w.heap.size + 1) top f w.heap.size false (fsmp n) ∧ BW W w4.heap.size [.int .i64 0, .int .i64 ny, .int .i64 nz]) ⟨G4.out.step ((Below.refl _ _).alloc (Nat.le_refl _) _), BW.new w4 _ [_, _, _] _ rfl⟩ (fun W5 hS => ?_)
  have G5 := Lib.hid hS.1
  have N5 := Lib.hid hS.2
  have hne : w.heap.size ≠ w4.heap.size := by have := G4.out.a.lt; omega
  obtain ⟨nb, hnb⟩ : ∃ nb, w4.heap.size = nb := ⟨_, rfl⟩
  rw [hnb] at N5 hne ⊢
  clear hS G4 hnb
  have XH := HC.out.height (fsmp n) 8589934592 4294967296 w.heap.size 0 false _ _ f W5 (by unfold In64; omega) (by unfold In64; omega) G5.out.p G5.out.e G5.out.a
  rw [(fsmp_hg n).1] at XH
  refine XH.mono ?_
  rintro e w6 ⟨rfl, h⟩
  have G6 := Lib.hid (G5.out.fx h)
  have N6 := Lib.hid (N5.out.fx h hne)
  clear h XH G5 N5
  go_wp2_with fail
  have XH := HC.out.height (fsmp n) 12884901888 17179869184 w.heap.size 0 false _ _ f w6 (by unfold In64; omega) (by unfold In64; omega) G6.out.p G6.out.e G6.out.a
  rw [(fsmp_hg n).2] at XH
  refine XH.mono ?_
  rintro e w7 ⟨rfl, h⟩
  have G7 := Lib.hid (G6.out.fx h)
  have N7 := Lib.hid (N6.out.fx h hne)
  clear h XH G6 N6
  have mc := G7.out.a.c
  have n0 := N7.out.c 0 _ rfl
  have n1 := N7.out.c 1 _ rfl
  have n2 := N7.out.c 2 _ rfl
  go_wp2
  go_ret
  exact ⟨rfl, G7.out.bl⟩
end Go.Proofs.Ytmocmphgbppphaa

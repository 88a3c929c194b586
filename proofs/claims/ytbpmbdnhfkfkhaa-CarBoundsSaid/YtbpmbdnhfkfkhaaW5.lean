/- The program's car: the tyre's pane; ratios; what a car is to tell. -/
import Derived.Test.YtbpmbdnhfkfkhaaW2
import Derived.Test.YtbpmbdnhfkfkhaaW3
import Derived.Test.YtbpmbdnhfkfkhaaW4
import Derived.Test.YtbpmbdnhfkfkhaaBx
namespace Go.Proofs.Ytbpmbdnhfkfkhaa
open Go.RowKit
set_option linter.unusedVariables false
set_option linter.unusedSimpArgs false

theorem tyre_eq (p : Pn) : tyreN p = if paneR p = 0 then rngC (decide (0 ≤ p.x.v 0) && (decide (0 ≤ p.y.v 0) && (inC 0 17179869184 (lowP p) && inC 0 17179869184 (highP p)))) else paneR p := by
  unfold tyreN
  by_cases z : paneR p = 0
  · rw [if_pos z, if_pos z]
    have SH := (paneR_ok z).1
    have n1 : 0 < p.x.n := by have := SH.1.1; omega
    have n0 : 0 < p.n := by have := SH.1; omega
    have L := low_is z 0 n0 0 n1
    rw [inC_dec, inC_dec, ← Bool.decide_and, ← Bool.decide_and, ← Bool.decide_and]
    unfold rngC
    by_cases h : p.x.v 0 < 0 ∨ p.y.v 0 < 0 ∨ lowP p < 0 ∨ 17179869184 < highP p
    · rw [if_pos h, if_neg (by rw [decide_eq_true_iff]; omega)]
    · rw [if_neg h, if_pos (by rw [decide_eq_true_iff]; omega)]
  · rw [if_neg z, if_neg z]
set_option maxRecDepth 100000 in
set_option maxHeartbeats 8000000 in
theorem cTyre_any (p : Pn) (B : Nat) (w : World) (hB : B ≤ w.heap.size) (F : fewP p) (K : Pan B w p) :
    Calls Try.prog 17 #[.agg #[.slice p.x.a p.x.n p.x.c, .slice p.y.a p.y.n p.y.c, .slice p.a p.n p.c]] w fun e w' => e = .returned (.int .i64 (tyreN p)) ∧ Below w.heap.size w w' := by
  have Q0 := Lib.hid (PQ.new 33 K hB)
  have XR := Lib.hid (fun (W : World) (Q : PQ w W B w.heap.size p) => pRight_any p B W (by have := Q.z; have := Q.l.size; omega) F Q.p)
  have XB := Lib.hid (fun (W : World) (Q : PQ w W B w.heap.size p) => pBounds_any p B W (by have := Q.z; have := Q.l.size; omega) F Q.p)
  have HR := tyre_eq p
  obtain ⟨R, hR⟩ : ∃ R, tyreN p = R := ⟨_, rfl⟩
  rw [hR] at HR ⊢
  clear K F
  obtain ⟨a0, a1, a2⟩ := Q0.out.k.h3
  by_cases z : paneR p = 0
  rotate_left
  · rw [if_neg z] at HR
    have E := Lib.hid HR.symm
    have b3 : (paneR p != 0) = true := bne_iff_ne.mpr z
    clear hR XB HR
    generalize paneR p = er at *
    go_enter Try.func17, Try.ntmps17
    go_wp2_with fail
    refine calls_gen (S := fun W => PQ w W B w.heap.size p) Q0.out (fun W1 hS => ?_)
    have Q1 := Lib.hid hS
    clear hS Q0
    refine (XR.out _ Q1.out).mono ?_
    rintro e w2 ⟨rfl, h⟩
    have Q2 := Lib.hid (Q1.out.step h)
    clear h Q1 XR a0 a1 a2
    go_wp2
    go_ret
    exact ⟨retI E.out, Q2.out.l⟩
  have SH := (paneR_ok z).1
  have n1 : 0 < p.x.n := by have := SH.1.1; omega
  have n2 : 0 < p.y.n := by have := SH.1.2.2.1; omega
  clear SH
  rw [if_pos z] at HR
  rw [z] at XR
  clear z hR
  have XW := Lib.hid (fun b cap W K => cF2 (lowP p) (highP p) 0 17179869184 b cap W K)
  generalize (inC 0 17179869184 (lowP p) && inC 0 17179869184 (highP p)) = r at *
  have HR := Lib.hid HR.symm
  obtain ⟨lo, hlo⟩ : ∃ l, lowP p = l := ⟨_, rfl⟩
  obtain ⟨hi, hhi⟩ : ∃ l, highP p = l := ⟨_, rfl⟩
  rw [hlo, hhi] at XB XW
  clear hlo hhi
  go_enter Try.func17, Try.ntmps17
  go_wp2_with fail
  refine calls_gen (S := fun W => PQ w W B w.heap.size p) Q0.out (fun W1 hS => ?_)
  have Q1 := Lib.hid hS
  clear hS Q0 a0 a1 a2
  refine (XR.out _ Q1.out).mono ?_
  rintro e w2 ⟨rfl, h⟩
  have Q2 := Lib.hid (Q1.out.step h)
  clear h Q1 XR
  obtain ⟨a0, a1, a2⟩ := Q2.out.k.h3
  go_wp2_with fail
  refine (XB.out _ Q2.out).mono ?_
  rintro e w4 ⟨rfl, h⟩
  have Q4 := Lib.hid (Q2.out.step h)
  clear h Q2 XB a0 a1 a2
  obtain ⟨bx, ox, ex, hbx, hcx⟩ := Q4.out.p.x.at' n1
  obtain ⟨bz, oz, ez, hbz, hcz⟩ := Q4.out.p.y.at' n2
  have cx : w4.cell? ⟨bx, ox, none⟩ = some (.int .i64 (p.x.v 0)) := hcx 0 n1
  have cz : w4.cell? ⟨bz, oz, none⟩ = some (.int .i64 (p.y.v 0)) := hcz 0 n2
  have a0 : w4.cell? ⟨w.heap.size, 0, none⟩ = some (.slice (some ⟨bx, ox, none⟩) p.x.n p.x.c) := by rw [← ex]; exact Q4.out.k.h3.1
  have a1 : w4.cell? ⟨w.heap.size, 1, none⟩ = some (.slice (some ⟨bz, oz, none⟩) p.y.n p.y.c) := by rw [← ez]; exact Q4.out.k.h3.2.1
  have m1 : (0 : Int) < (p.x.n : Int) := by omega
  have m2 : (0 : Int) < (p.y.n : Int) := by omega
  clear hcx hcz ex ez
  by_cases c1 : 0 ≤ p.x.v 0
  · have E1 := Lib.hid (show rngC (decide (0 ≤ p.y.v 0) && r) = R by rw [← HR.out, decide_eq_true c1]; rfl)
    clear HR
    by_cases c2 : 0 ≤ p.y.v 0
    · have E2 := Lib.hid (show rngC r = R by rw [← E1.out, decide_eq_true c2]; rfl)
      clear E1
      go_wp2_with fail
      refine calls_gen (S := fun W => PQ w W B w.heap.size p ∧ BW W w4.heap.size [.int .i64 lo, .int .i64 hi]) ⟨Q4.out.step ((Below.refl _ _).alloc (Nat.le_refl _) _), BW.new _ _ [_, _] _ rfl⟩ (fun w5 hS => ?_)
      have Q5 := Lib.hid hS.1
      refine (XW.out _ _ _ hS.2).mono ?_
      clear hS
      rintro e w6 ⟨rfl, rfl⟩
      go_wp2_with fail
      refine (cRanged_any r _).mono ?_
      rintro e w' ⟨rfl, rfl⟩
      go_wp2
      go_ret
      exact ⟨retI E2.out, Q5.out.l⟩
    · have E2 := Lib.hid (show rngC false = R by rw [← E1.out, decide_eq_false c2]; rfl)
      clear E1
      go_wp2_with fail
      refine (cRanged_any false _).mono ?_
      rintro e w' ⟨rfl, rfl⟩
      go_wp2
      go_ret
      exact ⟨retI E2.out, Q4.out.l⟩
  · have E2 := Lib.hid (show rngC false = R by rw [← HR.out, decide_eq_false c1]; rfl)
    clear HR
    go_wp2_with fail
    refine (cRanged_any false _).mono ?_
    rintro e w' ⟨rfl, rfl⟩
    go_wp2
    go_ret
    exact ⟨retI E2.out, Q4.out.l⟩
theorem wrap_inC {n : Int} (h : In64 n) : IntKind.i64.wrap n = n ∧ wrap64 n = n := by
  unfold In64 at h
  exact ⟨IntWalk.i64_in _ (by omega), by unfold wrap64; omega⟩
/-- numbers of a car are well formed -/
structure CrW (c : Cr) : Prop where
  i : ∀ k, In64 (c.f k)
  s : 0 ≤ c.f 67
  r : 0 ≤ c.f 68
  g : ∀ i, i < c.g.n → In64 (c.g.v i)
def ratioF (c : Cr) (gear : Int) : Int :=
  if gear = -1 then mulF (subF 0 (c.f 59)) (c.f 61) else if 1 ≤ gear ∧ gear ≤ c.g.n then mulF (c.g.v (gear - 1).toNat) (c.f 61) else 0
set_option maxRecDepth 100000 in
set_option maxHeartbeats 8000000 in
theorem cRatio_any (c : Cr) (gear : Int) (B : Nat) (w : World) (hB : B ≤ w.heap.size) (hw : CrW c) (hg : In64 gear) (K : Nums B w c.g) (hn : c.g.n ≤ 20) :
    Calls Try.prog 10 #[.agg (carL c).toArray, .int .i64 gear] w fun e w' => e = .returned (.int .i64 (ratioF c gear)) ∧ Below w.heap.size w w' := by
  have Q0 := Lib.hid (CQ.new 37 K hB)
  obtain ⟨R, hR⟩ : ∃ R, ratioF c gear = R := ⟨_, rfl⟩
  rw [hR]
  have HW := Lib.hid hw
  have HI := Lib.hid (And.intro (hw.i 59) (hw.i 61))
  clear K hw
  by_cases g1 : gear = -1
  · have E := Lib.hid (show mulF (subF 0 (c.f 59)) (c.f 61) = R by rw [← hR]; unfold ratioF; rw [if_pos g1])
    clear hR
    subst g1
    have XN := Lib.hid (fun W => fxNeg_nil (c.f 59) W HI.out.1.1 HI.out.1.2)
    have XM := Lib.hid (fun W => fxMul_nil (subF 0 (c.f 59)) (c.f 61) W (subF_in 0 (c.f 59)).1 (subF_in 0 (c.f 59)).2 HI.out.2.1 HI.out.2.2)
    generalize subF 0 (c.f 59) = nb at *
    go_enter Try.func10, Try.ntmps10
    go_wp2_with fail
    refine wp_gen (S := fun W => CQ w W B w.heap.size c) Q0.out (fun W1 hS => ?_)
    have Q1 := Lib.hid hS.drew
    clear hS Q0
    refine wp_region_held_drew (S := fun W => W.cell? ⟨w.heap.size, 59, none⟩ = some (.int .i64 (c.f 59)) ∧ W.cell? ⟨w.heap.size, 61, none⟩ = some (.int .i64 (c.f 61))) (by kernel_rfl) ⟨Q1.out.k.c 59 _ rfl, Q1.out.k.c 61 _ rfl⟩ (fun hHeld => ?_)
    generalize World.drew _ = w1 at *
    refine tkD 0 9 (v := ?_) ?_ hHeld ?_
    rotate_left 1
    (intro W hSw; (try dsimp only at hSw); go_simp; try with_reducible rfl)
    (try simp only [putA, putB, putC, putD])
    refine tkD 1 10 (v := ?_) ?_ hHeld ?_
    rotate_left 1
    (intro W hSw; (try dsimp only at hSw); go_simp; try with_reducible rfl)
    (try simp only [putA, putB, putC, putD])
    refine tkD 2 11 (v := ?_) ?_ hHeld ?_
    rotate_left 1
    (intro W hSw; (try dsimp only at hSw); go_simp; try with_reducible rfl)
    (try simp only [putA, putB, putC, putD])
    refine tkD 3 12 (v := ?_) ?_ hHeld ?_
    rotate_left 1
    (intro W hSw; (try dsimp only at hSw); go_simp; try with_reducible rfl)
    (try simp only [putA, putB, putC, putD])
    refine tkD 5 14 (v := ?_) ?_ hHeld ?_
    rotate_left 1
    (intro W hSw; (try dsimp only at hSw); go_simp; try with_reducible rfl)
    (try simp only [putA, putB, putC, putD])
    refine tkD 6 15 (v := ?_) ?_ hHeld ?_
    rotate_left 1
    (intro W hSw; (try dsimp only at hSw); go_simp; try with_reducible rfl)
    (try simp only [putA, putB, putC, putD])
    refine onlD 4 (fun K hK => ?_)
    go_simp
    refine (XN.out _).mono ?_
    rintro e w2 ⟨rfl, h⟩
    have Q2 := Lib.hid (Q1.out.step h)
    go_wp2_with fail
    refine hK.out _ _ (⟨Q2.out.k.c 59 _ rfl, Q2.out.k.c 61 _ rfl⟩) ?_
    clear hK K hHeld
    intro hHeld
    clear h Q1
    refine onlD 7 (fun K hK => ?_)
    go_simp
    refine (XM.out _).mono ?_
    rintro e w3 ⟨rfl, h⟩
    have Q3 := Lib.hid (Q2.out.step h)
    go_wp2_with fail
    refine hK.out _ _ (⟨Q3.out.k.c 59 _ rfl, Q3.out.k.c 61 _ rfl⟩) ?_
    clear hK K hHeld
    intro hHeld
    clear h Q2
    refine tkD 8 4 (v := ?_) ?_ hHeld ?_
    rotate_left 1
    (intro W hSw; (try dsimp only at hSw); go_simp; try with_reducible rfl)
    (try simp only [putA, putB, putC, putD])
    refine wpAnyH_done (by kernel_rfl) ?_ _
    clear hHeld
    go_wp2
    go_ret
    exact ⟨retI E.out, Q3.out.l⟩
  by_cases g2 : 1 ≤ gear ∧ gear ≤ c.g.n
  · obtain ⟨k, hgk⟩ : ∃ k : Nat, gear = (k : Int) + 1 := ⟨(gear - 1).toNat, by omega⟩
    have hk : k < c.g.n := by omega
    have E := Lib.hid (show mulF (c.g.v k) (c.f 61) = R by rw [← hR]; unfold ratioF; rw [if_neg g1, if_pos g2]; congr 2; omega)
    clear hR
    obtain ⟨bg, og, ea, hbg, hcg⟩ := Q0.out.g.at' (by omega)
    have XM := Lib.hid (fun W => fxMul_nil (c.g.v k) (c.f 61) W (HW.out.g k hk).1 (HW.out.g k hk).2 HI.out.2.1 HI.out.2.2)
    have z1 : (1 : Int) ≤ gear := by omega
    have z2 : gear ≤ (c.g.n : Int) := by omega
    have z3 : ¬ gear = -1 := by omega
    have wy : wrap64 (gear - 1) = (k : Int) := (wrap_inC (n := gear - 1) (by unfold In64; omega)).2.trans (by omega)
    have wz : IntKind.i64.wrap (gear - 1) = (k : Int) := (wrap_inC (n := gear - 1) (by unfold In64; omega)).1.trans (by omega)
    clear hgk g2
    have k60 := Q0.out.k.c 60 _ rfl
    go_enter Try.func10, Try.ntmps10
    go_wp2_with fail
    refine wp_gen (S := fun W => CQ w W B w.heap.size c) Q0.out (fun W1 hS => ?_)
    have Q1 := Lib.hid hS.drew
    clear hS Q0 hcg
    have SS := Lib.hid (fun (W : World) (Q : CQ w W B w.heap.size c) => show W.cell? ⟨w.heap.size, 60, none⟩ = some (.slice (some ⟨bg, og, none⟩) c.g.n c.g.c) ∧ W.cell? ⟨w.heap.size, 61, none⟩ = some (.int .i64 (c.f 61)) ∧ W.cell? ⟨bg, og + k, none⟩ = some (.int .i64 (c.g.v k)) from ⟨by rw [← ea]; exact Q.k.c 60 _ rfl, Q.k.c 61 _ rfl, by
      obtain ⟨b2, o2, e2, _, h2⟩ := Q.g.at' (by omega)
      rw [ea] at e2
      cases e2
      exact h2 k hk⟩)
    refine wp_region_held_drew (S := fun W => W.cell? ⟨w.heap.size, 60, none⟩ = some (.slice (some ⟨bg, og, none⟩) c.g.n c.g.c) ∧ W.cell? ⟨w.heap.size, 61, none⟩ = some (.int .i64 (c.f 61)) ∧ W.cell? ⟨bg, og + k, none⟩ = some (.int .i64 (c.g.v k))) (by kernel_rfl) (SS.out _ Q1.out) (fun hHeld => ?_)
    generalize World.drew _ = w1 at *
    have zk : (k : Int) < (c.g.n : Int) := by omega
    have zk0 : (0 : Int) ≤ (k : Int) := by omega
    refine tkD 0 27 (v := ?_) ?_ hHeld ?_
    rotate_left 1
    (intro W hSw; (try dsimp only at hSw); go_simp; try with_reducible rfl)
    (try simp only [putA, putB, putC, putD])
    refine tkD 1 28 (v := ?_) ?_ hHeld ?_
    rotate_left 1
    (intro W hSw; (try dsimp only at hSw); go_simp; try with_reducible rfl)
    (try simp only [putA, putB, putC, putD])
    refine tkD 2 29 (v := ?_) ?_ hHeld ?_
    rotate_left 1
    (intro W hSw; (try dsimp only at hSw); go_simp; try with_reducible rfl)
    (try simp only [putA, putB, putC, putD])
    refine tkD 3 30 (v := ?_) ?_ hHeld ?_
    rotate_left 1
    (intro W hSw; (try dsimp only at hSw); go_simp; try with_reducible rfl)
    (try simp only [putA, putB, putC, putD])
    refine tkD 4 31 (v := ?_) ?_ hHeld ?_
    rotate_left 1
    (intro W hSw; (try dsimp only at hSw); go_simp; try with_reducible rfl)
    (try simp only [putA, putB, putC, putD])
    refine tkD 5 32 (v := ?_) ?_ hHeld ?_
    rotate_left 1
    (intro W hSw; (try dsimp only at hSw); go_simp; try with_reducible rfl)
    (try simp only [putA, putB, putC, putD])
    refine tkD 6 33 (v := ?_) ?_ hHeld ?_
    rotate_left 1
    (intro W hSw; (try dsimp only at hSw); go_simp; try with_reducible rfl)
    (try simp only [putA, putB, putC, putD])
    refine tkD 7 34 (v := ?_) ?_ hHeld ?_
    rotate_left 1
    (intro W hSw; (try dsimp only at hSw); go_simp; try with_reducible rfl)
    (try simp only [putA, putB, putC, putD])
    refine tkD 8 35 (v := ?_) ?_ hHeld ?_
    rotate_left 1
    (intro W hSw; (try dsimp only at hSw); go_simp; try with_reducible rfl)
    (try simp only [putA, putB, putC, putD])
    refine onlD 9 (fun K hK => ?_)
    go_simp
    refine (XM.out _).mono ?_
    rintro e w3 ⟨rfl, h⟩
    have Q3 := Lib.hid (Q1.out.step h)
    go_wp2_with fail
    refine hK.out _ _ (SS.out _ Q3.out) ?_
    clear hK K hHeld
    intro hHeld
    clear h Q1
    refine tkD 10 4 (v := ?_) ?_ hHeld ?_
    rotate_left 1
    (intro W hSw; (try dsimp only at hSw); go_simp; try with_reducible rfl)
    (try simp only [putA, putB, putC, putD])
    refine wpAnyH_done (by kernel_rfl) ?_ _
    clear hHeld
    go_wp2
    go_ret
    exact ⟨retI E.out, Q3.out.l⟩
  · have E := Lib.hid (show (0 : Int) = R by rw [← hR]; unfold ratioF; rw [if_neg g1, if_neg g2])
    clear hR
    have k60 := Q0.out.k.c 60 _ rfl
    by_cases h1 : 1 ≤ gear
    · have h2 : ¬ gear ≤ (c.g.n : Int) := by omega
      go_enter Try.func10, Try.ntmps10
      go_wp2
      go_ret
      exact ⟨retI E.out, Q0.out.l⟩
    · go_enter Try.func10, Try.ntmps10
      go_wp2
      go_ret
      exact ⟨retI E.out, Q0.out.l⟩
end Go.Proofs.Ytbpmbdnhfkfkhaa

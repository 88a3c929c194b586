/- The program's Right of cars, whole. -/
import Derived.Test.YtbpmbdnhfkfkhaaW7
namespace Go.Proofs.Ytbpmbdnhfkfkhaa
open Go.RowKit
set_option linter.unusedVariables false
set_option linter.unusedSimpArgs false

noncomputable def crT (n : Nat) : Code := ((Try.f7.body.bind (atC n)).getD .skip)
def erE (c : Cr) (j : Nat) : Int := (errC c).getD j 0
theorem er_at (c : Cr) (j : Nat) (h : j < 14) : (errC c)[j]? = some (erE c j) := by
  unfold erE
  rw [List.getD_eq_getElem?_getD, List.getElem?_eq_getElem (by exact h)]
  rfl
theorem erL_at (e : Nat → Int) (j : Nat) (h : j < 14) : (erL e)[j]? = some (.int .i64 (e j)) := by
  have : j = 0 ∨ j = 1 ∨ j = 2 ∨ j = 3 ∨ j = 4 ∨ j = 5 ∨ j = 6 ∨ j = 7 ∨ j = 8 ∨ j = 9 ∨ j = 10 ∨ j = 11 ∨ j = 12 ∨ j = 13 := by omega
  rcases this with rfl | rfl | rfl | rfl | rfl | rfl | rfl | rfl | rfl | rfl | rfl | rfl | rfl | rfl <;> rfl
set_option maxRecDepth 100000 in
theorem er_index (e : Nat → Int) (W : World) (j : Nat) (h : j < 14) : (Instr.index 51 (.agg #[.int .i64 (e 0), .int .i64 (e 1), .int .i64 (e 2), .int .i64 (e 3), .int .i64 (e 4), .int .i64 (e 5), .int .i64 (e 6), .int .i64 (e 7), .int .i64 (e 8), .int .i64 (e 9), .int .i64 (e 10), .int .i64 (e 11), .int .i64 (e 12), .int .i64 (e 13)]) (.int .i64 (j : Int))).run Try.prog W = .ok (.int .i64 (e j)) W := by
  have : j = 0 ∨ j = 1 ∨ j = 2 ∨ j = 3 ∨ j = 4 ∨ j = 5 ∨ j = 6 ∨ j = 7 ∨ j = 8 ∨ j = 9 ∨ j = 10 ∨ j = 11 ∨ j = 12 ∨ j = 13 := by omega
  rcases this with rfl | rfl | rfl | rfl | rfl | rfl | rfl | rfl | rfl | rfl | rfl | rfl | rfl | rfl <;> rfl
set_option maxRecDepth 100000 in
set_option maxHeartbeats 8000000 in
theorem cr_tail (c : Cr) (B : Nat) (w W : World) (m : Nat) (H : CA w W B w.heap.size c) (Z : BW W m (erL (erE c))) (u5 u6 u7 u8 u9 u10 u11 u12 u13 u14 u15 u16 u17 u18 u19 u20 u21 u22 u23 u24 u25 u26 u27 u28 u29 u30 u31 u32 u33 u34 u35 u36 u37 u38 u39 u40 u41 u42 u43 u44 u45 u46 u47 u48 u49 u50 u51 u52 u53 u54 u55 u56 u57 : Value) :
    Code.wp Try.prog (crT 2) (bodyPost Try.prog Try.f7 fun e w' => e = .returned (.tuple #[.int .i64 (rgtC c).1, .int .i64 (rgtC c).2]) ∧ Below w.heap.size w w') ⟨#[.agg (carL c).toArray, .pointer (some ⟨w.heap.size, 0, none⟩), .int .i64 0, .int .i64 0, .pointer (some ⟨m, 0, none⟩), u5, u6, u7, u8, u9, u10, u11, u12, u13, u14, u15, u16, u17, u18, u19, u20, u21, u22, u23, u24, u25, u26, u27, u28, u29, u30, u31, u32, u33, u34, u35, u36, u37, u38, u39, u40, u41, u42, u43, u44, u45, u46, u47, u48, u49, u50, u51, u52, u53, u54, u55, u56, u57], []⟩ W := by
  have BL := Lib.hid H.l
  have d0 := Z.c 0 _ rfl
  have d1 := Z.c 1 _ rfl
  have d2 := Z.c 2 _ rfl
  have d3 := Z.c 3 _ rfl
  have d4 := Z.c 4 _ rfl
  have d5 := Z.c 5 _ rfl
  have d6 := Z.c 6 _ rfl
  have d7 := Z.c 7 _ rfl
  have d8 := Z.c 8 _ rfl
  have d9 := Z.c 9 _ rfl
  have d10 := Z.c 10 _ rfl
  have d11 := Z.c 11 _ rfl
  have d12 := Z.c 12 _ rfl
  have d13 := Z.c 13 _ rfl
  have FZ := Lib.hid (fun (h : ∀ x ∈ errC c, x = 0) => fst_zero (j := 0) h)
  have FA := Lib.hid (fun (k : Nat) (x : Int) (h : ∀ i, i < k → (errC c)[i]? = some 0) (hx : (errC c)[k]? = some x) (n : x ≠ 0) => fst_at (j := 0) h hx n)
  have EA := Lib.hid (er_at c)
  have LA := Lib.hid (er_index (erE c))
  have GI := Lib.hid (fun (i : Nat) (x : Int) (h : (errC c)[i]? = some x) => show i < 14 from (List.getElem?_eq_some_iff.1 h).1)
  rw [show rgtC c = fstC (errC c) 0 from rfl]
  generalize fstC (errC c) 0 = R at *
  generalize erE c = ee at *
  generalize errC c = EC at *
  clear H Z
  conv => arg 2; whnf
  go_wp2
  go_loopw [49, 5, 6] (fun i _ _ wr => wr = W ∧ ∃ j : Nat, j ≤ 14 ∧ i = .int .i64 j ∧ Hid (∀ q, q < j → ee q = 0)) (fun i _ _ _ => 14 - (intOf i).toNat)
  case atStart => exact ⟨by trivial, 0, by omega, rfl, Lib.hid (fun i h => absurd h (by omega))⟩
  case round =>
    obtain ⟨hw, j, hj, rfl, HZ⟩ := hrel
    subst hw
    by_cases hlt : j < 14
    · have c0 := LA.out wr j hlt
      have z0 : (0 : Int) ≤ (j : Int) := by omega
      have z1 : (j : Int) < 14 := by omega
      by_cases x0 : ee j = 0
      · have XZ := Lib.hid (show ∀ i, i < j + 1 → ee i = 0 from fun i hi => by
          by_cases e : i = j
          · rw [e]; exact x0
          · exact HZ.out i (by omega))
        rw [x0] at c0
        go_wp2
        go_roundw
        case rel => exact ⟨by trivial, j + 1, by omega, by go_num, XZ⟩
        case measure => simp [intOf]; omega
      · have F := Lib.hid (FA.out j (ee j) (fun i hi => by rw [EA.out i (by omega), HZ.out i hi]) (EA.out j hlt) x0)
        have xb : (ee j != 0) = true := bne_iff_ne.mpr x0
        generalize ee j = x at *
        go_wp2
        go_ret2
        exact ⟨by rw [F.out, Nat.zero_add]; rfl, BL.out⟩
    · have j4 : j = 14 := by omega
      subst j4
      have F := Lib.hid (FZ.out (fun x hx => by
        obtain ⟨i, hi⟩ := List.getElem?_of_mem hx
        have := GI.out i x hi
        have h2 := EA.out i this
        rw [hi, HZ.out i this] at h2
        cases h2; rfl))
      go_wp2
      go_ret2
      exact ⟨by rw [F.out]; rfl, BL.out⟩
set_option maxRecDepth 100000 in
set_option maxHeartbeats 8000000 in
theorem cRight_any (c : Cr) (B : Nat) (w : World) (hB : B ≤ w.heap.size) (few : fewC c) (hw : CrW c) (M : CrM B w c) :
    Calls Try.prog 7 #[.agg (carL c).toArray] w fun e w' => e = .returned (.tuple #[.int .i64 (rgtC c).1, .int .i64 (rgtC c).2]) ∧ Below w.heap.size w w' := by
  have Q0 := Lib.hid (CA.new 37 M hB)
  have X : CX c B w (erE c) := ⟨fun W h => cBody_any c W, fun W h => cWheel_any _ _ _ W, fun W h => cWheel_any _ _ _ W, fun W h => cWheel_any _ _ _ W, fun W h => cWheel_any _ _ _ W, fun W h => cBars_any c W,
    fun W h => cDamper_any c.d.a c.d.n c.d.c c.d.x c.d.y W (by have := few.1; omega) (h.M.d.dots h.bz), fun W h => cTyre_any c.t B W h.bz few.2.2.2.2 h.M.t,
    fun W h => cTorque_any c.q.a c.q.n c.q.c c.q.x c.q.y W (by have := few.2.1; omega) (h.M.q.dots h.bz), fun W h => cAir_any c.r.a c.r.n c.r.c c.r.x c.r.y W (by have := few.2.2.1; omega) (h.M.r.dots h.bz),
    fun W h => cEngine_any c W, fun W h => cGears_any c B W h.bz h.M.g, fun W h => cAxles_any c W hw.s hw.r, fun W h => cAids_any c W⟩
  have X := Lib.hid X
  clear hB few hw M
  go_enter Try.func7, Try.ntmps7
  go_wp2_with fail
  rename_i K0 a0
  have A0 := Lib.hid a0
  clear a0
  refine wp_gen (S := fun W => CA w W B w.heap.size c) Q0.out (fun W1 hS => ?_)
  have Q1 := Lib.hid hS.drew
  clear hS Q0
  refine wp_region_held_drew (S := fun W => CA w W B w.heap.size c) (by kernel_rfl) Q1.out (fun hHeld => ?_)
  generalize World.drew _ = w1 at *
  refine tkD 0 7 (v := .agg (carL c).toArray) ?_ hHeld ?_
  · exact fun W hS => ld_mid 37 (.tmp 1) rfl w.heap.size 0 rfl (carL c) _ (BW.range hS.k) Try.underlying37 rfl (by kernel_rfl)
  (try simp only [putA, putB, putC, putD])
  refine tkD 2 9 (v := ?_) ?_ hHeld ?_
  rotate_left 1
  (intro W hSw; (try dsimp only at hSw); go_simp; try with_reducible rfl)
  (try simp only [putA, putB, putC, putD])
  refine tkD 3 10 (v := ?_) ?_ hHeld ?_
  rotate_left 1
  (intro W hSw; (try dsimp only at hSw); go_simp; try with_reducible rfl)
  (try simp only [putA, putB, putC, putD])
  refine tkD 4 11 (v := wheelV c 0) ?_ hHeld ?_
  · exact fun W hS => ld_mid 26 (.tmp 10) rfl w.heap.size 4 rfl (wheelL (fun k => c.f (4 + 0 * 10 + k)) (c.p (12 + 0 * 10)) (c.p (13 + 0 * 10))) _ (wheel_range hS.k 0 (by omega)) Try.underlying26 rfl (by kernel_rfl)
  (try simp only [putA, putB, putC, putD])
  refine tkD 6 13 (v := ?_) ?_ hHeld ?_
  rotate_left 1
  (intro W hSw; (try dsimp only at hSw); go_simp; try with_reducible rfl)
  (try simp only [putA, putB, putC, putD])
  refine tkD 7 14 (v := ?_) ?_ hHeld ?_
  rotate_left 1
  (intro W hSw; (try dsimp only at hSw); go_simp; try with_reducible rfl)
  (try simp only [putA, putB, putC, putD])
  refine tkD 8 15 (v := wheelV c 1) ?_ hHeld ?_
  · exact fun W hS => ld_mid 26 (.tmp 14) rfl w.heap.size 14 rfl (wheelL (fun k => c.f (4 + 1 * 10 + k)) (c.p (12 + 1 * 10)) (c.p (13 + 1 * 10))) _ (wheel_range hS.k 1 (by omega)) Try.underlying26 rfl (by kernel_rfl)
  (try simp only [putA, putB, putC, putD])
  refine tkD 10 17 (v := ?_) ?_ hHeld ?_
  rotate_left 1
  (intro W hSw; (try dsimp only at hSw); go_simp; try with_reducible rfl)
  (try simp only [putA, putB, putC, putD])
  refine tkD 11 18 (v := ?_) ?_ hHeld ?_
  rotate_left 1
  (intro W hSw; (try dsimp only at hSw); go_simp; try with_reducible rfl)
  (try simp only [putA, putB, putC, putD])
  refine tkD 12 19 (v := wheelV c 2) ?_ hHeld ?_
  · exact fun W hS => ld_mid 26 (.tmp 18) rfl w.heap.size 24 rfl (wheelL (fun k => c.f (4 + 2 * 10 + k)) (c.p (12 + 2 * 10)) (c.p (13 + 2 * 10))) _ (wheel_range hS.k 2 (by omega)) Try.underlying26 rfl (by kernel_rfl)
  (try simp only [putA, putB, putC, putD])
  refine tkD 14 21 (v := ?_) ?_ hHeld ?_
  rotate_left 1
  (intro W hSw; (try dsimp only at hSw); go_simp; try with_reducible rfl)
  (try simp only [putA, putB, putC, putD])
  refine tkD 15 22 (v := ?_) ?_ hHeld ?_
  rotate_left 1
  (intro W hSw; (try dsimp only at hSw); go_simp; try with_reducible rfl)
  (try simp only [putA, putB, putC, putD])
  refine tkD 16 23 (v := wheelV c 3) ?_ hHeld ?_
  · exact fun W hS => ld_mid 26 (.tmp 22) rfl w.heap.size 34 rfl (wheelL (fun k => c.f (4 + 3 * 10 + k)) (c.p (12 + 3 * 10)) (c.p (13 + 3 * 10))) _ (wheel_range hS.k 3 (by omega)) Try.underlying26 rfl (by kernel_rfl)
  (try simp only [putA, putB, putC, putD])
  refine tkD 18 25 (v := .agg (carL c).toArray) ?_ hHeld ?_
  · exact fun W hS => ld_mid 37 (.tmp 1) rfl w.heap.size 0 rfl (carL c) _ (BW.range hS.k) Try.underlying37 rfl (by kernel_rfl)
  (try simp only [putA, putB, putC, putD])
  refine tkD 20 27 (v := ?_) ?_ hHeld ?_
  rotate_left 1
  (intro W hSw; (try dsimp only at hSw); go_simp; try with_reducible rfl)
  (try simp only [putA, putB, putC, putD])
  refine tkD 21 28 (v := ?_) ?_ hHeld ?_
  rotate_left 1
  (intro W hSw; obtain ⟨k46, k47, k48, k49, k50, k51⟩ := hSw.k.slS; go_simp; try with_reducible rfl)
  (try simp only [putA, putB, putC, putD])
  refine tkD 23 30 (v := ?_) ?_ hHeld ?_
  rotate_left 1
  (intro W hSw; (try dsimp only at hSw); go_simp; try with_reducible rfl)
  (try simp only [putA, putB, putC, putD])
  refine tkD 24 31 (v := ?_) ?_ hHeld ?_
  rotate_left 1
  (intro W hSw; obtain ⟨k46, k47, k48, k49, k50, k51⟩ := hSw.k.slS; go_simp; try with_reducible rfl)
  (try simp only [putA, putB, putC, putD])
  refine tkD 26 33 (v := ?_) ?_ hHeld ?_
  rotate_left 1
  (intro W hSw; (try dsimp only at hSw); go_simp; try with_reducible rfl)
  (try simp only [putA, putB, putC, putD])
  refine tkD 27 34 (v := ?_) ?_ hHeld ?_
  rotate_left 1
  (intro W hSw; obtain ⟨k46, k47, k48, k49, k50, k51⟩ := hSw.k.slS; go_simp; try with_reducible rfl)
  (try simp only [putA, putB, putC, putD])
  refine tkD 29 36 (v := ?_) ?_ hHeld ?_
  rotate_left 1
  (intro W hSw; (try dsimp only at hSw); go_simp; try with_reducible rfl)
  (try simp only [putA, putB, putC, putD])
  refine tkD 30 37 (v := ?_) ?_ hHeld ?_
  rotate_left 1
  (intro W hSw; obtain ⟨k46, k47, k48, k49, k50, k51⟩ := hSw.k.slS; go_simp; try with_reducible rfl)
  (try simp only [putA, putB, putC, putD])
  refine tkD 32 39 (v := .agg (carL c).toArray) ?_ hHeld ?_
  · exact fun W hS => ld_mid 37 (.tmp 1) rfl w.heap.size 0 rfl (carL c) _ (BW.range hS.k) Try.underlying37 rfl (by kernel_rfl)
  (try simp only [putA, putB, putC, putD])
  refine tkD 34 41 (v := .agg (carL c).toArray) ?_ hHeld ?_
  · exact fun W hS => ld_mid 37 (.tmp 1) rfl w.heap.size 0 rfl (carL c) _ (BW.range hS.k) Try.underlying37 rfl (by kernel_rfl)
  (try simp only [putA, putB, putC, putD])
  refine tkD 36 43 (v := .agg (carL c).toArray) ?_ hHeld ?_
  · exact fun W hS => ld_mid 37 (.tmp 1) rfl w.heap.size 0 rfl (carL c) _ (BW.range hS.k) Try.underlying37 rfl (by kernel_rfl)
  (try simp only [putA, putB, putC, putD])
  refine tkD 38 45 (v := .agg (carL c).toArray) ?_ hHeld ?_
  · exact fun W hS => ld_mid 37 (.tmp 1) rfl w.heap.size 0 rfl (carL c) _ (BW.range hS.k) Try.underlying37 rfl (by kernel_rfl)
  (try simp only [putA, putB, putC, putD])
  refine rb_0 c B w (erE c) _ X.out (fun W m h Z hm u5 u6 u9 u10 u13 u14 u17 u18 u21 u22 u27 u30 u33 u36 u48 u49 u50 u51 u52 u53 u54 u55 u56 u57 => ?_) w1 hHeld _ _ _ _ _ _ _ _ _ _ _ _ _ _ _ _ _ _ _ _ _ _ _ _ _ _ _ _ _ _ _ _ _ _ _ _ _ _ _ _
  go_wp2_with fail
  exact A0.out _ _ (cr_tail c B w W m h Z _ _ _ _ _ _ _ _ _ _ _ _ _ _ _ _ _ _ _ _ _ _ _ _ _ _ _ _ _ _ _ _ _ _ _ _ _ _ _ _ _ _ _ _ _ _ _ _ _ _ _ _ _)
end Go.Proofs.Ytbpmbdnhfkfkhaa

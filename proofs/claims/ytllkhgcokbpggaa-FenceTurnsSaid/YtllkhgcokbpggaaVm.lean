/- The walk of FenceBreaks: awake stands as a condition. -/
import Derived.Test.YtllkhgcokbpggaaVk
namespace Go.Proofs.Ytllkhgcokbpggaa
open Go.RowKit
set_option linter.unusedVariables false
set_option linter.unusedSimpArgs false

/-- a track's and two places' copies -/
structure FnD (w W : World) (B : Nat) (k : Tk) (px py qx qy : Int) : Prop where
  q : PK w W B w.heap.size k
  p : BW W (w.heap.size + 1) [.int .i64 px, .int .i64 py]
  r : BW W (w.heap.size + 1 + 1) [.int .i64 qx, .int .i64 qy]
theorem FnD.step {w W W' : World} {B : Nat} {k : Tk} {px py qx qy : Int} (S : FnD w W B k px py qx qy) (h : Below W.heap.size W W') : FnD w W' B k px py qx qy := ⟨S.q.step h, S.p.below h S.p.lt, S.r.below h S.r.lt⟩
theorem FnD.new {w : World} {B : Nat} {k : Tk} (px py qx qy : Int) (T U : TypeId) (K : TkM B w k) (hB : B ≤ w.heap.size) : FnD w (((w.alloc (.cells (trkL k.t).toArray T)).alloc (.cells #[.int .i64 px, .int .i64 py] U)).alloc (.cells #[.int .i64 qx, .int .i64 qy] U)) B k px py qx qy := by
  have Q := (PK.new T K hB).step ((Below.refl _ _).alloc (Nat.le_refl _) (.cells #[.int .i64 px, .int .i64 py] U))
  have b := (Below.refl ((w.alloc (.cells (trkL k.t).toArray T)).alloc (.cells #[.int .i64 px, .int .i64 py] U)).heap.size ((w.alloc (.cells (trkL k.t).toArray T)).alloc (.cells #[.int .i64 px, .int .i64 py] U))).alloc (Nat.le_refl _) (.cells #[.int .i64 qx, .int .i64 qy] U)
  exact ⟨Q.step b, (BW.new _ (w.heap.size + 1) [.int .i64 px, .int .i64 py] U (by simp)).below b (by simp), BW.new _ (w.heap.size + 1 + 1) [.int .i64 qx, .int .i64 qy] U (by simp)⟩
theorem FnD.held {w W : World} {B : Nat} {k : Tk} {px py qx qy : Int} (S : FnD w W B k px py qx qy) : (W.cell? ⟨w.heap.size + 1, 0, none⟩ = some (.int .i64 px) ∧ W.cell? ⟨w.heap.size + 1, 1, none⟩ = some (.int .i64 py)) ∧ (W.cell? ⟨w.heap.size + 1 + 1, 0, none⟩ = some (.int .i64 qx) ∧ W.cell? ⟨w.heap.size + 1 + 1, 1, none⟩ = some (.int .i64 qy)) := ⟨⟨S.p.c 0 _ rfl, S.p.c 1 _ rfl⟩, S.r.c 0 _ rfl, S.r.c 1 _ rfl⟩
theorem FnD.both {w W : World} {B : Nat} {k : Tk} {px py qx qy : Int} (S : FnD w W B k px py qx qy) : TKc w.heap.size k.t W ∧ (W.cell? ⟨w.heap.size + 1, 0, none⟩ = some (.int .i64 px) ∧ W.cell? ⟨w.heap.size + 1, 1, none⟩ = some (.int .i64 py)) ∧ (W.cell? ⟨w.heap.size + 1 + 1, 0, none⟩ = some (.int .i64 qx) ∧ W.cell? ⟨w.heap.size + 1 + 1, 1, none⟩ = some (.int .i64 qy)) := ⟨tk_of S.q.c, S.held⟩
set_option maxRecDepth 100000 in
set_option maxHeartbeats 4000000 in
theorem fbreaks_walk (F : FenT) (C : FenceC F) (A : FnAw) (k : Tk) (B : Nat) (px py qx qy : Int) (w : World) (hB : B ≤ w.heap.size) (hx : (In64 px ∧ In64 py) ∧ In64 qx ∧ In64 qy) (K : TkM B w k) :
    Calls Try.prog 4 #[trkV k.t, .agg #[.int .i64 px, .int .i64 py], .agg #[.int .i64 qx, .int .i64 qy]] w fun e w' => e = .returned (.bool true) ∧ Below w.heap.size w w' := by
  have S0 := Lib.hid (FnD.new (k := k) px py qx qy 34 24 K hB)
  have XF := Lib.hid (fun (W : World) (Q : FnD w W B k px py qx qy) => kfew_any k B W Q.q.bz Q.q.t)
  have HC := Lib.hid C
  have HA := Lib.hid A
  have HX := Lib.hid hx
  clear K hB C A hx
  by_cases few : fewK k
  rotate_left
  · rw [decide_eq_false few] at XF
    clear few HC HA
    go_enter Try.func4, Try.ntmps4
    go_wp2_with fail
    refine calls_gen (S := fun W => FnD w W B k px py qx qy) S0.out (fun W1 hS => ?_)
    have S1 := Lib.hid hS
    clear hS S0
    refine (XF.out _ S1.out).mono ?_
    rintro e w2 ⟨rfl, h⟩
    have S2 := Lib.hid (S1.out.step h)
    clear h S1 XF
    go_wp2
    go_ret
    exact ⟨rfl, S2.out.q.l⟩
  rw [decide_eq_true few] at XF
  have XN := Lib.hid (fun (W : World) (Q : FnD w W B k px py qx qy) => fnear16_any k B W Q.q.bz few.2 Q.q.t)
  by_cases nr : nearT k
  rotate_left
  · rw [decide_eq_false nr] at XN
    clear few HC HA nr
    go_enter Try.func4, Try.ntmps4
    go_wp2_with fail
    refine calls_gen (S := fun W => FnD w W B k px py qx qy) S0.out (fun W1 hS => ?_)
    have S1 := Lib.hid hS
    clear hS S0
    refine (XF.out _ S1.out).mono ?_
    rintro e w2 ⟨rfl, h⟩
    have S2 := Lib.hid (S1.out.step h)
    clear h S1 XF
    have cs := tk_of S2.out.q.c
    unfold TKc at cs
    obtain ⟨c00, c01, c02, c03, c04, c05, c06, c07, c08, c09, c10, c11, c12, c13, c14, c15⟩ := cs
    go_wp2_with fail
    refine (XN.out _ S2.out).mono ?_
    rintro e w3 ⟨rfl, h⟩
    have S3 := Lib.hid (S2.out.step h)
    clear c00 c01 c02 c03 c04 c05 c06 c07 c08 c09 c10 c11 c12 c13 c14 c15
    clear h S2 XN
    go_wp2
    go_ret
    exact ⟨rfl, S3.out.q.l⟩
  rw [decide_eq_true nr] at XN
  have XW := Lib.hid (fun (W : World) (Q : FnD w W B k px py qx qy) => HC.out.new k B W Q.q.bz few.2 nr Q.q.t)
  have XR := Lib.hid (fun (W : World) (Q : FnD w W B k px py qx qy) => rKBars_any k B W Q.q.bz few.2 Q.q.t)
  have BD := Lib.hid (fun (i : Nat) (hi : i < barN k k.t.rn) => near_bar nr i hi)
  have BN := Lib.hid (show barN k k.t.rn ≤ 1980 by have := barN_le k (q := 99) (fun i hi => by have := few.2.2.2.2 i hi; omega) (m := k.t.rn) (Nat.le_refl _); have := few.2.2.1; omega)
  clear few nr
  generalize barN k k.t.rn = N at *
  generalize barG k = g at *
  go_enter Try.func4, Try.ntmps4
  go_wp2_with fail
  refine calls_gen (S := fun W => FnD w W B k px py qx qy) S0.out (fun W1 hS => ?_)
  have S1 := Lib.hid hS
  clear hS S0
  refine (XF.out _ S1.out).mono ?_
  rintro e w2 ⟨rfl, h⟩
  have S2 := Lib.hid (S1.out.step h)
  clear h S1 XF
  as_aux_lemma =>
  have cs := tk_of S2.out.q.c
  unfold TKc at cs
  obtain ⟨c00, c01, c02, c03, c04, c05, c06, c07, c08, c09, c10, c11, c12, c13, c14, c15⟩ := cs
  go_wp2_with fail
  refine (XN.out _ S2.out).mono ?_
  rintro e w3 ⟨rfl, h⟩
  have S3 := Lib.hid (S2.out.step h)
  clear c00 c01 c02 c03 c04 c05 c06 c07 c08 c09 c10 c11 c12 c13 c14 c15
  clear h S2 XN
  as_aux_lemma =>
  have cs := tk_of S3.out.q.c
  unfold TKc at cs
  obtain ⟨c00, c01, c02, c03, c04, c05, c06, c07, c08, c09, c10, c11, c12, c13, c14, c15⟩ := cs
  go_wp2_with fail
  refine (XW.out _ S3.out).mono ?_
  rintro e w4 ⟨⟨f, rfl, hF⟩, h⟩
  have S4 := Lib.hid (S3.out.step h)
  have P4 := Lib.hid hF
  clear c00 c01 c02 c03 c04 c05 c06 c07 c08 c09 c10 c11 c12 c13 c14 c15
  clear h hF S3 XW
  as_aux_lemma =>
  have S6 := Lib.hid (S4.out.step (Below.refl _ _).drew)
  have P6 := Lib.hid (F.step P4.out (Below.refl _ _).drew)
  clear S4 P4
  go_wp2_with fail
  refine wp_region_held_drew (S := fun W => TKc w.heap.size k.t W ∧ (W.cell? ⟨w.heap.size + 1, 0, none⟩ = some (.int .i64 px) ∧ W.cell? ⟨w.heap.size + 1, 1, none⟩ = some (.int .i64 py)) ∧ (W.cell? ⟨w.heap.size + 1 + 1, 0, none⟩ = some (.int .i64 qx) ∧ W.cell? ⟨w.heap.size + 1 + 1, 1, none⟩ = some (.int .i64 qy))) (by kernel_rfl) S6.out.both (fun hHeld => ?_)
  generalize World.drew _ = w6 at *
  refine tkD 0 20 (v := ?_) ?_ hHeld ?_
  rotate_left 1
  (intro W hSw; (try dsimp only [TKc] at hSw); go_simp; try with_reducible rfl)
  (try simp only [putA, putB, putC, putD])
  refine tkD 1 21 (v := ?_) ?_ hHeld ?_
  rotate_left 1
  (intro W hSw; (try dsimp only [TKc] at hSw); go_simp; try with_reducible rfl)
  (try simp only [putA, putB, putC, putD])
  refine tkD 2 22 (v := ?_) ?_ hHeld ?_
  rotate_left 1
  (intro W hSw; (try dsimp only [TKc] at hSw); go_simp; try with_reducible rfl)
  (try simp only [putA, putB, putC, putD])
  refine tkD 4 24 (v := ?_) ?_ hHeld ?_
  rotate_left 1
  (intro W hSw; (try dsimp only [TKc] at hSw); go_simp; try with_reducible rfl)
  (try simp only [putA, putB, putC, putD])
  refine tkD 6 26 (v := ?_) ?_ hHeld ?_
  rotate_left 1
  (intro W hSw; (try dsimp only [TKc] at hSw); go_simp; try with_reducible rfl)
  (try simp only [putA, putB, putC, putD])
  refine tkD 7 27 (v := ?_) ?_ hHeld ?_
  rotate_left 1
  (intro W hSw; (try dsimp only [TKc] at hSw); go_simp; try with_reducible rfl)
  (try simp only [putA, putB, putC, putD])
  refine onlD 3 (fun K hK => ?_)
  go_simp
  refine (HC.out.breaks N g px py qx qy _ _ f _ (by have := BN.out; omega) BD.out HX.out P6.out).mono ?_
  rintro e w7 ⟨⟨v7, rfl, hL⟩, h⟩
  have S7 := Lib.hid (S6.out.step h)
  have L7 := Lib.hid hL
  clear h hL S6 P6 HC
  go_wp2_with fail
  refine hK.out _ _ (S7.out.both) ?_
  clear hK K hHeld
  intro hHeld
  refine onlD 5 (fun K hK => ?_)
  go_simp
  refine (XR.out _ S7.out).mono ?_
  rintro e w8 ⟨a, c, rfl, hD, h, -⟩
  have S8 := Lib.hid (S7.out.step h)
  have L8 := Lib.hid (L7.out.step h)
  have D8 := Lib.hid hD
  clear h hD S7 L7 XR
  go_wp2_with fail
  refine hK.out _ _ (S8.out.both) ?_
  clear hK K hHeld
  intro hHeld
  refine onlD 8 (fun K hK => ?_)
  go_simp
  refine (rBreaks_any a N c g px py qx qy _ (by have := BN.out; omega) D8.out ⟨⟨wf_in HX.out.1.1, wf_in HX.out.1.2⟩, wf_in HX.out.2.1, wf_in HX.out.2.2⟩).mono ?_
  rintro e w9 ⟨⟨v9, rfl, hL⟩, h⟩
  have S9 := Lib.hid (S8.out.step h)
  have L9 := Lib.hid (L8.out.step h)
  have M9 := Lib.hid hL.intsL
  clear h hL S8 D8 L8
  go_wp2_with fail
  refine hK.out _ _ (S9.out.both) ?_
  clear hK K hHeld
  intro hHeld
  refine onlD 9 (fun K hK => ?_)
  go_simp
  refine (ints16_any v7 v9 _ _ (by unfold brkI; split; exact Nat.le_trans (selI_len _ _) (by have := BN.out; omega); simp) L9.out M9.out).mono ?_
  rintro e w10 ⟨rfl, h⟩
  have S10 := Lib.hid (S9.out.step h)
  clear h S9 L9 M9
  go_wp2_with fail
  refine hK.out _ _ (S10.out.both) ?_
  clear hK K hHeld
  intro hHeld
  refine tkD 10 30 (v := ?_) ?_ hHeld ?_
  rotate_left 1
  (intro W hSw; (try dsimp only [TKc] at hSw); go_simp; try with_reducible rfl)
  (try simp only [putA, putB, putC, putD])
  refine onlD 11 (fun K hK => ?_)
  go_simp
  refine (HA.out _).mono ?_
  rintro e w11 ⟨rfl, h⟩
  have S11 := Lib.hid (S10.out.step h)
  clear h S10 HA
  go_wp2_with fail
  refine hK.out _ _ (S11.out.both) ?_
  clear hK K hHeld
  intro hHeld
  refine tkD 12 32 (v := ?_) ?_ hHeld ?_
  rotate_left 1
  (intro W hSw; (try dsimp only [TKc] at hSw); go_simp; try with_reducible rfl)
  (try simp only [putA, putB, putC, putD])
  refine tkD 13 6 (v := ?_) ?_ hHeld ?_
  rotate_left 1
  (intro W hSw; (try dsimp only [TKc] at hSw); go_simp; try with_reducible rfl)
  (try simp only [putA, putB, putC, putD])
  refine wpAnyH_done (by kernel_rfl) ?_ _
  clear hHeld
  go_wp2
  go_ret
  exact ⟨rfl, S11.out.q.l⟩
end Go.Proofs.Ytllkhgcokbpggaa

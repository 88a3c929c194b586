/- The walks of FenceAround, FenceBehind: awake stands as a condition. -/
import Derived.Test.YtllkhgcokbpggaaVj
import Derived.Test.YtllkhgcokbpggaaBo
import Derived.Test.YtllkhgcokbpggaaCh
namespace Go.Proofs.Ytllkhgcokbpggaa
open Go.RowKit
set_option linter.unusedVariables false
set_option linter.unusedSimpArgs false

/-- awake says yes -/
def FnAw : Prop := ∀ w, Calls Try.prog 15 #[] w fun e w' => e = .returned (.bool true) ∧ Below w.heap.size w w'
/-- a track's and a place's copies -/
structure FnS (w W : World) (B : Nat) (k : Tk) (x y : Int) : Prop where
  q : PK w W B w.heap.size k
  p : BW W (w.heap.size + 1) [.int .i64 x, .int .i64 y]
theorem FnS.step {w W W' : World} {B : Nat} {k : Tk} {x y : Int} (S : FnS w W B k x y) (h : Below W.heap.size W W') : FnS w W' B k x y := ⟨S.q.step h, S.p.below h S.p.lt⟩
theorem FnS.held {w W : World} {B : Nat} {k : Tk} {x y : Int} (S : FnS w W B k x y) : W.cell? ⟨w.heap.size + 1, 0, none⟩ = some (.int .i64 x) ∧ W.cell? ⟨w.heap.size + 1, 1, none⟩ = some (.int .i64 y) := ⟨S.p.c 0 _ rfl, S.p.c 1 _ rfl⟩
set_option maxRecDepth 100000 in
set_option maxHeartbeats 4000000 in
theorem faround_walk (F : FenT) (C : FenceC F) (A : FnAw) (k : Tk) (B : Nat) (x y far : Int) (w : World) (hB : B ≤ w.heap.size) (hx : In64 x ∧ In64 y ∧ In64 far) (K : TkM B w k) :
    Calls Try.prog 3 #[trkV k.t, .agg #[.int .i64 x, .int .i64 y], .int .i64 far] w fun e w' => e = .returned (.bool true) ∧ Below w.heap.size w w' := by
  have S0 := Lib.hid (FnS.mk (k := k) (B := B) ((PK.new 34 K hB).step ((Below.refl _ _).alloc (Nat.le_refl _) (.cells #[.int .i64 x, .int .i64 y] 24))) (BW.new _ (w.heap.size + 1) [.int .i64 x, .int .i64 y] 24 (by simp)))
  have XF := Lib.hid (fun (W : World) (Q : FnS w W B k x y) => kfew_any k B W Q.q.bz Q.q.t)
  have HC := Lib.hid C
  have HA := Lib.hid A
  have HX := Lib.hid hx
  clear K hB C A hx
  by_cases few : fewK k
  rotate_left
  · rw [decide_eq_false few] at XF
    clear few HC HA
    go_enter Try.func3, Try.ntmps3
    go_wp2_with fail
    refine calls_gen (S := fun W => FnS w W B k x y) S0.out (fun W1 hS => ?_)
    have S1 := Lib.hid hS
    clear hS S0
    refine (XF.out _ S1.out).mono ?_
    rintro e w2 ⟨rfl, h⟩
    have S2 := Lib.hid (S1.out.step h)
    clear h S1 XF
    go_wp2
    go_ret
    exact ⟨rfl, S2.out.q.l⟩
  rw [decide_eq_true few] at XF
  have XN := Lib.hid (fun (W : World) (Q : FnS w W B k x y) => fnear16_any k B W Q.q.bz few.2 Q.q.t)
  by_cases nr : nearT k
  rotate_left
  · rw [decide_eq_false nr] at XN
    clear few HC HA nr
    go_enter Try.func3, Try.ntmps3
    go_wp2_with fail
    refine calls_gen (S := fun W => FnS w W B k x y) S0.out (fun W1 hS => ?_)
    have S1 := Lib.hid hS
    clear hS S0
    refine (XF.out _ S1.out).mono ?_
    rintro e w2 ⟨rfl, h⟩
    have S2 := Lib.hid (S1.out.step h)
    clear h S1 XF
    have cs := tk_of S2.out.q.c
    unfold TKc at cs
    obtain ⟨c00, c01, c02, c03, c04, c05, c06, c07, c08, c09, c10, c11, c12, c13, c14, c15⟩ := cs
    go_wp2_with fail
    refine (XN.out _ S2.out).mono ?_
    rintro e w3 ⟨rfl, h⟩
    have S3 := Lib.hid (S2.out.step h)
    clear c00 c01 c02 c03 c04 c05 c06 c07 c08 c09 c10 c11 c12 c13 c14 c15
    clear h S2 XN
    go_wp2
    go_ret
    exact ⟨rfl, S3.out.q.l⟩
  rw [decide_eq_true nr] at XN
  have XW := Lib.hid (fun (W : World) (Q : FnS w W B k x y) => HC.out.new k B W Q.q.bz few.2 nr Q.q.t)
  have XR := Lib.hid (fun (W : World) (Q : FnS w W B k x y) => rKBars_any k B W Q.q.bz few.2 Q.q.t)
  have BD := Lib.hid (fun (i : Nat) (hi : i < barN k k.t.rn) => near_bar nr i hi)
  have BN := Lib.hid (show barN k k.t.rn ≤ 1980 by have := barN_le k (q := 99) (fun i hi => by have := few.2.2.2.2 i hi; omega) (m := k.t.rn) (Nat.le_refl _); have := few.2.2.1; omega)
  clear few nr
  generalize barN k k.t.rn = N at *
  generalize barG k = g at *
  go_enter Try.func3, Try.ntmps3
  go_wp2_with fail
  refine calls_gen (S := fun W => FnS w W B k x y) S0.out (fun W1 hS => ?_)
  have S1 := Lib.hid hS
  clear hS S0
  refine (XF.out _ S1.out).mono ?_
  rintro e w2 ⟨rfl, h⟩
  have S2 := Lib.hid (S1.out.step h)
  clear h S1 XF
  as_aux_lemma =>
  have cs := tk_of S2.out.q.c
  unfold TKc at cs
  obtain ⟨c00, c01, c02, c03, c04, c05, c06, c07, c08, c09, c10, c11, c12, c13, c14, c15⟩ := cs
  go_wp2_with fail
  refine (XN.out _ S2.out).mono ?_
  rintro e w3 ⟨rfl, h⟩
  have S3 := Lib.hid (S2.out.step h)
  clear c00 c01 c02 c03 c04 c05 c06 c07 c08 c09 c10 c11 c12 c13 c14 c15
  clear h S2 XN
  as_aux_lemma =>
  have cs := tk_of S3.out.q.c
  unfold TKc at cs
  obtain ⟨c00, c01, c02, c03, c04, c05, c06, c07, c08, c09, c10, c11, c12, c13, c14, c15⟩ := cs
  go_wp2_with fail
  refine (XW.out _ S3.out).mono ?_
  rintro e w4 ⟨⟨f, rfl, hF⟩, h⟩
  have S4 := Lib.hid (S3.out.step h)
  have P4 := Lib.hid hF
  clear c00 c01 c02 c03 c04 c05 c06 c07 c08 c09 c10 c11 c12 c13 c14 c15
  clear h hF S3 XW
  as_aux_lemma =>
  have cs := tk_of S4.out.q.c
  unfold TKc at cs
  obtain ⟨c00, c01, c02, c03, c04, c05, c06, c07, c08, c09, c10, c11, c12, c13, c14, c15⟩ := cs
  go_wp2_with fail
  refine (XR.out _ S4.out).mono ?_
  rintro e w5 ⟨a, c, rfl, hD, h, -⟩
  have S5 := Lib.hid (S4.out.step h)
  have P5 := Lib.hid (F.step P4.out h)
  have D5 := Lib.hid hD
  clear c00 c01 c02 c03 c04 c05 c06 c07 c08 c09 c10 c11 c12 c13 c14 c15
  clear h hD S4 P4 XR
  have S6 := Lib.hid (S5.out.step (Below.refl _ _).drew)
  have P6 := Lib.hid (F.step P5.out (Below.refl _ _).drew)
  have D6 := Lib.hid (D5.out.step (Below.refl _ _).drew)
  clear S5 P5 D5
  as_aux_lemma =>
  go_wp2_with fail
  refine wp_region_held_drew (S := fun W => W.cell? ⟨w.heap.size + 1, 0, none⟩ = some (.int .i64 x) ∧ W.cell? ⟨w.heap.size + 1, 1, none⟩ = some (.int .i64 y)) (by kernel_rfl) S6.out.held (fun hHeld => ?_)
  generalize World.drew _ = w6 at *
  refine tkD 0 23 (v := ?_) ?_ hHeld ?_
  rotate_left 1
  (intro W hSw; (try dsimp only at hSw); go_simp; try with_reducible rfl)
  (try simp only [putA, putB, putC, putD])
  refine tkD 3 26 (v := ?_) ?_ hHeld ?_
  rotate_left 1
  (intro W hSw; (try dsimp only at hSw); go_simp; try with_reducible rfl)
  (try simp only [putA, putB, putC, putD])
  refine tkD 4 27 (v := ?_) ?_ hHeld ?_
  rotate_left 1
  (intro W hSw; (try dsimp only at hSw); go_simp; try with_reducible rfl)
  (try simp only [putA, putB, putC, putD])
  refine onlD 1 (fun K hK => ?_)
  go_simp
  refine (HC.out.bars N g _ _ f _ (by have := BN.out; omega) P6.out).mono ?_
  rintro e w7 ⟨⟨a7, c7, rfl, -⟩, h⟩
  have S7 := Lib.hid (S6.out.step h)
  have P7 := Lib.hid (F.step P6.out h)
  have D7 := Lib.hid (D6.out.step h)
  clear h S6 P6 D6
  go_wp2_with fail
  refine hK.out _ _ (S7.out.held) ?_
  clear hK K hHeld
  intro hHeld
  refine tkD 2 25 (v := ?_) ?_ hHeld ?_
  rotate_left 1
  (intro W hSw; (try dsimp only at hSw); go_simp; try with_reducible rfl)
  (try simp only [putA, putB, putC, putD])
  refine tkD 5 28 (v := ?_) ?_ hHeld ?_
  rotate_left 1
  (intro W hSw; (try dsimp only at hSw); go_simp; try with_reducible rfl)
  (try simp only [putA, putB, putC, putD])
  refine tkD 6 29 (v := ?_) ?_ hHeld ?_
  rotate_left 1
  (intro W hSw; (try dsimp only at hSw); go_simp; try with_reducible rfl)
  (try simp only [putA, putB, putC, putD])
  refine tkD 7 30 (v := ?_) ?_ hHeld ?_
  rotate_left 1
  (intro W hSw; (try dsimp only at hSw); go_simp; try with_reducible rfl)
  (try simp only [putA, putB, putC, putD])
  refine tkD 8 31 (v := ?_) ?_ hHeld ?_
  rotate_left 1
  (intro W hSw; (try dsimp only at hSw); go_simp; try with_reducible rfl)
  (try simp only [putA, putB, putC, putD])
  refine tkD 9 32 (v := ?_) ?_ hHeld ?_
  rotate_left 1
  (intro W hSw; (try dsimp only at hSw); go_simp; try with_reducible rfl)
  (try simp only [putA, putB, putC, putD])
  refine tkD 11 34 (v := ?_) ?_ hHeld ?_
  rotate_left 1
  (intro W hSw; (try dsimp only at hSw); go_simp; try with_reducible rfl)
  (try simp only [putA, putB, putC, putD])
  refine tkD 12 35 (v := ?_) ?_ hHeld ?_
  rotate_left 1
  (intro W hSw; (try dsimp only at hSw); go_simp; try with_reducible rfl)
  (try simp only [putA, putB, putC, putD])
  refine tkD 13 36 (v := ?_) ?_ hHeld ?_
  rotate_left 1
  (intro W hSw; (try dsimp only at hSw); go_simp; try with_reducible rfl)
  (try simp only [putA, putB, putC, putD])
  refine onlD 10 (fun K hK => ?_)
  go_simp
  refine (HC.out.around N g x y far _ _ f _ (by have := BN.out; omega) BD.out HX.out P7.out).mono ?_
  rintro e w8 ⟨⟨v8, rfl, hL⟩, h⟩
  have S8 := Lib.hid (S7.out.step h)
  have D8 := Lib.hid (D7.out.step h)
  have L8 := Lib.hid hL
  clear h hL S7 P7 D7 HC
  go_wp2_with fail
  refine hK.out _ _ (S8.out.held) ?_
  clear hK K hHeld
  intro hHeld
  refine onlD 14 (fun K hK => ?_)
  go_simp
  refine (rAround_any a N c g x y far _ (by have := BN.out; omega) D8.out BD.out (wf_in HX.out.1) (wf_in HX.out.2.1)).mono ?_
  rintro e w9 ⟨⟨v9, rfl, hL⟩, h⟩
  have S9 := Lib.hid (S8.out.step h)
  have L9 := Lib.hid (L8.out.step h)
  have M9 := Lib.hid hL.intsL
  clear h hL S8 D8 L8
  go_wp2_with fail
  refine hK.out _ _ (S9.out.held) ?_
  clear hK K hHeld
  intro hHeld
  refine onlD 15 (fun K hK => ?_)
  go_simp
  refine (ints16_any v8 v9 _ _ (by unfold arnI; split; exact Nat.le_trans (selI_len _ _) (by have := BN.out; omega); simp) L9.out M9.out).mono ?_
  rintro e w10 ⟨rfl, h⟩
  have S10 := Lib.hid (S9.out.step h)
  clear h S9 L9 M9
  go_wp2_with fail
  refine hK.out _ _ (S10.out.held) ?_
  clear hK K hHeld
  intro hHeld
  refine tkD 16 39 (v := ?_) ?_ hHeld ?_
  rotate_left 1
  (intro W hSw; (try dsimp only at hSw); go_simp; try with_reducible rfl)
  (try simp only [putA, putB, putC, putD])
  refine tkD 17 40 (v := ?_) ?_ hHeld ?_
  rotate_left 1
  (intro W hSw; (try dsimp only at hSw); go_simp; try with_reducible rfl)
  (try simp only [putA, putB, putC, putD])
  refine onlD 18 (fun K hK => ?_)
  go_simp
  refine (HA.out _).mono ?_
  rintro e w11 ⟨rfl, h⟩
  have S11 := Lib.hid (S10.out.step h)
  clear h S10 HA
  go_wp2_with fail
  refine hK.out _ _ (S11.out.held) ?_
  clear hK K hHeld
  intro hHeld
  refine tkD 19 42 (v := ?_) ?_ hHeld ?_
  rotate_left 1
  (intro W hSw; (try dsimp only at hSw); go_simp; try with_reducible rfl)
  (try simp only [putA, putB, putC, putD])
  refine tkD 20 6 (v := ?_) ?_ hHeld ?_
  rotate_left 1
  (intro W hSw; (try dsimp only at hSw); go_simp; try with_reducible rfl)
  (try simp only [putA, putB, putC, putD])
  refine wpAnyH_done (by kernel_rfl) ?_ _
  clear hHeld
  go_wp2
  go_ret
  exact ⟨rfl, S11.out.q.l⟩
end Go.Proofs.Ytllkhgcokbpggaa

/- The walk of FenceBehind: awake stands as a condition. -/
import Derived.Test.YtllkhgcokbpggaaVk
namespace Go.Proofs.Ytllkhgcokbpggaa
open Go.RowKit
set_option linter.unusedVariables false
set_option linter.unusedSimpArgs false

theorem FnS.both {w W : World} {B : Nat} {k : Tk} {x y : Int} (S : FnS w W B k x y) : TKc w.heap.size k.t W ∧ (W.cell? ⟨w.heap.size + 1, 0, none⟩ = some (.int .i64 x) ∧ W.cell? ⟨w.heap.size + 1, 1, none⟩ = some (.int .i64 y)) := ⟨tk_of S.q.c, S.held⟩
set_option maxRecDepth 100000 in
set_option maxHeartbeats 4000000 in
theorem fbehind_walk (F : FenT) (C : FenceC F) (A : FnAw) (k : Tk) (B : Nat) (x y deep : Int) (w : World) (hB : B ≤ w.heap.size) (hx : In64 x ∧ In64 y ∧ In64 deep) (K : TkM B w k) :
    Calls Try.prog 5 #[trkV k.t, .agg #[.int .i64 x, .int .i64 y], .int .i64 deep] w fun e w' => e = .returned (.bool true) ∧ Below w.heap.size w w' := by
  have S0 := Lib.hid (FnS.mk (k := k) (B := B) ((PK.new 34 K hB).step ((Below.refl _ _).alloc (Nat.le_refl _) (.cells #[.int .i64 x, .int .i64 y] 24))) (BW.new _ (w.heap.size + 1) [.int .i64 x, .int .i64 y] 24 (by simp)))
  have XF := Lib.hid (fun (W : World) (Q : FnS w W B k x y) => kfew_any k B W Q.q.bz Q.q.t)
  have HC := Lib.hid C
  have HA := Lib.hid A
  have HX := Lib.hid hx
  clear K hB C A hx
  by_cases few : fewK k
  rotate_left
  · rw [decide_eq_false few] at XF
    clear few HC HA
    go_enter Try.func5, Try.ntmps5
    go_wp2_with fail
    refine calls_gen (S := fun W => FnS w W B k x y) S0.out (fun W1 hS => ?_)
    have S1 := Lib.hid hS
    clear hS S0
    refine (XF.out _ S1.out).mono ?_
    rintro e w2 ⟨rfl, h⟩
    have S2 := Lib.hid (S1.out.step h)
    clear h S1 XF
    go_wp2
    go_ret
    exact ⟨rfl, S2.out.q.l⟩
  rw [decide_eq_true few] at XF
  have XN := Lib.hid (fun (W : World) (Q : FnS w W B k x y) => fnear16_any k B W Q.q.bz few.2 Q.q.t)
  by_cases nr : nearT k
  rotate_left
  · rw [decide_eq_false nr] at XN
    clear few HC HA nr
    go_enter Try.func5, Try.ntmps5
    go_wp2_with fail
    refine calls_gen (S := fun W => FnS w W B k x y) S0.out (fun W1 hS => ?_)
    have S1 := Lib.hid hS
    clear hS S0
    refine (XF.out _ S1.out).mono ?_
    rintro e w2 ⟨rfl, h⟩
    have S2 := Lib.hid (S1.out.step h)
    clear h S1 XF
    have cs := tk_of S2.out.q.c
    unfold TKc at cs
    obtain ⟨c00, c01, c02, c03, c04, c05, c06, c07, c08, c09, c10, c11, c12, c13, c14, c15⟩ := cs
    go_wp2_with fail
    refine (XN.out _ S2.out).mono ?_
    rintro e w3 ⟨rfl, h⟩
    have S3 := Lib.hid (S2.out.step h)
    clear c00 c01 c02 c03 c04 c05 c06 c07 c08 c09 c10 c11 c12 c13 c14 c15
    clear h S2 XN
    go_wp2
    go_ret
    exact ⟨rfl, S3.out.q.l⟩
  rw [decide_eq_true nr] at XN
  have XW := Lib.hid (fun (W : World) (Q : FnS w W B k x y) => HC.out.new k B W Q.q.bz few.2 nr Q.q.t)
  have XR := Lib.hid (fun (W : World) (Q : FnS w W B k x y) => rKBars_any k B W Q.q.bz few.2 Q.q.t)
  have BD := Lib.hid (fun (i : Nat) (hi : i < barN k k.t.rn) => near_bar nr i hi)
  have BN := Lib.hid (show barN k k.t.rn ≤ 1980 by have := barN_le k (q := 99) (fun i hi => by have := few.2.2.2.2 i hi; omega) (m := k.t.rn) (Nat.le_refl _); have := few.2.2.1; omega)
  clear few nr
  generalize barN k k.t.rn = N at *
  generalize barG k = g at *
  go_enter Try.func5, Try.ntmps5
  go_wp2_with fail
  refine calls_gen (S := fun W => FnS w W B k x y) S0.out (fun W1 hS => ?_)
  have S1 := Lib.hid hS
  clear hS S0
  refine (XF.out _ S1.out).mono ?_
  rintro e w2 ⟨rfl, h⟩
  have S2 := Lib.hid (S1.out.step h)
  clear h S1 XF
  as_aux_lemma =>
  have cs := tk_of S2.out.q.c
  unfold TKc at cs
  obtain ⟨c00, c01, c02, c03, c04, c05, c06, c07, c08, c09, c10, c11, c12, c13, c14, c15⟩ := cs
  go_wp2_with fail
  refine (XN.out _ S2.out).mono ?_
  rintro e w3 ⟨rfl, h⟩
  have S3 := Lib.hid (S2.out.step h)
  clear c00 c01 c02 c03 c04 c05 c06 c07 c08 c09 c10 c11 c12 c13 c14 c15
  clear h S2 XN
  as_aux_lemma =>
  have cs := tk_of S3.out.q.c
  unfold TKc at cs
  obtain ⟨c00, c01, c02, c03, c04, c05, c06, c07, c08, c09, c10, c11, c12, c13, c14, c15⟩ := cs
  go_wp2_with fail
  refine (XW.out _ S3.out).mono ?_
  rintro e w4 ⟨⟨f, rfl, hF⟩, h⟩
  have S4 := Lib.hid (S3.out.step h)
  have P4 := Lib.hid hF
  clear c00 c01 c02 c03 c04 c05 c06 c07 c08 c09 c10 c11 c12 c13 c14 c15
  clear h hF S3 XW
  as_aux_lemma =>
  have XB := Lib.hid (HC.out.behind N g x y deep _ _ f _ (by have := BN.out; omega) BD.out HX.out P4.out)
  have VB := Lib.hid (fun (W : World) (a : Option Addr) (c : Nat) (D : Brs W a N c g) => rBehind16_any a N c g x y deep W (by have := BN.out; omega) D)
  obtain ⟨d0, d1⟩ := S4.out.held
  generalize (behF g N x y deep) = m at *
  obtain ⟨m1, m2⟩ := m
  dsimp only at XB VB
  go_wp2_with fail
  refine XB.out.mono ?_
  rintro e w5 ⟨rfl, h⟩
  have S5 := Lib.hid (S4.out.step h)
  clear h S4 P4 XB HC d0 d1
  have S6 := Lib.hid (S5.out.step (Below.refl _ _).drew)
  clear S5
  go_wp2_with fail
  refine wp_region_held_drew (S := fun W => TKc w.heap.size k.t W ∧ (W.cell? ⟨w.heap.size + 1, 0, none⟩ = some (.int .i64 x) ∧ W.cell? ⟨w.heap.size + 1, 1, none⟩ = some (.int .i64 y))) (by kernel_rfl) S6.out.both (fun hHeld => ?_)
  generalize World.drew _ = w6 at *
  refine tkD 0 32 (v := ?_) ?_ hHeld ?_
  rotate_left 1
  (intro W hSw; (try dsimp only [TKc] at hSw); go_simp; try with_reducible rfl)
  (try simp only [putA, putB, putC, putD])
  refine tkD 2 34 (v := ?_) ?_ hHeld ?_
  rotate_left 1
  (intro W hSw; (try dsimp only [TKc] at hSw); go_simp; try with_reducible rfl)
  (try simp only [putA, putB, putC, putD])
  refine tkD 3 35 (v := ?_) ?_ hHeld ?_
  rotate_left 1
  (intro W hSw; (try dsimp only [TKc] at hSw); go_simp; try with_reducible rfl)
  (try simp only [putA, putB, putC, putD])
  refine onlD 1 (fun K hK => ?_)
  go_simp
  refine (XR.out _ S6.out).mono ?_
  rintro e w7 ⟨a, c, rfl, hD, h, -⟩
  have S7 := Lib.hid (S6.out.step h)
  have D7 := Lib.hid hD
  clear h hD S6 XR
  go_wp2_with fail
  refine hK.out _ _ (S7.out.both) ?_
  clear hK K hHeld
  intro hHeld
  refine onlD 4 (fun K hK => ?_)
  go_simp
  refine (VB.out _ a c D7.out).mono ?_
  rintro e w8 ⟨rfl, h⟩
  have S8 := Lib.hid (S7.out.step h)
  clear h S7 D7 VB
  go_wp2_with fail
  refine hK.out _ _ (S8.out.both) ?_
  clear hK K hHeld
  intro hHeld
  refine tkD 5 31 (v := ?_) ?_ hHeld ?_
  rotate_left 1
  (intro W hSw; (try dsimp only [TKc] at hSw); go_simp; try with_reducible rfl)
  (try simp only [putA, putB, putC, putD])
  refine tkD 6 37 (v := ?_) ?_ hHeld ?_
  rotate_left 1
  (intro W hSw; (try dsimp only [TKc] at hSw); go_simp; try with_reducible rfl)
  (try simp only [putA, putB, putC, putD])
  refine tkD 7 38 (v := ?_) ?_ hHeld ?_
  rotate_left 1
  (intro W hSw; (try dsimp only [TKc] at hSw); go_simp; try with_reducible rfl)
  (try simp only [putA, putB, putC, putD])
  refine tkD 8 10 (v := ?_) ?_ hHeld ?_
  rotate_left 1
  (intro W hSw; (try dsimp only [TKc] at hSw); go_simp; try with_reducible rfl)
  (try simp only [putA, putB, putC, putD])
  refine tkD 9 11 (v := ?_) ?_ hHeld ?_
  rotate_left 1
  (intro W hSw; (try dsimp only [TKc] at hSw); go_simp; try with_reducible rfl)
  (try simp only [putA, putB, putC, putD])
  refine wpAnyH_done (by kernel_rfl) ?_ _
  clear hHeld
  have b1 : (m1 == m1) = true := beq_self_eq_true _
  have b2 : (m2 == m2) = true := beq_self_eq_true _
  go_wp2_with fail
  refine (HA.out _).mono ?_
  rintro e w9 ⟨rfl, h⟩
  have S9 := Lib.hid (S8.out.step h)
  clear h S8
  go_wp2
  go_ret
  exact ⟨rfl, S9.out.q.l⟩
end Go.Proofs.Ytllkhgcokbpggaa

/- The walk of FenceTurns: awake, and what package plane tells of Meets, stand as conditions. -/
import Derived.Test.YtllkhgcokbpggaaVm
namespace Go.Proofs.Ytllkhgcokbpggaa
open Go.RowKit
set_option linter.unusedVariables false
set_option linter.unusedSimpArgs false

/-- what package plane tells of Meets -/
def PlMts : Prop := ∀ (ax ay bx by' px py qx qy : Int) (w : World), Calls Try.prog 20 #[.agg #[.int .i64 ax, .int .i64 ay], .agg #[.int .i64 bx, .int .i64 by'], .agg #[.int .i64 px, .int .i64 py], .agg #[.int .i64 qx, .int .i64 qy]] w fun e w' => e = .returned (.bool (meetsP ⟨ax, ay⟩ ⟨bx, by'⟩ ⟨px, py⟩ ⟨qx, qy⟩)) ∧ Below w.heap.size w w'
theorem brk_at {g : Nat → Fv} {N : Nat} {px py qx qy : Int} {i : Nat} (h : i < (brkI g N px py qx qy).length) : ∃ k : Nat, (brkI g N px py qx qy).getD i 0 = k ∧ k < N ∧ brP (g k) px py qx qy := by
  have m : (brkI g N px py qx qy).getD i 0 ∈ brkI g N px py qx qy := by
    rw [List.getD_eq_getElem?_getD, List.getElem?_eq_getElem h]
    exact List.getElem_mem h
  have e : brkI g N px py qx qy = selI (fun i => decide (brP (g i) px py qx qy)) N := by
    unfold brkI at h ⊢
    split
    · rfl
    · rename_i c; rw [if_neg c] at h; cases h
  rw [e] at m
  obtain ⟨k, e2, l, p⟩ := selI_mem m
  rw [e]
  exact ⟨k, e2, l, of_decide_eq_true p⟩
/-- three lists beside the copies -/
structure FtS (w W : World) (B : Nat) (k : Tk) (px py qx qy : Int) (a : Option Addr) (N c : Nat) (g : Nat → Fv) (u v : Value) (L M : List Int) : Prop where
  s : FnD w W B k px py qx qy
  d : Brs W a N c g
  l : IntsL W u L
  m : IntsL W v M
theorem FtS.step {w W W' : World} {B : Nat} {k : Tk} {px py qx qy : Int} {a : Option Addr} {N c : Nat} {g : Nat → Fv} {u v : Value} {L M : List Int} (S : FtS w W B k px py qx qy a N c g u v L M) (h : Below W.heap.size W W') : FtS w W' B k px py qx qy a N c g u v L M := ⟨S.s.step h, S.d.step h, S.l.step h, S.m.step h⟩
set_option maxRecDepth 100000 in
set_option maxHeartbeats 4000000 in
theorem fturns_walk (F : FenT) (C : FenceC F) (A : FnAw) (PM : PlMts) (k : Tk) (B : Nat) (px py qx qy : Int) (w : World) (hB : B ≤ w.heap.size) (hx : (In64 px ∧ In64 py) ∧ In64 qx ∧ In64 qy) (K : TkM B w k) :
    Calls Try.prog 6 #[trkV k.t, .agg #[.int .i64 px, .int .i64 py], .agg #[.int .i64 qx, .int .i64 qy]] w fun e w' => e = .returned (.bool true) ∧ Below w.heap.size w w' := by
  have HM := Lib.hid PM
  clear PM
  have S0 := Lib.hid (FnD.new (k := k) px py qx qy 34 24 K hB)
  have XF := Lib.hid (fun (W : World) (Q : FnD w W B k px py qx qy) => kfew_any k B W Q.q.bz Q.q.t)
  have HC := Lib.hid C
  have HA := Lib.hid A
  have HX := Lib.hid hx
  clear K hB C A hx
  by_cases few : fewK k
  rotate_left
  · rw [decide_eq_false few] at XF
    clear few HC HA
    go_enter Try.func6, Try.ntmps6
    go_wp2_with fail
    refine calls_gen (S := fun W => FnD w W B k px py qx qy) S0.out (fun W1 hS => ?_)
    have S1 := Lib.hid hS
    clear hS S0
    refine (XF.out _ S1.out).mono ?_
    rintro e w2 ⟨rfl, h⟩
    have S2 := Lib.hid (S1.out.step h)
    clear h S1 XF
    go_wp2
    go_ret
    exact ⟨rfl, S2.out.q.l⟩
  rw [decide_eq_true few] at XF
  have XN := Lib.hid (fun (W : World) (Q : FnD w W B k px py qx qy) => fnear16_any k B W Q.q.bz few.2 Q.q.t)
  by_cases nr : nearT k
  rotate_left
  · rw [decide_eq_false nr] at XN
    clear few HC HA nr
    go_enter Try.func6, Try.ntmps6
    go_wp2_with fail
    refine calls_gen (S := fun W => FnD w W B k px py qx qy) S0.out (fun W1 hS => ?_)
    have S1 := Lib.hid hS
    clear hS S0
    refine (XF.out _ S1.out).mono ?_
    rintro e w2 ⟨rfl, h⟩
    have S2 := Lib.hid (S1.out.step h)
    clear h S1 XF
    have cs := tk_of S2.out.q.c
    unfold TKc at cs
    obtain ⟨c00, c01, c02, c03, c04, c05, c06, c07, c08, c09, c10, c11, c12, c13, c14, c15⟩ := cs
    go_wp2_with fail
    refine (XN.out _ S2.out).mono ?_
    rintro e w3 ⟨rfl, h⟩
    have S3 := Lib.hid (S2.out.step h)
    clear c00 c01 c02 c03 c04 c05 c06 c07 c08 c09 c10 c11 c12 c13 c14 c15
    clear h S2 XN
    go_wp2
    go_ret
    exact ⟨rfl, S3.out.q.l⟩
  rw [decide_eq_true nr] at XN
  have XW := Lib.hid (fun (W : World) (Q : FnD w W B k px py qx qy) => HC.out.new k B W Q.q.bz few.2 nr Q.q.t)
  have XR := Lib.hid (fun (W : World) (Q : FnD w W B k px py qx qy) => rKBars_any k B W Q.q.bz few.2 Q.q.t)
  have BD := Lib.hid (fun (i : Nat) (hi : i < barN k k.t.rn) => near_bar nr i hi)
  have BN := Lib.hid (show barN k k.t.rn ≤ 1980 by have := barN_le k (q := 99) (fun i hi => by have := few.2.2.2.2 i hi; omega) (m := k.t.rn) (Nat.le_refl _); have := few.2.2.1; omega)
  clear few nr
  generalize barN k k.t.rn = N at *
  generalize barG k = g at *
  go_enter Try.func6, Try.ntmps6
  go_wp2_with fail
  refine calls_gen (S := fun W => FnD w W B k px py qx qy) S0.out (fun W1 hS => ?_)
  have S1 := Lib.hid hS
  clear hS S0
  refine (XF.out _ S1.out).mono ?_
  rintro e w2 ⟨rfl, h⟩
  have S2 := Lib.hid (S1.out.step h)
  clear h S1 XF
  as_aux_lemma =>
  have cs := tk_of S2.out.q.c
  unfold TKc at cs
  obtain ⟨c00, c01, c02, c03, c04, c05, c06, c07, c08, c09, c10, c11, c12, c13, c14, c15⟩ := cs
  go_wp2_with fail
  refine (XN.out _ S2.out).mono ?_
  rintro e w3 ⟨rfl, h⟩
  have S3 := Lib.hid (S2.out.step h)
  clear c00 c01 c02 c03 c04 c05 c06 c07 c08 c09 c10 c11 c12 c13 c14 c15
  clear h S2 XN
  as_aux_lemma =>
  have cs := tk_of S3.out.q.c
  unfold TKc at cs
  obtain ⟨c00, c01, c02, c03, c04, c05, c06, c07, c08, c09, c10, c11, c12, c13, c14, c15⟩ := cs
  go_wp2_with fail
  refine (XW.out _ S3.out).mono ?_
  rintro e w4 ⟨⟨f, rfl, hF⟩, h⟩
  have S4 := Lib.hid (S3.out.step h)
  have P4 := Lib.hid hF
  clear c00 c01 c02 c03 c04 c05 c06 c07 c08 c09 c10 c11 c12 c13 c14 c15
  clear h hF S3 XW
  as_aux_lemma =>
  obtain ⟨⟨d0, d1⟩, d2, d3⟩ := S4.out.held
  go_wp2_with fail
  refine (HC.out.bars N g _ _ f _ (by have := BN.out; omega) P4.out).mono ?_
  rintro e w5 ⟨⟨a, c, rfl, hD⟩, h⟩
  have S5 := Lib.hid (S4.out.step h)
  have P5 := Lib.hid (F.step P4.out h)
  have D5 := Lib.hid hD
  clear h hD S4 P4 d0 d1 d2 d3 XR
  obtain ⟨⟨d0, d1⟩, d2, d3⟩ := S5.out.held
  go_wp2_with fail
  refine (HC.out.breaks N g px py qx qy _ _ f _ (by have := BN.out; omega) BD.out HX.out P5.out).mono ?_
  rintro e w6 ⟨⟨u, rfl, hL⟩, h⟩
  have S6 := Lib.hid (S5.out.step h)
  have P6 := Lib.hid (F.step P5.out h)
  have D6 := Lib.hid (D5.out.step h)
  have L6 := Lib.hid hL
  clear h hL S5 P5 D5 d0 d1 d2 d3
  obtain ⟨⟨d0, d1⟩, d2, d3⟩ := S6.out.held
  go_wp2_with fail
  refine (HC.out.breaks N g qx qy px py _ _ f _ (by have := BN.out; omega) BD.out ⟨HX.out.2, HX.out.1⟩ P6.out).mono ?_
  rintro e w7 ⟨⟨v, rfl, hL⟩, h⟩
  have T7 := Lib.hid (FtS.mk (S6.out.step h) (D6.out.step h) (L6.out.step h) hL)
  clear h hL S6 P6 D6 L6 d0 d1 d2 d3
  have LA := Lib.hid (fun (i : Nat) (hi : i < (brkI g N px py qx qy).length) => brk_at hi)
  have LB := Lib.hid (fun (i : Nat) (hi : i < (brkI g N qx qy px py).length) => brk_at hi)
  have nl : (brkI g N px py qx qy).length ≤ 2000 ∧ (brkI g N qx qy px py).length ≤ 2000 := by
    have := BN.out
    unfold brkI
    constructor
    · split
      · exact Nat.le_trans (selI_len _ _) (by omega)
      · simp
    · split
      · exact Nat.le_trans (selI_len _ _) (by omega)
      · simp
  generalize brkI g N px py qx qy = L at *
  generalize brkI g N qx qy px py = M at *
  obtain ⟨ua, uc, rfl, -⟩ := T7.out.l
  obtain ⟨va, vc, rfl, -⟩ := T7.out.m
  have bn := BN.out
  as_aux_lemma =>
  go_wp2
  go_loopw [11] (fun i wr => ∃ j : Nat, j ≤ L.length ∧ i = .int .i64 j ∧ FtS w wr B k px py qx qy a N c g (.slice ua L.length uc) (.slice va M.length vc) L M) (fun i _ => L.length - (intOf i).toNat)
  case atStart => exact ⟨0, by omega, rfl, T7.out⟩
  case round =>
    obtain ⟨j, hj, rfl, hS⟩ := hrel
    have T8 := Lib.hid hS
    clear hS T7
    by_cases hlt : j < L.length
    · have z0 : (0 : Int) ≤ (j : Int) := by omega
      have z1 : (j : Int) < (L.length : Int) := by omega
      obtain ⟨k1, e1, l1, b1⟩ := LA.out j hlt
      have y0 : (0 : Int) ≤ (k1 : Int) := by omega
      have y1 : (k1 : Int) < (N : Int) := by omega
      have T9 := Lib.hid (T8.out.step (Below.refl _ _).drew)
      obtain ⟨a', c', e', hc⟩ := T8.out.l
      cases e'
      obtain ⟨lb, lo, rfl, -, -⟩ := hc (by omega)
      obtain ⟨bb, bo, rfl, -, -⟩ := T8.out.d.at' (by omega)
      have CL := Lib.hid (fun (W : World) (Q : FtS w W B k px py qx qy (some ⟨bb, bo, none⟩) N c g (.slice (some ⟨lb, lo, none⟩) L.length uc) (.slice va M.length vc) L M) => show W.cell? ⟨lb, lo + j, none⟩ = some (.int .i64 (k1 : Int)) ∧ ((W.cell? ⟨bb, bo + k1 * 5, none⟩ = some (.int .i64 (g k1).ax) ∧ W.cell? ⟨bb, bo + k1 * 5 + 1, none⟩ = some (.int .i64 (g k1).ay)) ∧ (W.cell? ⟨bb, bo + k1 * 5 + 2, none⟩ = some (.int .i64 (g k1).bx) ∧ W.cell? ⟨bb, bo + k1 * 5 + 3, none⟩ = some (.int .i64 (g k1).by'))) ∧ (W.cell? ⟨w.heap.size + 1, 0, none⟩ = some (.int .i64 px) ∧ W.cell? ⟨w.heap.size + 1, 1, none⟩ = some (.int .i64 py)) ∧ (W.cell? ⟨w.heap.size + 1 + 1, 0, none⟩ = some (.int .i64 qx) ∧ W.cell? ⟨w.heap.size + 1 + 1, 1, none⟩ = some (.int .i64 qy)) by
        obtain ⟨a', c', e', hc⟩ := Q.l
        cases e'
        obtain ⟨b2, o2, e3, -, hk⟩ := hc (by omega)
        cases e3
        obtain ⟨b3, o3, e4, -, hb⟩ := Q.d.at' (by omega)
        cases e4
        exact ⟨by rw [← e1]; exact hk j hlt, ⟨(hb k1 l1).1, (hb k1 l1).2.1⟩, Q.s.held⟩)
      have V := Lib.hid (fun (W : World) => HM.out (g k1).ax (g k1).ay (g k1).bx (g k1).by' px py qx qy W)
      rw [b1.2] at V
      have n1 : decide ((k1 : Int) < 0) = false := decide_eq_false (by omega)
      have n2 : decide ((N : Int) ≤ (k1 : Int)) = false := decide_eq_false (by omega)
      have n3 : decide (N ≤ k1) = false := decide_eq_false (by omega)
      have n4 : decide (k1 < N) = true := decide_eq_true (by omega)
      have LAx := LA
      clear T8 hc
      go_wp2_with fail
      refine wp_region_held_drew (S := fun W => W.cell? ⟨lb, lo + j, none⟩ = some (.int .i64 (k1 : Int)) ∧ ((W.cell? ⟨bb, bo + k1 * 5, none⟩ = some (.int .i64 (g k1).ax) ∧ W.cell? ⟨bb, bo + k1 * 5 + 1, none⟩ = some (.int .i64 (g k1).ay)) ∧ (W.cell? ⟨bb, bo + k1 * 5 + 2, none⟩ = some (.int .i64 (g k1).bx) ∧ W.cell? ⟨bb, bo + k1 * 5 + 3, none⟩ = some (.int .i64 (g k1).by'))) ∧ (W.cell? ⟨w.heap.size + 1, 0, none⟩ = some (.int .i64 px) ∧ W.cell? ⟨w.heap.size + 1, 1, none⟩ = some (.int .i64 py)) ∧ (W.cell? ⟨w.heap.size + 1 + 1, 0, none⟩ = some (.int .i64 qx) ∧ W.cell? ⟨w.heap.size + 1 + 1, 1, none⟩ = some (.int .i64 qy))) (by kernel_rfl) (CL.out _ T9.out) (fun hHeld => ?_)
      generalize World.drew _ = w9 at *
      refine tkD 0 42 (v := ?_) ?_ hHeld ?_
      rotate_left 1
      (intro W hSw; (try dsimp only at hSw); go_simp; try with_reducible rfl)
      (try simp only [putA, putB, putC, putD])
      refine tkD 1 43 (v := ?_) ?_ hHeld ?_
      rotate_left 1
      (intro W hSw; (try dsimp only at hSw); go_simp; try with_reducible rfl)
      (try simp only [putA, putB, putC, putD])
      refine tkD 2 44 (v := ?_) ?_ hHeld ?_
      rotate_left 1
      (intro W hSw; (try dsimp only at hSw); go_simp; try with_reducible rfl)
      (try simp only [putA, putB, putC, putD])
      refine tkD 3 45 (v := ?_) ?_ hHeld ?_
      rotate_left 1
      (intro W hSw; (try dsimp only at hSw); go_simp; try with_reducible rfl)
      (try simp only [putA, putB, putC, putD])
      refine tkD 4 46 (v := ?_) ?_ hHeld ?_
      rotate_left 1
      (intro W hSw; (try dsimp only at hSw); go_simp; try with_reducible rfl)
      (try simp only [putA, putB, putC, putD])
      refine tkD 5 47 (v := ?_) ?_ hHeld ?_
      rotate_left 1
      (intro W hSw; (try dsimp only at hSw); go_simp; try with_reducible rfl)
      (try simp only [putA, putB, putC, putD])
      refine tkD 6 48 (v := ?_) ?_ hHeld ?_
      rotate_left 1
      (intro W hSw; (try dsimp only at hSw); go_simp; try with_reducible rfl)
      (try simp only [putA, putB, putC, putD])
      refine tkD 7 49 (v := ?_) ?_ hHeld ?_
      rotate_left 1
      (intro W hSw; (try dsimp only at hSw); go_simp; try with_reducible rfl)
      (try simp only [putA, putB, putC, putD])
      refine tkD 8 50 (v := ?_) ?_ hHeld ?_
      rotate_left 1
      (intro W hSw; (try dsimp only at hSw); go_simp; try with_reducible rfl)
      (try simp only [putA, putB, putC, putD])
      refine tkD 9 51 (v := ?_) ?_ hHeld ?_
      rotate_left 1
      (intro W hSw; (try dsimp only at hSw); go_simp; try with_reducible rfl)
      (try simp only [putA, putB, putC, putD])
      refine tkD 10 52 (v := ?_) ?_ hHeld ?_
      rotate_left 1
      (intro W hSw; (try dsimp only at hSw); go_simp; try with_reducible rfl)
      (try simp only [putA, putB, putC, putD])
      refine tkD 11 53 (v := ?_) ?_ hHeld ?_
      rotate_left 1
      (intro W hSw; (try dsimp only at hSw); go_simp; try with_reducible rfl)
      (try simp only [putA, putB, putC, putD])
      refine tkD 12 54 (v := ?_) ?_ hHeld ?_
      rotate_left 1
      (intro W hSw; (try dsimp only at hSw); go_simp; try with_reducible rfl)
      (try simp only [putA, putB, putC, putD])
      refine tkD 13 55 (v := ?_) ?_ hHeld ?_
      rotate_left 1
      (intro W hSw; (try dsimp only at hSw); go_simp; try with_reducible rfl)
      (try simp only [putA, putB, putC, putD])
      refine tkD 14 56 (v := ?_) ?_ hHeld ?_
      rotate_left 1
      (intro W hSw; (try dsimp only at hSw); go_simp; try with_reducible rfl)
      (try simp only [putA, putB, putC, putD])
      refine tkD 15 57 (v := ?_) ?_ hHeld ?_
      rotate_left 1
      (intro W hSw; (try dsimp only at hSw); go_simp; try with_reducible rfl)
      (try simp only [putA, putB, putC, putD])
      refine tkD 16 58 (v := ?_) ?_ hHeld ?_
      rotate_left 1
      (intro W hSw; (try dsimp only at hSw); go_simp; try with_reducible rfl)
      (try simp only [putA, putB, putC, putD])
      refine tkD 17 59 (v := ?_) ?_ hHeld ?_
      rotate_left 1
      (intro W hSw; (try dsimp only at hSw); go_simp; try with_reducible rfl)
      (try simp only [putA, putB, putC, putD])
      refine tkD 18 60 (v := ?_) ?_ hHeld ?_
      rotate_left 1
      (intro W hSw; (try dsimp only at hSw); go_simp; try with_reducible rfl)
      (try simp only [putA, putB, putC, putD])
      refine tkD 19 61 (v := ?_) ?_ hHeld ?_
      rotate_left 1
      (intro W hSw; (try dsimp only at hSw); go_simp; try with_reducible rfl)
      (try simp only [putA, putB, putC, putD])
      refine tkD 20 62 (v := ?_) ?_ hHeld ?_
      rotate_left 1
      (intro W hSw; (try dsimp only at hSw); go_simp; try with_reducible rfl)
      (try simp only [putA, putB, putC, putD])
      refine tkD 21 63 (v := ?_) ?_ hHeld ?_
      rotate_left 1
      (intro W hSw; (try dsimp only at hSw); go_simp; try with_reducible rfl)
      (try simp only [putA, putB, putC, putD])
      refine tkD 22 64 (v := ?_) ?_ hHeld ?_
      rotate_left 1
      (intro W hSw; (try dsimp only at hSw); go_simp; try with_reducible rfl)
      (try simp only [putA, putB, putC, putD])
      refine tkD 23 65 (v := ?_) ?_ hHeld ?_
      rotate_left 1
      (intro W hSw; (try dsimp only at hSw); go_simp; try with_reducible rfl)
      (try simp only [putA, putB, putC, putD])
      refine tkD 24 66 (v := ?_) ?_ hHeld ?_
      rotate_left 1
      (intro W hSw; (try dsimp only at hSw); go_simp; try with_reducible rfl)
      (try simp only [putA, putB, putC, putD])
      refine tkD 25 67 (v := ?_) ?_ hHeld ?_
      rotate_left 1
      (intro W hSw; (try dsimp only at hSw); go_simp; try with_reducible rfl)
      (try simp only [putA, putB, putC, putD])
      refine tkD 26 68 (v := ?_) ?_ hHeld ?_
      rotate_left 1
      (intro W hSw; (try dsimp only at hSw); go_simp; try with_reducible rfl)
      (try simp only [putA, putB, putC, putD])
      refine tkD 27 69 (v := ?_) ?_ hHeld ?_
      rotate_left 1
      (intro W hSw; (try dsimp only at hSw); go_simp; try with_reducible rfl)
      (try simp only [putA, putB, putC, putD])
      refine tkD 28 70 (v := ?_) ?_ hHeld ?_
      rotate_left 1
      (intro W hSw; (try dsimp only at hSw); go_simp; try with_reducible rfl)
      (try simp only [putA, putB, putC, putD])
      refine tkD 29 71 (v := ?_) ?_ hHeld ?_
      rotate_left 1
      (intro W hSw; (try dsimp only at hSw); go_simp; try with_reducible rfl)
      (try simp only [putA, putB, putC, putD])
      refine tkD 30 72 (v := ?_) ?_ hHeld ?_
      rotate_left 1
      (intro W hSw; (try dsimp only at hSw); go_simp; try with_reducible rfl)
      (try simp only [putA, putB, putC, putD])
      refine tkD 31 73 (v := ?_) ?_ hHeld ?_
      rotate_left 1
      (intro W hSw; (try dsimp only at hSw); go_simp; try with_reducible rfl)
      (try simp only [putA, putB, putC, putD])
      refine tkD 32 74 (v := ?_) ?_ hHeld ?_
      rotate_left 1
      (intro W hSw; (try dsimp only at hSw); go_simp; try with_reducible rfl)
      (try simp only [putA, putB, putC, putD])
      refine onlD 33 (fun K hK => ?_)
      go_simp
      refine (V.out _).mono ?_
      rintro e w10 ⟨rfl, h⟩
      have T10 := Lib.hid (T9.out.step h)
      clear h T9 V
      go_wp2_with fail
      refine hK.out _ _ (CL.out _ T10.out) ?_
      clear hK K hHeld
      intro hHeld
      refine tkD 34 76 (v := ?_) ?_ hHeld ?_
      rotate_left 1
      (intro W hSw; (try dsimp only at hSw); go_simp; try with_reducible rfl)
      (try simp only [putA, putB, putC, putD])
      refine tkD 35 77 (v := ?_) ?_ hHeld ?_
      rotate_left 1
      (intro W hSw; (try dsimp only at hSw); go_simp; try with_reducible rfl)
      (try simp only [putA, putB, putC, putD])
      refine wpAnyH_done (by kernel_rfl) ?_ _
      clear hHeld
      go_wp2
      go_loopw [12] (fun i wr => ∃ m : Nat, m ≤ M.length ∧ i = .int .i64 m ∧ FtS w wr B k px py qx qy (some ⟨bb, bo, none⟩) N c g (.slice (some ⟨lb, lo, none⟩) L.length uc) (.slice va M.length vc) L M) (fun i _ => M.length - (intOf i).toNat)
      case atStart => exact ⟨0, by omega, rfl, T10.out⟩
      case round =>
        obtain ⟨m, hm, rfl, hS⟩ := hrel
        have T11 := Lib.hid hS
        clear hS T10
        by_cases hlm : m < M.length
        · have x0 : (0 : Int) ≤ (m : Int) := by omega
          have x1 : (m : Int) < (M.length : Int) := by omega
          obtain ⟨k2, e2, l2, b2⟩ := LB.out m hlm
          have ne : ((k1 : Int) == (k2 : Int)) = false := by
            refine beq_false_of_ne (fun e => ?_)
            have e : k1 = k2 := by omega
            subst e
            exact brP_turn b1 b2
          have f0 := (CL.out _ T11.out).1
          obtain ⟨a', c', e', hc⟩ := T11.out.m
          cases e'
          obtain ⟨vb, vo, rfl, -, hv⟩ := hc (by omega)
          have f1 := hv m hlm
          rw [e2] at f1
          clear hc hv
          go_wp2
          go_quiet (fail)
          go_wp2
          go_roundw
          case rel => exact ⟨m + 1, by omega, by go_num, T11.out.step (below_drewN (Below.refl _ _) _)⟩
          case measure => simp [intOf]; omega
        · have x1 : ¬ (m : Int) < (M.length : Int) := by omega
          go_wp2
          go_roundw
          case rel => exact ⟨j + 1, by omega, by go_num, T11.out⟩
          case measure => simp [intOf]; omega
    · have z1 : ¬ (j : Int) < (L.length : Int) := by omega
      obtain ⟨⟨d0, d1⟩, d2, d3⟩ := T8.out.s.held
      go_wp2_with fail
      refine (HC.out.nilBars _).mono ?_
      rintro e w9 ⟨⟨a9, c9, rfl⟩, h⟩
      have T9 := Lib.hid (T8.out.step h)
      clear h T8 d0 d1 d2 d3
      obtain ⟨⟨d0, d1⟩, d2, d3⟩ := T9.out.s.held
      go_wp2_with fail
      refine (HC.out.nilBreaks px py qx qy _ HX.out).mono ?_
      rintro e w10 ⟨⟨a10, c10, rfl⟩, h⟩
      have T10 := Lib.hid (T9.out.step h)
      clear h T9 d0 d1 d2 d3
      go_wp2_with fail
      refine (HA.out _).mono ?_
      rintro e w11 ⟨rfl, h⟩
      have T11 := Lib.hid (T10.out.step h)
      clear h T10
      go_wp2
      go_ret
      exact ⟨rfl, T11.out.s.q.l⟩
end Go.Proofs.Ytllkhgcokbpggaa

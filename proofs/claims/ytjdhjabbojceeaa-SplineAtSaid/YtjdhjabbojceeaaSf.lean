/- The contract of the document's Nearest of samples. -/
import Derived.Test.YtjdhjabbojceeaaSb
import Derived.Test.YtjdhjabbojceeaaNh
import Derived.Deep.QuietTactic
import Derived.BigQuiet
namespace Go.Proofs.Ytjdhjabbojceeaa
open Go.RowKit
set_option linter.unusedVariables false
set_option linter.unusedSimpArgs false

def bstU (X Y : Nat → Int) (px py : Int) (k : Nat) : Int := if nrU X Y px py k < 0 then 0 else dSq X Y px py (nrU X Y px py k).toNat
theorem nrU_step (X Y : Nat → Int) (px py : Int) (k : Nat) :
    (nrU X Y px py k < 0 ∨ dSq X Y px py k < bstU X Y px py k → nrU X Y px py (k + 1) = (k : Int) ∧ bstU X Y px py (k + 1) = dSq X Y px py k) ∧
    (¬ (nrU X Y px py k < 0 ∨ dSq X Y px py k < bstU X Y px py k) → nrU X Y px py (k + 1) = nrU X Y px py k ∧ bstU X Y px py (k + 1) = bstU X Y px py k) := by
  have e : nrU X Y px py (k + 1) = if nrU X Y px py k < 0 ∨ dSq X Y px py k < dSq X Y px py (nrU X Y px py k).toNat then (k : Int) else nrU X Y px py k := rfl
  unfold bstU
  by_cases h : nrU X Y px py k < 0
  · rw [if_pos h]
    rw [if_pos (Or.inl h)] at e
    rw [e]
    refine ⟨fun _ => ⟨rfl, ?_⟩, fun c => absurd (Or.inl h) c⟩
    rw [if_neg (by omega)]; rfl
  · rw [if_neg h]
    by_cases g : dSq X Y px py k < dSq X Y px py (nrU X Y px py k).toNat
    · rw [if_pos (Or.inr g)] at e
      rw [e]
      refine ⟨fun _ => ⟨rfl, ?_⟩, fun c => absurd (Or.inr g) c⟩
      rw [if_neg (by omega)]; rfl
    · rw [if_neg (by omega)] at e
      rw [e]
      exact ⟨fun c => by rcases c with c | c; exact absurd c h; exact absurd c g, fun _ => ⟨rfl, by rw [if_neg h]⟩⟩
/-- a wide number of the document as a list of cells -/
def NVL (n : Int) : List Value := [.bool (decide (n < 0)), .int .u64 (d0 n.natAbs), .int .u64 (d1 n.natAbs), .int .u64 (d2 n.natAbs), .int .u64 (d3 n.natAbs)]
theorem NVL_zero : NVL 0 = [.bool false, .int .u64 0, .int .u64 0, .int .u64 0, .int .u64 0] := by kernel_rfl
theorem dots1 {W : World} {n : Nat} {x y : Int} (B : BW W n [.int .i64 x, .int .i64 y]) (hx : In64 x) (hy : In64 y) : Dots W (some ⟨n, 0, none⟩) 1 1 (fun _ => x) (fun _ => y) :=
  ⟨by unfold maxLen; omega, by omega, fun i _ => ⟨wf_in hx, wf_in hy⟩, fun _ => ⟨n, 0, rfl, B.lt, fun i hi => by
    have e : i = 0 := by omega
    subst e
    exact B.h2'⟩⟩
theorem near1 (x y : Int) : decide (nearN 1 (fun _ => x) (fun _ => y)) = decide (Rg x ∧ Rg y) := by
  rw [decide_eq_decide]
  exact ⟨fun h => h 0 (by omega), fun h _ _ => h⟩
theorem sq_fit {x y : Int} (hx : -562949953421312 ≤ x ∧ x ≤ 562949953421312) (hy : -562949953421312 ≤ y ∧ y ≤ 562949953421312) :
    In128 (x * x) ∧ In128 (y * y) ∧ clipW (x * x + y * y) = x * x + y * y ∧ In128 (x * x + y * y) := by
  have q1 := mul_49 hx.1 hx.2 hx.1 hx.2
  have q2 := mul_49 hy.1 hy.2 hy.1 hy.2
  generalize x * x = k at *
  generalize y * y = m at *
  have i1 : In128 (k + m) := by unfold In128; omega
  refine ⟨by unfold In128; omega, by unfold In128; omega, ?_, i1⟩
  unfold clipW; rw [if_pos i1]
/-- a round of Nearest: the samples, the place in block p, the best in block q -/
structure NrW (w W : World) (a : Option Addr) (n c : Nat) (X Y : Nat → Int) (p q : Nat) (px py bst : Int) : Prop where
  d : Dots W a n c X Y
  P : BW W p [.int .i64 px, .int .i64 py]
  Q : BW W q (NVL bst)
  l : Below w.heap.size w W
  z : w.heap.size ≤ q
  e : p ≠ q
  s : 0 < n → ∀ r, a = some r → r.block < w.heap.size
theorem NrW.step {w W W' : World} {a : Option Addr} {n c : Nat} {X Y : Nat → Int} {p q : Nat} {px py bst : Int} (K : NrW w W a n c X Y p q px py bst) (h : Below W.heap.size W W') : NrW w W' a n c X Y p q px py bst :=
  ⟨K.d.below h (Nat.le_refl _), K.P.below h K.P.lt, K.Q.below h K.Q.lt, K.l.trans (h.mono K.l.size), K.z, K.e, K.s⟩
theorem NrW.put {w W : World} {a : Option Addr} {n c : Nat} {X Y : Nat → Int} {p q : Nat} {px py bst : Int} (K : NrW w W a n c X Y p q px py bst) (A : Int) :
    NrW w (((((W.setCell ⟨q, 0, none⟩ (.bool (decide (A < 0)))).setCell ⟨q, 1, none⟩ (.int .u64 (d0 A.natAbs))).setCell ⟨q, 2, none⟩ (.int .u64 (d1 A.natAbs))).setCell ⟨q, 3, none⟩ (.int .u64 (d2 A.natAbs))).setCell ⟨q, 4, none⟩ (.int .u64 (d3 A.natAbs))) a n c X Y p q px py A := by
  have B := below_put5 K.l K.z (.bool (decide (A < 0))) (.int .u64 (d0 A.natAbs)) (.int .u64 (d1 A.natAbs)) (.int .u64 (d2 A.natAbs)) (.int .u64 (d3 A.natAbs))
  have F : Below w.heap.size W (((((W.setCell ⟨q, 0, none⟩ (.bool (decide (A < 0)))).setCell ⟨q, 1, none⟩ (.int .u64 (d0 A.natAbs))).setCell ⟨q, 2, none⟩ (.int .u64 (d1 A.natAbs))).setCell ⟨q, 3, none⟩ (.int .u64 (d2 A.natAbs))).setCell ⟨q, 4, none⟩ (.int .u64 (d3 A.natAbs))) :=
    (((((Below.refl w.heap.size W).setCell (p := ⟨q, 0, none⟩) K.z _).setCell (p := ⟨q, 1, none⟩) K.z _).setCell (p := ⟨q, 2, none⟩) K.z _).setCell (p := ⟨q, 3, none⟩) K.z _).setCell (p := ⟨q, 4, none⟩) K.z _
  refine ⟨⟨K.d.hm, K.d.hl, K.d.wf, fun h0 => ?_⟩, K.P.far5 (fun e => K.e e.symm) _ _ _ _ _, K.Q.put5 _ _ _ _ _, B, K.z, K.e, K.s⟩
  obtain ⟨m, off, e, hm, hc⟩ := K.d.at' h0
  have hb : m < w.heap.size := K.s h0 _ e
  exact ⟨m, off, e, by have := F.size; omega, fun i hi => ⟨(F.cell (p := ⟨m, _, none⟩) hb).trans (hc i hi).1, (F.cell (p := ⟨m, _, none⟩) hb).trans (hc i hi).2⟩⟩
set_option maxRecDepth 100000 in
set_option maxHeartbeats 8000000 in
theorem rNearest_any (a : Option Addr) (n c : Nat) (X Y : Nat → Int) (px py : Int) (w : World) (hmax : n ≤ 1000) (D : Dots w a n c X Y) (hx : In64 px) (hy : In64 py) :
    Calls Try.prog 21 #[.slice a n c, .agg #[.int .i64 px, .int .i64 py]] w fun e w' => e = .returned (.int .i64 (nearestI n X Y px py)) ∧ Below w.heap.size w w' := by
  obtain ⟨r, hr⟩ : ∃ r, nearestI n X Y px py = r := ⟨_, rfl⟩
  rw [hr]
  have HR := Lib.hid hr
  have V1 := Lib.hid (fun (W : World) (D : Dots W a n c X Y) => rNearL_any a n c X Y W hmax D)
  have V2 := Lib.hid (fun (m : Nat) (W : World) (B : BW W m [.int .i64 px, .int .i64 py]) => rNearL_any (some ⟨m, 0, none⟩) 1 1 (fun _ => px) (fun _ => py) W (by omega) (dots1 B hx hy))
  rw [near1] at V2
  have D0 := Lib.hid (D.below ((Below.refl w.heap.size w).alloc (Nat.le_refl _) (.cells #[.int .i64 px, .int .i64 py] 32)) (Nat.le_refl _))
  have HD := Lib.hid D
  clear D hr
  by_cases h1 : nearN n X Y
  rotate_left
  · rw [decide_eq_false h1] at V1
    have E := Lib.hid (show -1 = r by rw [← HR.out]; unfold nearestI; rw [if_neg (fun k => h1 k.1)])
    clear V2 HR h1
    go_enter Try.func21, Try.ntmps21
    go_wp2_with fail
    refine (V1.out _ D0.out).mono ?_
    rintro e w1 ⟨rfl, rfl⟩
    go_wp2
    go_ret
    exact ⟨retI E.out, by repeat (first | exact Below.refl _ _ | assumption | refine Below.setCell ?_ (by first | omega | (simp; done) | (simp; omega)) _ | refine Below.alloc ?_ (by first | omega | (simp; done) | (simp; omega)) _ | refine below_drewN ?_ _ | refine Below.drew ?_ | refine Below.trans ?_ (Below.mono (by assumption) (by first | omega | (simp; done) | (simp; omega))))⟩
  rw [decide_eq_true h1] at V1
  by_cases h2 : Rg px ∧ Rg py
  rotate_left
  · rw [decide_eq_false h2] at V2
    have E := Lib.hid (show -1 = r by rw [← HR.out]; unfold nearestI; rw [if_neg (fun k => h2 k.2)])
    clear HR h1 h2
    go_enter Try.func21, Try.ntmps21
    go_wp2_with fail
    refine (V1.out _ D0.out).mono ?_
    rintro e w1 ⟨rfl, rfl⟩
    go_wp2_with fail
    refine (V2.out _ _ (BW.new _ _ [_, _] _ (by simp))).mono ?_
    rintro e w2 ⟨rfl, rfl⟩
    go_wp2
    go_ret
    exact ⟨retI E.out, by repeat (first | exact Below.refl _ _ | assumption | refine Below.setCell ?_ (by first | omega | (simp; done) | (simp; omega)) _ | refine Below.alloc ?_ (by first | omega | (simp; done) | (simp; omega)) _ | refine below_drewN ?_ _ | refine Below.drew ?_ | refine Below.trans ?_ (Below.mono (by assumption) (by first | omega | (simp; done) | (simp; omega))))⟩
  rw [decide_eq_true h2] at V2
  have E := Lib.hid (show nrU X Y px py n = r by rw [← HR.out]; unfold nearestI; rw [if_pos ⟨h1, h2⟩])
  have N1 := Lib.hid h1
  have N2 := Lib.hid h2
  clear HR h1 h2
  go_enter Try.func21, Try.ntmps21
  go_wp2_with fail
  refine (V1.out _ D0.out).mono ?_
  rintro e w1 ⟨rfl, rfl⟩
  go_wp2_with fail
  refine (V2.out _ _ (BW.new _ _ [_, _] _ (by simp))).mono ?_
  rintro e w2 ⟨rfl, rfl⟩
  go_wp2_with fail
  refine wp_gen (S := fun W => NrW w W a n c X Y w.heap.size (w.heap.size + 1 + 1) px py (bstU X Y px py 0)) ⟨(D0.out.below ((Below.refl _ _).alloc (Nat.le_refl _) _) (Nat.le_refl _)).below ((Below.refl _ _).alloc (Nat.le_refl _) _) (Nat.le_refl _), ((BW.new w w.heap.size [_, _] _ rfl).alloc _).alloc _, by rw [show bstU X Y px py 0 = 0 from rfl, NVL_zero]; exact BW.new _ _ [_, _, _, _, _] _ (by simp), by repeat (first | exact Below.refl _ _ | assumption | refine Below.setCell ?_ (by first | omega | (simp; done) | (simp; omega)) _ | refine Below.alloc ?_ (by first | omega | (simp; done) | (simp; omega)) _ | refine below_drewN ?_ _ | refine Below.drew ?_ | refine Below.trans ?_ (Below.mono (by assumption) (by first | omega | (simp; done) | (simp; omega)))), by omega, by omega, fun h0 q e => by obtain ⟨m, off, e2, hm, _⟩ := HD.out.at' h0; rw [e2] at e; cases e; exact hm⟩ (fun W1 hS => ?_)
  have K0 := Lib.hid hS
  clear hS D0 V1 V2 HD
  generalize w.heap.size + 1 + 1 = nb at *
  go_loopw [5, 7] (fun v i wr => ∃ j : Nat, j ≤ n ∧ i = .int .i64 j ∧ v = .int .i64 (nrU X Y px py j) ∧ NrW w wr a n c X Y w.heap.size nb px py (bstU X Y px py j)) (fun _ i _ => n - (intOf i).toNat)
  case atStart => exact ⟨0, by omega, rfl, rfl, K0.out⟩
  case round =>
    obtain ⟨j, hj, rfl, rfl, hK⟩ := hrel
    have K1 := Lib.hid hK
    clear hK K0
    by_cases hlj : j < n
    · obtain ⟨m, off, ha, hm, hcell⟩ := K1.out.d.at' (by omega)
      subst ha
      obtain ⟨c0, c1⟩ := hcell j hlj
      obtain ⟨p0, p1⟩ := K1.out.P.h2'
      have z0 : (0 : Int) ≤ (j : Int) := by omega
      have z1 : (j : Int) < (n : Int) := by omega
      obtain ⟨⟨x0, x1⟩, ⟨y0, y1⟩⟩ := N1.out j hlj
      obtain ⟨⟨x2, x3⟩, ⟨y2, y3⟩⟩ := N2.out
      have SF := sq_fit (x := X j - px) (y := Y j - py) (by omega) (by omega)
      have M1 := Lib.hid (fun (W : World) => rMul_any (X j - px) (X j - px) W (by omega) (by omega) (by omega) (by omega))
      have M2 := Lib.hid (fun (W : World) => rMul_any (Y j - py) (Y j - py) W (by omega) (by omega) (by omega) (by omega))
      have M3 := Lib.hid (fun (W : World) => rAdd_any ((X j - px) * (X j - px)) ((Y j - py) * (Y j - py)) W SF.1 SF.2.1)
      rw [SF.2.2.1, show (X j - px) * (X j - px) + (Y j - py) * (Y j - py) = dSq X Y px py j from rfl] at M3
      have I1 : In128 (dSq X Y px py j) := SF.2.2.2
      have ST := nrU_step X Y px py j
      have IB : In128 (bstU X Y px py j) := by
        unfold bstU
        split
        · unfold In128; omega
        · rename_i hneg
          have B := nrU_is X Y px py j (by rcases Nat.eq_zero_or_pos j with h | h; subst h; exact absurd (show nrU X Y px py 0 < 0 from (by show (-1 : Int) < 0; omega)) hneg; exact h)
          obtain ⟨⟨a0, a1⟩, ⟨b0, b1⟩⟩ := N1.out (nrU X Y px py j).toNat (by omega)
          exact (sq_fit (x := X (nrU X Y px py j).toNat - px) (y := Y (nrU X Y px py j).toNat - py) (by omega) (by omega)).2.2.2
      have M4 := Lib.hid (fun (W : World) => rCmp_any (dSq X Y px py j) (bstU X Y px py j) W I1 IB)
      have S1 := Lib.hid ST.1
      have S2 := Lib.hid ST.2
      have MU := Lib.hid (And.intro I1 IB)
      clear SF ST I1 IB hcell
      go_wp2
      go_quiet (fail)
      go_wp2
      go_quiet (fail)
      go_wp2_with fail
      refine calls_gen (S := fun W => NrW w W (some ⟨m, off, none⟩) n c X Y w.heap.size nb px py (bstU X Y px py j)) (K1.out.step (by first | exact below_drewN (below_drewN (Below.refl _ _) _) _ | exact below_drewN (Below.refl _ _) _)) (fun W2 hS => ?_)
      have K2 := Lib.hid hS
      clear hS K1 c0 c1 p0 p1
      refine (M1.out _).mono ?_
      rintro e w3 ⟨rfl, h⟩
      have K3 := Lib.hid (K2.out.step h)
      clear h K2
      go_wp2_with fail
      refine (M2.out _).mono ?_
      rintro e w4 ⟨rfl, h⟩
      have K4 := Lib.hid (K3.out.step h)
      clear h K3
      go_wp2_with fail
      refine (M3.out _).mono ?_
      rintro e w5 ⟨rfl, h⟩
      have K5 := Lib.hid (K4.out.step h)
      clear h K4
      clear M1 M2 M3
      have hbq : nb < w5.heap.size := K5.out.Q.lt
      by_cases hat : nrU X Y px py j < 0
      · have SS := Lib.hid (S1.out (Or.inl hat))
        clear S1 S2 M4
        obtain ⟨b0, b1, b2, b3, b4⟩ := BW.h5 (show BW w5 nb [.bool (decide (bstU X Y px py j < 0)), .int .u64 (d0 (bstU X Y px py j).natAbs), .int .u64 (d1 (bstU X Y px py j).natAbs), .int .u64 (d2 (bstU X Y px py j).natAbs), .int .u64 (d3 (bstU X Y px py j).natAbs)] from K5.out.Q)
        have qf := K5.out.Q.f
        go_wp2
        go_roundw
        case rel => exact ⟨j + 1, by omega, by go_num, by rw [SS.out.1], by rw [SS.out.2]; exact (K5.out.put _).step ((Below.refl _ _).alloc (Nat.le_refl _) _)⟩
        case measure => simp [intOf]; omega
      · have g0 : decide (nrU X Y px py j < 0) = false := decide_eq_false hat
        obtain ⟨b0, b1, b2, b3, b4⟩ := BW.h5 (show BW w5 nb [.bool (decide (bstU X Y px py j < 0)), .int .u64 (d0 (bstU X Y px py j).natAbs), .int .u64 (d1 (bstU X Y px py j).natAbs), .int .u64 (d2 (bstU X Y px py j).natAbs), .int .u64 (d3 (bstU X Y px py j).natAbs)] from K5.out.Q)
        go_wp2_with fail
        refine calls_gen (S := fun W => NrW w W (some ⟨m, off, none⟩) n c X Y w.heap.size nb px py (bstU X Y px py j) ∧ BW W w5.heap.size (NVL (dSq X Y px py j))) ⟨K5.out.step ((Below.refl _ _).alloc (Nat.le_refl _) _), BW.new w5 _ [_, _, _, _, _] _ rfl⟩ (fun W6 hS => ?_)
        have K6 := Lib.hid hS.1
        have A6 := Lib.hid hS.2
        clear hS K5 b0 b1 b2 b3 b4
        refine (M4.out _).mono ?_
        rintro e w7 ⟨rfl, h⟩
        have K7 := Lib.hid (K6.out.step h)
        have A7 := Lib.hid (A6.out.below h A6.out.lt)
        have hne : nb ≠ w5.heap.size := by omega
        clear h K6 A6 M4
        by_cases hc : dSq X Y px py j < bstU X Y px py j
        · have SS := Lib.hid (S1.out (Or.inr hc))
          have g1 : cmpI (dSq X Y px py j) (bstU X Y px py j) < 0 := cmpI_lt hc
          clear S1 S2
          obtain ⟨e0, e1, e2, e3, e4⟩ := BW.h5 (show BW w7 w5.heap.size [.bool (decide (dSq X Y px py j < 0)), .int .u64 (d0 (dSq X Y px py j).natAbs), .int .u64 (d1 (dSq X Y px py j).natAbs), .int .u64 (d2 (dSq X Y px py j).natAbs), .int .u64 (d3 (dSq X Y px py j).natAbs)] from A7.out)
          obtain ⟨b0, b1, b2, b3, b4⟩ := BW.h5 (show BW w7 nb [.bool (decide (bstU X Y px py j < 0)), .int .u64 (d0 (bstU X Y px py j).natAbs), .int .u64 (d1 (bstU X Y px py j).natAbs), .int .u64 (d2 (bstU X Y px py j).natAbs), .int .u64 (d3 (bstU X Y px py j).natAbs)] from K7.out.Q)
          have qf := K7.out.Q.f
          go_wp2
          go_roundw
          case rel => exact ⟨j + 1, by omega, by go_num, by rw [SS.out.1], by rw [SS.out.2]; exact K7.out.put _⟩
          case measure => simp [intOf]; omega
        · have SS := Lib.hid (S2.out (fun k => by rcases k with k | k; exact absurd k (by omega); exact hc k))
          have g1 : ¬ cmpI (dSq X Y px py j) (bstU X Y px py j) < 0 := by have := cmpI_ge (show bstU X Y px py j ≤ dSq X Y px py j by omega); omega
          clear S1 S2
          go_wp2
          go_roundw
          case rel => exact ⟨j + 1, by omega, by go_num, by rw [SS.out.1], by rw [SS.out.2]; exact K7.out⟩
          case measure => simp [intOf]; omega
    · have e : j = n := by omega
      subst e
      go_wp2
      go_ret
      exact ⟨retI E.out, K1.out.l⟩
end Go.Proofs.Ytjdhjabbojceeaa

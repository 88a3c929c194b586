/- The contract of the document's Right of panes. -/
import Derived.Test.YtbpmbdnhfkfkhaaPc
namespace Go.Proofs.Ytbpmbdnhfkfkhaa
open Go.RowKit
set_option linter.unusedVariables false
set_option linter.unusedSimpArgs false

/-- a pane that came in, and its copy in block m -/
structure PQ (w W : World) (B m : Nat) (p : Pn) : Prop where
  k : BW W m [.slice p.x.a p.x.n p.x.c, .slice p.y.a p.y.n p.y.c, .slice p.a p.n p.c]
  l : Below w.heap.size w W
  p : Pan B W p
  z : B ≤ w.heap.size
theorem PQ.step {w W W' : World} {B m : Nat} {p : Pn} (Q : PQ w W B m p) (h : Below W.heap.size W W') : PQ w W' B m p :=
  ⟨Q.k.below h Q.k.lt, Q.l.trans (h.mono Q.l.size), Q.p.keep h (by have := Q.z; have := Q.l.size; omega), Q.z⟩
theorem PQ.drew {w W : World} {B m : Nat} {p : Pn} (Q : PQ w W B m p) : PQ w W.drew B m p := Q.step (Below.refl _ _).drew
theorem PQ.alloc {w W : World} {B m : Nat} {p : Pn} (Q : PQ w W B m p) (o : Obj) : PQ w (W.alloc o) B m p := Q.step ((Below.refl _ _).alloc (Nat.le_refl _) o)
theorem PQ.new {w : World} {B : Nat} {p : Pn} (t : TypeId) (h : Pan B w p) (z : B ≤ w.heap.size) : PQ w (w.alloc (.cells #[.slice p.x.a p.x.n p.x.c, .slice p.y.a p.y.n p.y.c, .slice p.a p.n p.c] t)) B w.heap.size p :=
  ⟨BW.new w _ [_, _, _] t rfl, (Below.refl _ _).alloc (Nat.le_refl _) _, h.keep ((Below.refl w.heap.size w).alloc (Nat.le_refl _) _) z, z⟩
set_option maxHeartbeats 8000000 in
theorem rPRight_any (p : Pn) (B : Nat) (w : World) (hB : B ≤ w.heap.size) (F : fewP p) (K : Pan B w p) :
    Calls Try.prog 47 #[.agg #[.slice p.x.a p.x.n p.x.c, .slice p.y.a p.y.n p.y.c, .slice p.a p.n p.c]] w fun e w' => e = .returned (.int .i64 (paneR p)) ∧ Below w.heap.size w w' := by
  obtain ⟨q, hq⟩ : ∃ q, paneR p = q := ⟨_, rfl⟩
  rw [hq]
  have N42 := Lib.hid (fun (h : ¬ shapeP p) => (show 42 = q by rw [← hq]; unfold paneR; rw [if_neg h]))
  have N40 := Lib.hid (fun (s : shapeP p) (h : ¬ rangeP p) => (show 40 = q by rw [← hq]; unfold paneR; rw [if_pos s, if_neg h]))
  have N41 := Lib.hid (fun (s : shapeP p) (g : rangeP p) (h : ¬ orderP p) => (show 41 = q by rw [← hq]; unfold paneR; rw [if_pos s, if_pos g, if_neg h]))
  have N0 := Lib.hid (fun (s : shapeP p) (g : rangeP p) (h : orderP p) => (show 0 = q by rw [← hq]; unfold paneR; rw [if_pos s, if_pos g, if_pos h]))
  have Q0 := Lib.hid (PQ.new 33 K hB)
  have KX := Lib.hid (fun (W : World) (Q : PQ w W B w.heap.size p) => And.intro (rPBeyond_any p.x.a p.x.n p.x.c p.x.v B W (by have := F.1; omega) Q.p.x) (rPFalls_any p.x.a p.x.n p.x.c p.x.v B W (by have := F.1; omega) Q.p.x))
  have KY := Lib.hid (fun (W : World) (Q : PQ w W B w.heap.size p) => And.intro (rPBeyond_any p.y.a p.y.n p.y.c p.y.v B W (by have := F.2.1; omega) Q.p.y) (rPFalls_any p.y.a p.y.n p.y.c p.y.v B W (by have := F.2.1; omega) Q.p.y))
  have KR := Lib.hid (fun (i : Nat) (hi : i < p.n) (W : World) (Q : PQ w W B w.heap.size p) => rPBeyond_any (p.r i).a (p.r i).n (p.r i).c (p.r i).v B W (by have := F.2.2.2 i hi; omega) (Q.p.r i hi))
  have bx := F.1
  have by' := F.2.1
  have bn := F.2.2.1
  clear hq K
  obtain ⟨⟨xa, xn, xc, xv⟩, ⟨ya, yn, yc, yv⟩, a, n, c, r⟩ := p
  dsimp only at *
  by_cases s1 : xn < 2
  · have E := N42.out (fun k => by have := k.1.1; dsimp only at this; omega)
    have g1 : (xn : Int) < 2 := by omega
    have HE := Lib.hid E
    clear E N42 N40 N41 N0 KX KY KR
    go_enter Try.func47, Try.ntmps47
    go_wp2
    go_ret
    exact ⟨retI HE.out, Q0.out.l⟩
  by_cases s2 : 32 < xn
  · have HE := Lib.hid (N42.out (fun k => by have := k.1.2.1; dsimp only at this; omega))
    have g1 : ¬ (xn : Int) < 2 := by omega
    have g2 : (32 : Int) < xn := by omega
    clear N42 N40 N41 N0 KX KY KR
    go_enter Try.func47, Try.ntmps47
    go_wp2
    go_ret
    exact ⟨retI HE.out, Q0.out.l⟩
  by_cases s3 : yn < 2
  · have HE := Lib.hid (N42.out (fun k => by have := k.1.2.2.1; dsimp only at this; omega))
    have g1 : ¬ (xn : Int) < 2 := by omega
    have g2 : ¬ (32 : Int) < xn := by omega
    have g3 : (yn : Int) < 2 := by omega
    clear N42 N40 N41 N0 KX KY KR
    go_enter Try.func47, Try.ntmps47
    go_wp2
    go_ret
    exact ⟨retI HE.out, Q0.out.l⟩
  by_cases s4 : 32 < yn
  · have HE := Lib.hid (N42.out (fun k => by have := k.1.2.2.2.1; dsimp only at this; omega))
    have g1 : ¬ (xn : Int) < 2 := by omega
    have g2 : ¬ (32 : Int) < xn := by omega
    have g3 : ¬ (yn : Int) < 2 := by omega
    have g4 : (32 : Int) < yn := by omega
    clear N42 N40 N41 N0 KX KY KR
    go_enter Try.func47, Try.ntmps47
    go_wp2
    go_ret
    exact ⟨retI HE.out, Q0.out.l⟩
  have g1 : ¬ (xn : Int) < 2 := by omega
  have g2 : ¬ (32 : Int) < xn := by omega
  have g3 : ¬ (yn : Int) < 2 := by omega
  have g4 : ¬ (32 : Int) < yn := by omega
  by_cases s5 : n = yn
  rotate_left
  · have HE := Lib.hid (N42.out (fun k => by have := k.1.2.2.2.2; dsimp only at this; omega))
    have g5 : ¬ (n : Int) = yn := by omega
    clear N42 N40 N41 N0 KX KY KR
    go_enter Try.func47, Try.ntmps47
    go_wp2
    go_ret
    exact ⟨retI HE.out, Q0.out.l⟩
  subst s5
  have S := Lib.hid (show 2 ≤ xn ∧ xn ≤ 32 ∧ 2 ≤ n ∧ n ≤ 32 by omega)
  go_enter Try.func47, Try.ntmps47
  go_wp2_with fail
  refine wp_gen (S := fun W => PQ w W B w.heap.size ⟨⟨xa, xn, xc, xv⟩, ⟨ya, n, yc, yv⟩, a, n, c, r⟩) Q0.out (fun W1 hS => ?_)
  have Q1 := Lib.hid hS
  clear hS Q0
  go_loopw [3] (fun i wr => ∃ j : Nat, j ≤ n ∧ i = .int .i64 j ∧ Hid (∀ k, k < j → (r k).n = xn) ∧ PQ w wr B w.heap.size ⟨⟨xa, xn, xc, xv⟩, ⟨ya, n, yc, yv⟩, a, n, c, r⟩) (fun i _ => n - (intOf i).toNat)
  case atStart => exact ⟨0, by omega, rfl, Lib.hid (fun k h => absurd h (by omega)), Q1.out⟩
  case round =>
    obtain ⟨j, hj, rfl, I, hQ⟩ := hrel
    have Q2 := Lib.hid hQ
    obtain ⟨c0, c1, c2⟩ := hQ.k.h3
    dsimp only at c0 c1 c2
    clear hQ Q1
    by_cases hlt : j < n
    · obtain ⟨b, off, ha, hb, hcell⟩ := Q2.out.p.at' (by show 0 < n; omega)
      dsimp only at ha hcell
      subst ha
      have c3 := hcell j hlt
      have z0 : (0 : Int) ≤ (j : Int) := by omega
      have z1 : (j : Int) < (n : Int) := by omega
      clear hcell hb
      by_cases he : (r j).n = xn
      · rw [he] at c3
        have I2 := Lib.hid (all_next (P := fun k => (r k).n = xn) I.out he)
        clear I he N42 N40 N41 N0 KX KY KR
        go_wp2
        go_quiet (fail)
        go_wp2
        go_roundw
        case rel => exact ⟨j + 1, by omega, by go_num, I2, Q2.out.step (below_drewN (Below.refl _ _) _)⟩
        case measure => simp [intOf]; omega
      · have HE := Lib.hid (N42.out (fun k => he (k.2 j hlt)))
        have hne : ¬ (((r j).n : Nat) : Int) = (xn : Int) := by omega
        clear I he N42 N40 N41 N0 KX KY KR
        go_wp2
        go_quiet (fail)
        go_wp2
        go_ret
        exact ⟨retI HE.out, below_drewN Q2.out.l _⟩
    · have SH := Lib.hid (show shapeP ⟨⟨xa, xn, xc, xv⟩, ⟨ya, n, yc, yv⟩, a, n, c, r⟩ from ⟨⟨S.out.1, S.out.2.1, S.out.2.2.1, S.out.2.2.2, rfl⟩, fun k hk => I.out k (by have : k < n := hk; omega)⟩)
      clear I N42 hj
      by_cases hx : inS ⟨xa, xn, xc, xv⟩
      rotate_left
      · have V := Lib.hid (KX.out _ Q2.out).1
        rw [decide_eq_false hx] at V
        have HE := Lib.hid (N40.out SH.out (fun k => hx k.1.1))
        clear N40 N41 N0 KX KY KR hx
        go_wp2_with fail
        refine (V.out).mono ?_
        rintro e w1 ⟨rfl, rfl⟩
        go_wp2
        go_ret
        exact ⟨retI HE.out, Q2.out.l⟩
      have V := Lib.hid (KX.out _ Q2.out).1
      rw [decide_eq_true hx] at V
      go_wp2_with fail
      refine (V.out).mono ?_
      rintro e w1 ⟨rfl, rfl⟩
      clear V
      by_cases hy : inS ⟨ya, n, yc, yv⟩
      rotate_left
      · have V := Lib.hid (KY.out _ Q2.out).1
        rw [decide_eq_false hy] at V
        have HE := Lib.hid (N40.out SH.out (fun k => hy k.1.2))
        clear N40 N41 N0 KX KY KR hx hy
        go_wp2_with fail
        refine (V.out).mono ?_
        rintro e w1 ⟨rfl, rfl⟩
        go_wp2
        go_ret
        exact ⟨retI HE.out, Q2.out.l⟩
      have V := Lib.hid (KY.out _ Q2.out).1
      rw [decide_eq_true hy] at V
      go_wp2_with fail
      refine (V.out).mono ?_
      rintro e w1 ⟨rfl, rfl⟩
      clear V c0 c1 c2
      have HX := Lib.hid hx
      have HY := Lib.hid hy
      clear hx hy
      go_wp2
      go_loopw [4] (fun i wr => ∃ j : Nat, j ≤ n ∧ i = .int .i64 j ∧ Hid (∀ k, k < j → inS (r k)) ∧ PQ w wr B w.heap.size ⟨⟨xa, xn, xc, xv⟩, ⟨ya, n, yc, yv⟩, a, n, c, r⟩) (fun i _ => n - (intOf i).toNat)
      case atStart => exact ⟨0, by omega, rfl, Lib.hid (fun k h => absurd h (by omega)), Q2.out⟩
      case round =>
        obtain ⟨j, hj, rfl, I, hQ⟩ := hrel
        have Q3 := Lib.hid hQ
        obtain ⟨c0, c1, c2⟩ := hQ.k.h3
        dsimp only at c0 c1 c2
        clear hQ Q2
        by_cases hlt : j < n
        · obtain ⟨b, off, ha, hb, hcell⟩ := Q3.out.p.at' (by show 0 < n; omega)
          dsimp only at ha hcell
          subst ha
          have c3 := hcell j hlt
          clear hcell hb
          by_cases he : inS (r j)
          · have V := Lib.hid (KR.out j hlt _ Q3.out)
            rw [decide_eq_true (show inS ⟨(r j).a, (r j).n, (r j).c, (r j).v⟩ from he)] at V
            have I2 := Lib.hid (all_next (P := fun k => inS (r k)) I.out he)
            clear I he N40 N41 N0 KX KY KR
            go_wp2_with fail
            refine (V.out).mono ?_
            rintro e w1 ⟨rfl, rfl⟩
            go_wp2
            go_roundw
            case rel => exact ⟨j + 1, by omega, by go_num, I2, Q3.out⟩
            case measure => simp [intOf]; omega
          · have V := Lib.hid (KR.out j hlt _ Q3.out)
            rw [decide_eq_false (show ¬ inS ⟨(r j).a, (r j).n, (r j).c, (r j).v⟩ from he)] at V
            have HE := Lib.hid (N40.out SH.out (fun k => he (k.2 j hlt)))
            clear I he N40 N41 N0 KX KY KR
            go_wp2_with fail
            refine (V.out).mono ?_
            rintro e w1 ⟨rfl, rfl⟩
            go_wp2
            go_ret
            exact ⟨retI HE.out, Q3.out.l⟩
        · have RG := Lib.hid (show rangeP ⟨⟨xa, xn, xc, xv⟩, ⟨ya, n, yc, yv⟩, a, n, c, r⟩ from ⟨⟨HX.out, HY.out⟩, fun k hk => I.out k (by have : k < n := hk; omega)⟩)
          clear I N40 hj HX HY KR
          by_cases hx : upS ⟨xa, xn, xc, xv⟩
          rotate_left
          · have V := Lib.hid (KX.out _ Q3.out).2
            rw [decide_eq_false hx] at V
            have HE := Lib.hid (N41.out SH.out RG.out (fun k => hx k.1))
            clear N41 N0 KX KY hx
            go_wp2_with fail
            refine (V.out).mono ?_
            rintro e w1 ⟨rfl, h⟩
            have Q4 := Lib.hid (Q3.out.step h)
            go_wp2
            go_ret
            exact ⟨retI HE.out, Q4.out.l⟩
          have V := Lib.hid (KX.out _ Q3.out).2
          rw [decide_eq_true hx] at V
          go_wp2_with fail
          refine (V.out).mono ?_
          rintro e w1 ⟨rfl, h⟩
          have Q4 := Lib.hid (Q3.out.step h)
          clear V h c0 c1 c2 Q3
          obtain ⟨c0, c1, c2⟩ := Q4.out.k.h3
          dsimp only at c0 c1 c2
          by_cases hy : upS ⟨ya, n, yc, yv⟩
          rotate_left
          · have V := Lib.hid (KY.out _ Q4.out).2
            rw [decide_eq_false hy] at V
            have HE := Lib.hid (N41.out SH.out RG.out (fun k => hy k.2))
            clear N41 N0 KX KY hx hy
            go_wp2_with fail
            refine (V.out).mono ?_
            rintro e w2 ⟨rfl, h⟩
            have Q5 := Lib.hid (Q4.out.step h)
            go_wp2
            go_ret
            exact ⟨retI HE.out, Q5.out.l⟩
          have V := Lib.hid (KY.out _ Q4.out).2
          rw [decide_eq_true hy] at V
          have HE := Lib.hid (N0.out SH.out RG.out ⟨hx, hy⟩)
          clear N41 N0 KX KY hx hy
          go_wp2_with fail
          refine (V.out).mono ?_
          rintro e w2 ⟨rfl, h⟩
          have Q5 := Lib.hid (Q4.out.step h)
          go_wp2
          go_ret
          exact ⟨retI HE.out, Q5.out.l⟩
end Go.Proofs.Ytbpmbdnhfkfkhaa

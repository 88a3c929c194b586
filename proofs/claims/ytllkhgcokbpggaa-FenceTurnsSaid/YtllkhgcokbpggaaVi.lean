/- The document's fence: the bar behind which a place is closest. -/
import Derived.Test.YtllkhgcokbpggaaVg
import Derived.Test.YtllkhgcokbpggaaBi
namespace Go.Proofs.Ytllkhgcokbpggaa
open Go.RowKit
set_option linter.unusedVariables false
set_option linter.unusedSimpArgs false

/-- bars, a place's copy -/
structure BeS (w W : World) (a : Option Addr) (n c : Nat) (g : Nat → Fv) (x y : Int) : Prop where
  d : Brs W a n c g
  p : BW W w.heap.size [.int .i64 x, .int .i64 y]
  l : Below w.heap.size w W
theorem BeS.step {w W W' : World} {a : Option Addr} {n c : Nat} {g : Nat → Fv} {x y : Int} (S : BeS w W a n c g x y) (h : Below W.heap.size W W') : BeS w W' a n c g x y :=
  ⟨S.d.step h, S.p.below h S.p.lt, S.l.trans (h.mono S.l.size)⟩
set_option maxRecDepth 100000 in
set_option maxHeartbeats 4000000 in
theorem rBehind16_any (a : Option Addr) (n c : Nat) (g : Nat → Fv) (x y deep : Int) (w : World) (hn : n ≤ 2000) (D : Brs w a n c g) :
    Calls Try.prog 19 #[.slice a n c, .agg #[.int .i64 x, .int .i64 y], .int .i64 deep] w fun e w' => e = .returned (.tuple #[.int .i64 (behF g n x y deep).1, .int .i64 (behF g n x y deep).2]) ∧ Below w.heap.size w w' := by
  have S0 := Lib.hid (show BeS w (w.alloc (.cells #[.int .i64 x, .int .i64 y] 24)) a n c g x y from ⟨D.step ((Below.refl _ _).alloc (Nat.le_refl _) _), BW.new w _ [.int .i64 x, .int .i64 y] _ rfl, (Below.refl _ _).alloc (Nat.le_refl _) _⟩)
  clear D
  by_cases f0 : deep < 0
  · rw [show behF g n x y deep = (-1, 0) from if_neg (fun h => by omega)]
    go_enter Try.func19, Try.ntmps19
    go_wp2
    go_ret2
    exact ⟨rfl, S0.out.l⟩
  by_cases f1 : 274877906944 < deep
  · rw [show behF g n x y deep = (-1, 0) from if_neg (fun h => by omega)]
    go_enter Try.func19, Try.ntmps19
    go_wp2
    go_ret2
    exact ⟨rfl, S0.out.l⟩
  rw [show behF g n x y deep = behI g x y deep n from if_pos ⟨by omega, by omega⟩]
  obtain ⟨R, hR⟩ : ∃ R, behI g x y deep n = R := ⟨_, rfl⟩
  rw [hR]
  have HR := Lib.hid hR
  clear hR
  go_enter Try.func19, Try.ntmps19
  go_wp2
  go_loopw [8, 9, 10] (fun u v i wr => ∃ j : Nat, j ≤ n ∧ i = .int .i64 j ∧ u = .int .i64 (behI g x y deep j).1 ∧ v = .int .i64 (behI g x y deep j).2 ∧ BeS w wr a n c g x y) (fun _ _ i _ => n - (intOf i).toNat)
  case atStart => exact ⟨0, by omega, rfl, rfl, rfl, S0.out⟩
  case round =>
    obtain ⟨j, hj, rfl, rfl, rfl, hS⟩ := hrel
    have S1 := Lib.hid hS
    clear hS S0
    by_cases hlt : j < n
    · obtain ⟨b, off, ha, hb, -⟩ := S1.out.d.at' (by omega)
      have z0 : (0 : Int) ≤ (j : Int) := by omega
      have z1 : (j : Int) < (n : Int) := by omega
      have HA := Lib.hid ha
      have CL := Lib.hid (fun (W : World) (Q : BeS w W a n c g x y) => show ((W.cell? ⟨b, off + j * 5, none⟩ = some (.int .i64 (g j).ax) ∧ W.cell? ⟨b, off + j * 5 + 1, none⟩ = some (.int .i64 (g j).ay)) ∧ (W.cell? ⟨b, off + j * 5 + 2, none⟩ = some (.int .i64 (g j).bx) ∧ W.cell? ⟨b, off + j * 5 + 3, none⟩ = some (.int .i64 (g j).by'))) ∧ (W.cell? ⟨w.heap.size, 0, none⟩ = some (.int .i64 x) ∧ W.cell? ⟨w.heap.size, 1, none⟩ = some (.int .i64 y)) by
        obtain ⟨b', off', ha', -, hc⟩ := Q.d.at' (by omega)
        rw [HA.out] at ha'
        cases ha'
        exact ⟨⟨(hc j hlt).1, (hc j hlt).2.1⟩, Q.p.c 0 _ rfl, Q.p.c 1 _ rfl⟩)
      have F := Lib.hid (show behI g x y deep (j + 1) = if (0 < beyondN ⟨(g j).ax, (g j).ay⟩ ⟨(g j).bx, (g j).by'⟩ ⟨x, y⟩ ∧ beyondN ⟨(g j).ax, (g j).ay⟩ ⟨(g j).bx, (g j).by'⟩ ⟨x, y⟩ ≤ deep) ∧ ((behI g x y deep j).1 < 0 ∨ beyondN ⟨(g j).ax, (g j).ay⟩ ⟨(g j).bx, (g j).by'⟩ ⟨x, y⟩ < (behI g x y deep j).2) then ((j : Int), beyondN ⟨(g j).ax, (g j).ay⟩ ⟨(g j).bx, (g j).by'⟩ ⟨x, y⟩) else behI g x y deep j from rfl)
      have V := Lib.hid (fun (W : World) => rBeyond_any (g j).ax (g j).ay (g j).bx (g j).by' x y W)
      obtain ⟨q2, hq2⟩ : ∃ q2, behI g x y deep (j + 1) = q2 := ⟨_, rfl⟩
      have HL := Lib.hid hq2
      rw [hq2] at F
      clear hq2
      generalize behI g x y deep j = q1 at *
      generalize (g j).ax = ax at *
      generalize (g j).ay = ay at *
      generalize (g j).bx = bx at *
      generalize (g j).by' = by1 at *
      generalize beyondN ⟨ax, ay⟩ ⟨bx, by1⟩ ⟨x, y⟩ = m at *
      obtain ⟨u, v⟩ := q1
      dsimp only at F ⊢
      have S2 := Lib.hid (S1.out.step (Below.refl _ _).drew)
      subst ha
      clear hb S1
      go_wp2_with fail
      refine wp_region_held_drew (S := fun W => ((W.cell? ⟨b, off + j * 5, none⟩ = some (.int .i64 ax) ∧ W.cell? ⟨b, off + j * 5 + 1, none⟩ = some (.int .i64 ay)) ∧ (W.cell? ⟨b, off + j * 5 + 2, none⟩ = some (.int .i64 bx) ∧ W.cell? ⟨b, off + j * 5 + 3, none⟩ = some (.int .i64 by1))) ∧ (W.cell? ⟨w.heap.size, 0, none⟩ = some (.int .i64 x) ∧ W.cell? ⟨w.heap.size, 1, none⟩ = some (.int .i64 y))) (by kernel_rfl) (CL.out _ S2.out) (fun hHeld => ?_)
      generalize World.drew _ = w2 at *
      refine tkD 0 26 (v := ?_) ?_ hHeld ?_
      rotate_left 1
      (intro W hSw; (try dsimp only at hSw); go_simp; try with_reducible rfl)
      (try simp only [putA, putB, putC, putD])
      refine tkD 1 27 (v := ?_) ?_ hHeld ?_
      rotate_left 1
      (intro W hSw; (try dsimp only at hSw); go_simp; try with_reducible rfl)
      (try simp only [putA, putB, putC, putD])
      refine tkD 2 28 (v := ?_) ?_ hHeld ?_
      rotate_left 1
      (intro W hSw; (try dsimp only at hSw); go_simp; try with_reducible rfl)
      (try simp only [putA, putB, putC, putD])
      refine tkD 3 29 (v := ?_) ?_ hHeld ?_
      rotate_left 1
      (intro W hSw; (try dsimp only at hSw); go_simp; try with_reducible rfl)
      (try simp only [putA, putB, putC, putD])
      refine tkD 4 30 (v := ?_) ?_ hHeld ?_
      rotate_left 1
      (intro W hSw; (try dsimp only at hSw); go_simp; try with_reducible rfl)
      (try simp only [putA, putB, putC, putD])
      refine tkD 5 31 (v := ?_) ?_ hHeld ?_
      rotate_left 1
      (intro W hSw; (try dsimp only at hSw); go_simp; try with_reducible rfl)
      (try simp only [putA, putB, putC, putD])
      refine tkD 6 32 (v := ?_) ?_ hHeld ?_
      rotate_left 1
      (intro W hSw; (try dsimp only at hSw); go_simp; try with_reducible rfl)
      (try simp only [putA, putB, putC, putD])
      refine tkD 7 33 (v := ?_) ?_ hHeld ?_
      rotate_left 1
      (intro W hSw; (try dsimp only at hSw); go_simp; try with_reducible rfl)
      (try simp only [putA, putB, putC, putD])
      refine tkD 8 34 (v := ?_) ?_ hHeld ?_
      rotate_left 1
      (intro W hSw; (try dsimp only at hSw); go_simp; try with_reducible rfl)
      (try simp only [putA, putB, putC, putD])
      refine tkD 9 35 (v := ?_) ?_ hHeld ?_
      rotate_left 1
      (intro W hSw; (try dsimp only at hSw); go_simp; try with_reducible rfl)
      (try simp only [putA, putB, putC, putD])
      refine tkD 10 36 (v := ?_) ?_ hHeld ?_
      rotate_left 1
      (intro W hSw; (try dsimp only at hSw); go_simp; try with_reducible rfl)
      (try simp only [putA, putB, putC, putD])
      refine onlD 11 (fun K hK => ?_)
      go_simp
      refine (V.out _).mono ?_
      rintro e w3 ⟨rfl, h⟩
      have S3 := Lib.hid (S2.out.step h)
      clear h S2 V
      go_wp2_with fail
      refine hK.out _ _ (CL.out _ S3.out) ?_
      clear hK K hHeld
      intro hHeld
      refine tkD 12 11 (v := ?_) ?_ hHeld ?_
      rotate_left 1
      (intro W hSw; (try dsimp only at hSw); go_simp; try with_reducible rfl)
      (try simp only [putA, putB, putC, putD])
      refine wpAnyH_done (by kernel_rfl) ?_ _
      clear hHeld CL
      by_cases c : (0 < m ∧ m ≤ deep) ∧ (u < 0 ∨ m < v)
      · have E := Lib.hid (show ((j : Int), m) = q2 by rw [F.out, if_pos c])
        obtain ⟨⟨c1, c2⟩, c3⟩ := c
        clear F
        rcases c3 with c3 | c3
        · go_wp2
          go_roundw
          case rel => exact ⟨j + 1, by omega, by go_num, by rw [HL.out, ← E.out], by rw [HL.out, ← E.out], S3.out⟩
          case measure => simp [intOf]; omega
        · by_cases c4 : u < 0
          · go_wp2
            go_roundw
            case rel => exact ⟨j + 1, by omega, by go_num, by rw [HL.out, ← E.out], by rw [HL.out, ← E.out], S3.out⟩
            case measure => simp [intOf]; omega
          · go_wp2
            go_roundw
            case rel => exact ⟨j + 1, by omega, by go_num, by rw [HL.out, ← E.out], by rw [HL.out, ← E.out], S3.out⟩
            case measure => simp [intOf]; omega
      · have E := Lib.hid (show (u, v) = q2 by rw [F.out, if_neg c])
        clear F
        by_cases c1 : 0 < m
        · by_cases c2 : m ≤ deep
          · have c3 : ¬ u < 0 := fun h => c ⟨⟨c1, c2⟩, .inl h⟩
            have c4 : ¬ m < v := fun h => c ⟨⟨c1, c2⟩, .inr h⟩
            clear c
            go_wp2
            go_roundw
            case rel => exact ⟨j + 1, by omega, by go_num, by rw [HL.out, ← E.out], by rw [HL.out, ← E.out], S3.out⟩
            case measure => simp [intOf]; omega
          · clear c
            go_wp2
            go_roundw
            case rel => exact ⟨j + 1, by omega, by go_num, by rw [HL.out, ← E.out], by rw [HL.out, ← E.out], S3.out⟩
            case measure => simp [intOf]; omega
        · clear c
          go_wp2
          go_roundw
          case rel => exact ⟨j + 1, by omega, by go_num, by rw [HL.out, ← E.out], by rw [HL.out, ← E.out], S3.out⟩
          case measure => simp [intOf]; omega
    · have z1 : ¬ (j : Int) < (n : Int) := by omega
      have e : j = n := by omega
      subst e
      rw [HR.out]
      go_wp2
      go_ret2
      exact ⟨rfl, S1.out.l⟩
end Go.Proofs.Ytllkhgcokbpggaa

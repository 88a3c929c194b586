/- The document's car: gears. -/
import Derived.Test.YtbpmbdnhfkfkhaaZ2
namespace Go.Proofs.Ytbpmbdnhfkfkhaa
open Go.RowKit
set_option linter.unusedVariables false
set_option linter.unusedSimpArgs false

/-- a car that came in, and its copy in block m -/
structure CQ (w W : World) (B m : Nat) (c : Cr) : Prop where
  k : BW W m (carL c)
  l : Below w.heap.size w W
  g : Nums B W c.g
  z : B ≤ w.heap.size
theorem CQ.step {w W W' : World} {B m : Nat} {c : Cr} (Q : CQ w W B m c) (h : Below W.heap.size W W') : CQ w W' B m c :=
  ⟨Q.k.below h Q.k.lt, Q.l.trans (h.mono Q.l.size), Q.g.keep h (by have := Q.z; have := Q.l.size; omega), Q.z⟩
theorem CQ.drew {w W : World} {B m : Nat} {c : Cr} (Q : CQ w W B m c) : CQ w W.drew B m c := Q.step (Below.refl _ _).drew
theorem CQ.new {w : World} {B : Nat} {c : Cr} (t : TypeId) (h : Nums B w c.g) (z : B ≤ w.heap.size) : CQ w (w.alloc (.cells (carL c).toArray t)) B w.heap.size c :=
  ⟨BW.new w _ (carL c) t rfl, (Below.refl _ _).alloc (Nat.le_refl _) _, h.keep ((Below.refl w.heap.size w).alloc (Nat.le_refl _) _) z, z⟩
def gearF (v : Nat → Int) (bk fn : Int) : Nat → Nat → Int
  | 0, _ => if inC (1073741824) (137438953472) bk = true then if inC (2147483648) (68719476736) fn = true then 0 else 40 else 40
  | k + 1, j => if inC (1073741824) (137438953472) (v j) = true then gearF v bk fn k (j + 1) else 40
/-- what is wrong with gears -/
def rCGearsN (c : Cr) : Int := if c.g.n < 1 ∨ 8 < c.g.n then 42 else gearF c.g.v (c.f 59) (c.f 61) c.g.n 0
set_option maxRecDepth 100000 in
set_option maxHeartbeats 8000000 in
theorem rCGears_any (c : Cr) (B : Nat) (w : World) (hB : B ≤ w.heap.size) (K : Nums B w c.g) : Calls Try.prog 32 #[.agg (carL c).toArray] w fun e w' => e = .returned (.int .i64 (rCGearsN c)) ∧ Below w.heap.size w w' := by
  have Q0 := Lib.hid (CQ.new 37 K hB)
  obtain ⟨R, hR⟩ : ∃ R, rCGearsN c = R := ⟨_, rfl⟩
  rw [hR]
  have c60 := Q0.out.k.c 60 _ rfl
  clear K
  by_cases s1 : c.g.n < 1
  · have E := Lib.hid (show (42 : Int) = R by rw [← hR]; unfold rCGearsN; rw [if_pos (Or.inl s1)])
    have g1 : (c.g.n : Int) < 1 := by omega
    clear hR
    go_enter Try.func32, Try.ntmps32
    go_wp2
    go_ret
    exact ⟨retI E.out, Q0.out.l⟩
  by_cases s2 : 8 < c.g.n
  · have E := Lib.hid (show (42 : Int) = R by rw [← hR]; unfold rCGearsN; rw [if_pos (Or.inr s2)])
    have g1 : ¬ (c.g.n : Int) < 1 := by omega
    have g2 : (8 : Int) < (c.g.n : Int) := by omega
    clear hR
    go_enter Try.func32, Try.ntmps32
    go_wp2
    go_ret
    exact ⟨retI E.out, Q0.out.l⟩
  have HR0 := Lib.hid (show gearF c.g.v (c.f 59) (c.f 61) c.g.n 0 = R by rw [← hR]; unfold rCGearsN; rw [if_neg (by omega)])
  have g1 : ¬ (c.g.n : Int) < 1 := by omega
  have g2 : ¬ (8 : Int) < (c.g.n : Int) := by omega
  clear hR
  go_enter Try.func32, Try.ntmps32
  go_wp2
  clear c60
  go_loopw [3] (fun i wr => ∃ (k j : Nat), k + j = c.g.n ∧ i = .int .i64 j ∧ gearF c.g.v (c.f 59) (c.f 61) k j = R ∧ CQ w wr B w.heap.size c) (fun i _ => c.g.n - (intOf i).toNat)
  case atStart => exact ⟨c.g.n, 0, by omega, rfl, HR0.out, Q0.out⟩
  case round =>
    clear HR0 Q0
    obtain ⟨kk, j, hj, rfl, HR, Q1⟩ := hrel
    have HR := Lib.hid HR
    have Q1 := Lib.hid Q1
    obtain ⟨b, off, ea, hb, hc⟩ := Q1.out.g.at' (by omega)
    have c60 : wr.cell? ⟨w.heap.size, 60, none⟩ = some (.slice (some ⟨b, off, none⟩) c.g.n c.g.c) := by rw [← ea]; exact Q1.out.k.c 60 _ rfl
    clear ea
    cases kk with
    | zero =>
        have l0 : ¬ (j : Int) < (c.g.n : Int) := by omega
        clear hc
        have HD := Lib.hid Q1.out.k.drew
        go_wp2_with fail
        refine wp_region_held_drew (S := fun W => W.cell? ⟨w.heap.size, 59, none⟩ = some (.int .i64 (c.f 59)) ∧ W.cell? ⟨w.heap.size, 61, none⟩ = some (.int .i64 (c.f 61))) (by kernel_rfl) ⟨HD.out.c 59 _ rfl, HD.out.c 61 _ rfl⟩ (fun hHeld => ?_)
        clear c60 HD
        refine tkD 0 29 (v := ?_) ?_ hHeld ?_
        rotate_left 1
        (intro W hSw; (try dsimp only at hSw); go_simp; try with_reducible rfl)
        (try simp only [putA, putB, putC, putD])
        refine tkD 1 30 (v := ?_) ?_ hHeld ?_
        rotate_left 1
        (intro W hSw; (try dsimp only at hSw); go_simp; try with_reducible rfl)
        (try simp only [putA, putB, putC, putD])
        refine tkC 2 31 (fun W _ => rCWhole_any (32) (137438953472) (by decide +kernel) W) hHeld ?_
        (try simp only [putA, putB, putC, putD])
        refine tkC 3 32 (fun W _ => rCIn_any (c.f 59) (1073741824) (137438953472) W) hHeld ?_
        (try simp only [putA, putB, putC, putD])
        cases H0 : inC (1073741824) (137438953472) (c.f 59)
        case false =>
          refine tkD 4 33 (v := ?_) ?_ hHeld ?_
          rotate_left 1
          (intro W hSw; (try dsimp only at hSw); go_simp; try with_reducible rfl)
          (try simp only [putA, putB, putC, putD])
          refine tkD 5 34 (v := ?_) ?_ hHeld ?_
          rotate_left 1
          (intro W hSw; (try dsimp only at hSw); go_simp; try with_reducible rfl)
          (try simp only [putA, putB, putC, putD])
          refine wpAnyH_skipD 6 35 (by kernel_rfl) (by kernel_rfl) (by kernel_rfl) (by kernel_rfl) (by rfl) (fun _ _ _ h => h) hHeld ?_
          (try simp only [putA, putB, putC, putD])
          refine wpAnyH_skipD 7 36 (by kernel_rfl) (by kernel_rfl) (by kernel_rfl) (by kernel_rfl) (by rfl) (fun _ _ _ h => h) hHeld ?_
          (try simp only [putA, putB, putC, putD])
          refine wpAnyH_skipD 8 37 (by kernel_rfl) (by kernel_rfl) (by kernel_rfl) (by kernel_rfl) (by rfl) (fun _ _ _ h => h) hHeld ?_
          (try simp only [putA, putB, putC, putD])
          refine wpAnyH_skipD 9 38 (by kernel_rfl) (by kernel_rfl) (by kernel_rfl) (by kernel_rfl) (by rfl) (fun _ _ _ h => h) hHeld ?_
          (try simp only [putA, putB, putC, putD])
          refine wpAnyH_skipD 10 39 (by kernel_rfl) (by kernel_rfl) (by kernel_rfl) (by kernel_rfl) (by rfl) (fun _ _ _ h => h) hHeld ?_
          (try simp only [putA, putB, putC, putD])
          refine tkD 11 40 (v := ?_) ?_ hHeld ?_
          rotate_left 1
          (intro W hSw; (try dsimp only at hSw); go_simp; try with_reducible rfl)
          (try simp only [putA, putB, putC, putD])
          refine wpAnyH_done (by kernel_rfl) ?_ _
          clear hHeld
          have EE := Lib.hid (show ((40 : Nat) : Int) = R by rw [← HR.out]; simp only [gearF, H0, Bool.false_eq_true, if_false]; rfl)
          clear HR
          go_wp2
          go_ret
          exact ⟨retI EE.out, Q1.out.l.drew⟩
        case true =>
          refine tkD 4 33 (v := ?_) ?_ hHeld ?_
          rotate_left 1
          (intro W hSw; (try dsimp only at hSw); go_simp; try with_reducible rfl)
          (try simp only [putA, putB, putC, putD])
          refine tkD 5 34 (v := ?_) ?_ hHeld ?_
          rotate_left 1
          (intro W hSw; (try dsimp only at hSw); go_simp; try with_reducible rfl)
          (try simp only [putA, putB, putC, putD])
          refine tkD 6 35 (v := ?_) ?_ hHeld ?_
          rotate_left 1
          (intro W hSw; (try dsimp only at hSw); go_simp; try with_reducible rfl)
          (try simp only [putA, putB, putC, putD])
          refine tkD 7 36 (v := ?_) ?_ hHeld ?_
          rotate_left 1
          (intro W hSw; (try dsimp only at hSw); go_simp; try with_reducible rfl)
          (try simp only [putA, putB, putC, putD])
          refine tkC 8 37 (fun W _ => rCWhole_any (16) (68719476736) (by decide +kernel) W) hHeld ?_
          (try simp only [putA, putB, putC, putD])
          refine tkC 9 38 (fun W _ => rCIn_any (c.f 61) (2147483648) (68719476736) W) hHeld ?_
          (try simp only [putA, putB, putC, putD])
          cases H1 : inC (2147483648) (68719476736) (c.f 61)
          case false =>
            refine tkD 10 39 (v := ?_) ?_ hHeld ?_
            rotate_left 1
            (intro W hSw; (try dsimp only at hSw); go_simp; try with_reducible rfl)
            (try simp only [putA, putB, putC, putD])
            refine tkD 11 40 (v := ?_) ?_ hHeld ?_
            rotate_left 1
            (intro W hSw; (try dsimp only at hSw); go_simp; try with_reducible rfl)
            (try simp only [putA, putB, putC, putD])
            refine wpAnyH_done (by kernel_rfl) ?_ _
            clear hHeld
            have EE := Lib.hid (show ((40 : Nat) : Int) = R by rw [← HR.out]; simp only [gearF, H0, H1, Bool.false_eq_true, if_false, if_true]; rfl)
            clear HR
            go_wp2
            go_ret
            exact ⟨retI EE.out, Q1.out.l.drew⟩
          case true =>
            refine tkD 10 39 (v := ?_) ?_ hHeld ?_
            rotate_left 1
            (intro W hSw; (try dsimp only at hSw); go_simp; try with_reducible rfl)
            (try simp only [putA, putB, putC, putD])
            refine tkD 11 40 (v := ?_) ?_ hHeld ?_
            rotate_left 1
            (intro W hSw; (try dsimp only at hSw); go_simp; try with_reducible rfl)
            (try simp only [putA, putB, putC, putD])
            refine wpAnyH_done (by kernel_rfl) ?_ _
            clear hHeld
            have EE := Lib.hid (show ((0 : Nat) : Int) = R by rw [← HR.out]; simp only [gearF, H0, H1, if_true]; rfl)
            clear HR
            go_wp2
            go_ret
            exact ⟨retI EE.out, Q1.out.l.drew⟩
    | succ k =>
        have l0 : (j : Int) < (c.g.n : Int) := by omega
        have cj := hc j (by omega)
        have lj : j < c.g.n := by omega
        clear hc
        go_wp2_with fail
        refine wp_region_held_drew (S := fun W => W.cell? ⟨w.heap.size, 60, none⟩ = some (.slice (some ⟨b, off, none⟩) c.g.n c.g.c) ∧ W.cell? ⟨b, off + j, none⟩ = some (.int .i64 (c.g.v j))) (by kernel_rfl) ⟨c60, cj⟩ (fun hHeld => ?_)
        clear c60 cj
        refine tkD 0 21 (v := ?_) ?_ hHeld ?_
        rotate_left 1
        (intro W hSw; (try dsimp only at hSw); go_simp; try with_reducible rfl)
        (try simp only [putA, putB, putC, putD])
        refine tkD 1 22 (v := ?_) ?_ hHeld ?_
        rotate_left 1
        (intro W hSw; (try dsimp only at hSw); go_simp; try with_reducible rfl)
        (try simp only [putA, putB, putC, putD])
        refine tkD 2 23 (v := ?_) ?_ hHeld ?_
        rotate_left 1
        (intro W hSw; (try dsimp only at hSw); go_simp; try with_reducible rfl)
        (try simp only [putA, putB, putC, putD])
        refine tkD 3 24 (v := ?_) ?_ hHeld ?_
        rotate_left 1
        (intro W hSw; (try dsimp only at hSw); go_simp; try with_reducible rfl)
        (try simp only [putA, putB, putC, putD])
        refine tkD 4 25 (v := ?_) ?_ hHeld ?_
        rotate_left 1
        (intro W hSw; (try dsimp only at hSw); go_simp; try with_reducible rfl)
        (try simp only [putA, putB, putC, putD])
        refine tkC 5 26 (fun W _ => rCWhole_any 32 (137438953472) (by decide +kernel) W) hHeld ?_
        (try simp only [putA, putB, putC, putD])
        refine tkC 6 27 (fun W _ => rCIn_any (c.g.v j) (1073741824) (137438953472) W) hHeld ?_
        (try simp only [putA, putB, putC, putD])
        cases H : inC (1073741824) (137438953472) (c.g.v j)
        case false =>
          refine tkD 7 28 (v := ?_) ?_ hHeld ?_
          rotate_left 1
          (intro W hSw; (try dsimp only at hSw); go_simp; try with_reducible rfl)
          (try simp only [putA, putB, putC, putD])
          refine wpAnyH_done (by kernel_rfl) ?_ _
          clear hHeld
          have EE := Lib.hid (show (40 : Int) = R by rw [← HR.out]; symm; show (if inC (1073741824) (137438953472) (c.g.v j) = true then gearF c.g.v (c.f 59) (c.f 61) k (j + 1) else 40) = 40; rw [H]; rfl)
          clear HR
          go_wp2
          go_ret
          exact ⟨retI EE.out, Q1.out.l.drew⟩
        case true =>
          refine tkD 7 28 (v := ?_) ?_ hHeld ?_
          rotate_left 1
          (intro W hSw; (try dsimp only at hSw); go_simp; try with_reducible rfl)
          (try simp only [putA, putB, putC, putD])
          refine wpAnyH_done (by kernel_rfl) ?_ _
          clear hHeld
          have HR2 := Lib.hid (show gearF c.g.v (c.f 59) (c.f 61) k (j + 1) = R by rw [← HR.out]; symm; show (if inC (1073741824) (137438953472) (c.g.v j) = true then gearF c.g.v (c.f 59) (c.f 61) k (j + 1) else 40) = _; rw [if_pos H])
          clear HR
          go_wp2
          go_roundw
          case rel => exact ⟨k, j + 1, by omega, by go_num, HR2.out, Q1.out.drew⟩
          case measure => simp [intOf]; omega
end Go.Proofs.Ytbpmbdnhfkfkhaa

/- A slice of pairs of integers that came in, as a walk wants it. -/
import Derived.Test.YtbpmbdnhfkfkhaaBk
import Derived.Deep.Slices
import Derived.ChangeSame
import Derived.Test.YtbpmbdnhfkfkhaaBm
import Derived.Test.YtbpmbdnhfkfkhaaBj
import Derived.Test.YtbpmbdnhfkfkhaaBy
import Derived.Deep.AppendLies
namespace Go.Proofs.Ytbpmbdnhfkfkhaa
open Go.RowKit Go.ChangeShapes Go.WideShapes Go.Deep
set_option linter.unusedVariables false

/-- the slice reads as the points (X 0, Y 0), (X 1, Y 1), .. -/
structure Dots (w : World) (a : Option Addr) (len cap : Nat) (X Y : Nat → Int) : Prop where
  hm : cap ≤ maxLen
  hl : len ≤ cap
  wf : ∀ i, i < len → (Lit.int .i64 (X i)).wf = true ∧ (Lit.int .i64 (Y i)).wf = true
  at' : 0 < len → ∃ b off, a = some ⟨b, off, none⟩ ∧ b < w.heap.size ∧ ∀ i, i < len → w.cell? ⟨b, off + i * 2, none⟩ = some (.int .i64 (X i)) ∧ w.cell? ⟨b, off + i * 2 + 1, none⟩ = some (.int .i64 (Y i))
theorem dots_of {H : Type} {enc : TypeId × Value → H} {P : Program} {w : World} {a : Option Addr} {len cap : Nat} {d : DataW H} {ps : List MemPlace} {t e : TypeId} {f0 f1 : Field}
    (ht : P.underlying t = some (.slice e)) (he : P.underlying e = some (.struct #[f0, f1])) (hk0 : P.underlying f0.type = some (.int .i64)) (hk1 : P.underlying f1.type = some (.int .i64))
    (ho : (f0.offset, f1.offset, P.cellsOf f0.type, P.cellsOf f1.type, P.cellsOf e) = (0, 1, 1, 1, 2))
    (h : DataW.Trod enc P w 0 (fun _ => true) true t (.slice a len cap) d ps) : ∃ X Y, Dots w a len cap X Y := by
  simp only [Prod.mk.injEq] at ho
  obtain ⟨o0, o1, c0, c1, h2⟩ := ho
  obtain ⟨fuel, hf⟩ := h
  rcases open_slice ht hf with ⟨hcs, _⟩ | ⟨a', len', cap', m, n, D, Pl, hcs, _, hl, hm, hmm, _, hi⟩
  · simp [Value.cells] at hcs
    obtain ⟨rfl, rfl, rfl⟩ := hcs
    exact ⟨fun _ => 0, fun _ => 0, by unfold maxLen; omega, by omega, fun i h => absurd h (by omega), fun h => absurd h (by omega)⟩
  · simp [Value.cells] at hcs
    obtain ⟨rfl, rfl, rfl⟩ := hcs
    simp only [if_true] at hmm
    subst hmm
    have key : ∀ i, i < m → ∃ q : Int × Int, (Lit.int .i64 q.1).wf = true ∧ (Lit.int .i64 q.2).wf = true ∧ w.cell? (a'.add (i * 2)) = some (.int .i64 q.1) ∧ w.cell? (a'.add (i * 2 + 1)) = some (.int .i64 q.2) := by
      intro i hin
      obtain ⟨cs, hc, hd⟩ := hi i hin
      rw [h2] at hc
      obtain ⟨y0, y1, q, _, hlen, g0, g1⟩ := trod_struct2 he hd
      rw [o0, c0] at g0
      rw [o1, c1] at g1
      obtain ⟨x, ex, _, wx⟩ := DataW.trod_int hk0 g0
      obtain ⟨y, ey, _, wy⟩ := DataW.trod_int hk1 g1
      have hcell := (World.cells?_some hc).2.2
      refine ⟨(x, y), wx, wy, ?_, ?_⟩
      · have e0 := congrArg (fun l => l[0]?) ex
        have k0 := hcell 0 (by omega)
        simp at e0
        rw [e0] at k0
        have r : (a'.add (i * 2)).add 0 = a'.add (i * 2) := by rw [add_add]; rfl
        rw [r] at k0; exact k0
      · have e0 := congrArg (fun l => l[0]?) ey
        have k0 := hcell 1 (by omega)
        simp at e0
        rw [e0] at k0
        have r : (a'.add (i * 2)).add 1 = a'.add (i * 2 + 1) := add_add _ _ _
        rw [r] at k0; exact k0
    obtain ⟨f, hf2⟩ := choose_lt key
    refine ⟨fun i => (f i).1, fun i => (f i).2, hm, hl, fun i h => ⟨(hf2 i (by omega)).1, (hf2 i (by omega)).2.1⟩, fun h0 => ?_⟩
    have k0 := (hf2 0 (by omega)).2.2.1
    obtain ⟨b, off, spot⟩ := a'
    have hspot : spot = none := by simpa [Addr.add] using World.cell?_spot k0
    subst hspot
    refine ⟨b, off, rfl, ?_, fun i hin => ?_⟩
    · have := block_lt_of_cell k0
      simpa [Addr.add] using this
    · have k := (hf2 i (by omega)).2.2
      have e1 : (⟨b, off, none⟩ : Addr).add (i * 2) = ⟨b, off + i * 2, none⟩ := by simp [Addr.add]
      have e2 : (⟨b, off, none⟩ : Addr).add (i * 2 + 1) = ⟨b, off + i * 2 + 1, none⟩ := by simp [Addr.add]; omega
      rw [e1, e2] at k
      exact k
theorem Dots.below {w w' : World} {a : Option Addr} {len cap : Nat} {X Y : Nat → Int} {B : Nat} (D : Dots w a len cap X Y) (h : Below B w w') (hB : w.heap.size ≤ B) : Dots w' a len cap X Y :=
  ⟨D.hm, D.hl, D.wf, fun h0 => by
    obtain ⟨b, off, rfl, hb, hc⟩ := D.at' h0
    exact ⟨b, off, rfl, by have := h.size; omega, fun i hi => ⟨(h.cell (p := ⟨b, _, none⟩) (by show b < B; omega)).trans (hc i hi).1, (h.cell (p := ⟨b, _, none⟩) (by show b < B; omega)).trans (hc i hi).2⟩⟩⟩
end Go.Proofs.Ytbpmbdnhfkfkhaa
namespace Go.Proofs.Ytbpmbdnhfkfkhaa
open Go.RowKit
set_option linter.unusedVariables false
set_option linter.unusedSimpArgs false

theorem rTIn_any (n : Int) (w : World) :
    Calls Try.prog 62 #[.int .i64 n, .int .i64 4503599627370496] w fun e w' => e = .returned (.bool (decide (inT n))) ∧ w' = w := by
  by_cases h : n ≤ 4503599627370496
  · have E := Lib.hid (show decide (inT n) = decide (-4503599627370496 ≤ n) by rw [decide_eq_decide]; unfold inT; omega)
    rw [E.out]
    go_enter Try.func62, Try.ntmps62
    go_wp2
    go_ret
    exact ⟨retB (by simp [h]), rfl⟩
  · have E := Lib.hid (show decide (inT n) = false by rw [decide_eq_false_iff_not]; unfold inT; omega)
    rw [E.out]
    go_enter Try.func62, Try.ntmps62
    go_wp2
    go_ret
    exact ⟨retB (by simp [h]), rfl⟩
set_option maxHeartbeats 8000000 in
theorem rTRight_any (a : Option Addr) (len cap : Nat) (X Y : Nat → Int) (w : World) (hmax : len ≤ 100) (D : Dots w a len cap X Y) :
    Calls Try.prog 46 #[.slice a len cap] w fun e w' => e = .returned (.int .i64 (rightN len X Y)) ∧ Below w.heap.size w w' := by
  have HD := Lib.hid D
  clear D
  by_cases c : len < 2
  · have E := Lib.hid (show rightN len X Y = 42 by unfold rightN; rw [if_pos (Or.inl c)])
    rw [E.out]
    go_enter Try.func46, Try.ntmps46
    go_wp2
    go_ret
    exact ⟨rfl, by repeat (first | exact Below.refl _ _ | assumption | refine Below.setCell ?_ (by first | omega | (simp; done) | (simp; omega)) _ | refine Below.alloc ?_ (by first | omega | (simp; done) | (simp; omega)) _ | refine below_drewN ?_ _ | refine Below.drew ?_ | refine Below.trans ?_ (Below.mono (by assumption) (by first | omega | (simp; done) | (simp; omega))))⟩
  · by_cases c2 : 32 < len
    · have E := Lib.hid (show rightN len X Y = 42 by unfold rightN; rw [if_pos (Or.inr c2)])
      rw [E.out]
      go_enter Try.func46, Try.ntmps46
      go_wp2
      go_ret
      exact ⟨rfl, by repeat (first | exact Below.refl _ _ | assumption | refine Below.setCell ?_ (by first | omega | (simp; done) | (simp; omega)) _ | refine Below.alloc ?_ (by first | omega | (simp; done) | (simp; omega)) _ | refine below_drewN ?_ _ | refine Below.drew ?_ | refine Below.trans ?_ (Below.mono (by assumption) (by first | omega | (simp; done) | (simp; omega))))⟩
    · obtain ⟨R, hR⟩ : ∃ R, rightF X Y len 0 = R := ⟨_, rfl⟩
      have E := Lib.hid (show rightN len X Y = R by unfold rightN; rw [if_neg (by omega)]; exact hR)
      rw [E.out]
      have HR := Lib.hid hR
      clear hR E
      go_enter Try.func46, Try.ntmps46
      go_wp2
      go_loopw [3] (fun i wr => ∃ (k j : Nat), k + j = len ∧ i = .int .i64 j ∧ rightF X Y k j = R ∧ Below w.heap.size w wr) (fun i _ => len - (intOf i).toNat)
      case atStart => exact ⟨len, 0, by omega, rfl, HR.out, Below.refl _ _⟩
      case round =>
        clear HR
        obtain ⟨kk, j, hj, rfl, HR, HB⟩ := hrel
        have HR := Lib.hid HR
        have HB := Lib.hid HB
        cases kk with
        | zero =>
          have EE : (0 : Int) = R := HR.out
          have hje : j = len := by omega
          go_wp2
          go_ret
          exact ⟨retI EE, HB.out⟩
        | succ k =>
          have hlt : j < len := by omega
          have sz := HB.out.size
          obtain ⟨b, off, rfl, hb, hcell⟩ := HD.out.at' (by omega)
          have c0 : wr.cell? ⟨b, off + j * 2, none⟩ = some (.int .i64 (X j)) := by rw [HB.out.cell (p := ⟨b, off + j * 2, none⟩) hb]; exact (hcell j hlt).1
          have c1 : wr.cell? ⟨b, off + j * 2 + 1, none⟩ = some (.int .i64 (Y j)) := by rw [HB.out.cell (p := ⟨b, off + j * 2 + 1, none⟩) hb]; exact (hcell j hlt).2
          go_wp2_with fail
          refine (rTIn_any (X j) _).mono ?_
          rintro e w1 ⟨rfl, rfl⟩
          by_cases x1 : inT (X j)
          · have t1 : decide (inT (X j)) = true := decide_eq_true x1
            go_wp2_with fail
            refine (rTIn_any (Y j) _).mono ?_
            rintro e w2 ⟨rfl, rfl⟩
            by_cases y1 : inT (Y j)
            · have t2 : decide (inT (Y j)) = true := decide_eq_true y1
              by_cases j0 : j = 0
              · subst j0
                have ER := Lib.hid (show errAt X Y 0 = 0 by unfold errAt; rw [if_pos ⟨x1, y1⟩, if_neg (by omega)])
                try rw [show ((0 : Nat) : Int) = 0 from rfl]
                go_wp2_with fail
                have HB2 := Lib.hid HB.out.drew
                refine wp_region_held_drew (S := fun W => True) (by kernel_rfl) trivial (fun hHeld => ?_)
                refine tkD 0 34 (v := ?_) ?_ hHeld ?_
                rotate_left 1
                (intro W hSw; (try dsimp only at hSw); go_simp; try with_reducible rfl)
                (try simp only [putA, putB, putC, putD])
                refine tkD 1 35 (v := ?_) ?_ hHeld ?_
                rotate_left 1
                (intro W hSw; (try dsimp only at hSw); go_simp; try with_reducible rfl)
                (try simp only [putA, putB, putC, putD])
                refine tkD 2 36 (v := ?_) ?_ hHeld ?_
                rotate_left 1
                (intro W hSw; (try dsimp only at hSw); go_simp; try with_reducible rfl)
                (try simp only [putA, putB, putC, putD])
                refine wpAnyH_skipD 3 37 (by kernel_rfl) (by kernel_rfl) (by kernel_rfl) (by kernel_rfl) (by rfl) (fun _ _ _ h => h) hHeld ?_
                (try simp only [putA, putB, putC, putD])
                refine wpAnyH_skipD 4 38 (by kernel_rfl) (by kernel_rfl) (by kernel_rfl) (by kernel_rfl) (by rfl) (fun _ _ _ h => h) hHeld ?_
                (try simp only [putA, putB, putC, putD])
                refine wpAnyH_skipD 5 39 (by kernel_rfl) (by kernel_rfl) (by kernel_rfl) (by kernel_rfl) (by rfl) (fun _ _ _ h => h) hHeld ?_
                (try simp only [putA, putB, putC, putD])
                refine wpAnyH_skipD 6 40 (by kernel_rfl) (by kernel_rfl) (by kernel_rfl) (by kernel_rfl) (by rfl) (fun _ _ _ h => h) hHeld ?_
                (try simp only [putA, putB, putC, putD])
                refine wpAnyH_skipD 7 41 (by kernel_rfl) (by kernel_rfl) (by kernel_rfl) (by kernel_rfl) (by rfl) (fun _ _ _ h => h) hHeld ?_
                (try simp only [putA, putB, putC, putD])
                refine wpAnyH_skipD 8 42 (by kernel_rfl) (by kernel_rfl) (by kernel_rfl) (by kernel_rfl) (by rfl) (fun _ _ _ h => h) hHeld ?_
                (try simp only [putA, putB, putC, putD])
                refine wpAnyH_skipD 9 43 (by kernel_rfl) (by kernel_rfl) (by kernel_rfl) (by kernel_rfl) (by rfl) (fun _ _ _ h => h) hHeld ?_
                (try simp only [putA, putB, putC, putD])
                refine wpAnyH_skipD 10 44 (by kernel_rfl) (by kernel_rfl) (by kernel_rfl) (by kernel_rfl) (by rfl) (fun _ _ _ h => h) hHeld ?_
                (try simp only [putA, putB, putC, putD])
                refine wpAnyH_skipD 11 45 (by kernel_rfl) (by kernel_rfl) (by kernel_rfl) (by kernel_rfl) (by rfl) (fun _ _ _ h => h) hHeld ?_
                (try simp only [putA, putB, putC, putD])
                refine wpAnyH_skipD 12 46 (by kernel_rfl) (by kernel_rfl) (by kernel_rfl) (by kernel_rfl) (by rfl) (fun _ _ _ h => h) hHeld ?_
                (try simp only [putA, putB, putC, putD])
                refine wpAnyH_skipD 13 47 (by kernel_rfl) (by kernel_rfl) (by kernel_rfl) (by kernel_rfl) (by rfl) (fun _ _ _ h => h) hHeld ?_
                (try simp only [putA, putB, putC, putD])
                refine wpAnyH_skipD 14 48 (by kernel_rfl) (by kernel_rfl) (by kernel_rfl) (by kernel_rfl) (by rfl) (fun _ _ _ h => h) hHeld ?_
                (try simp only [putA, putB, putC, putD])
                refine tkD 15 49 (v := ?_) ?_ hHeld ?_
                rotate_left 1
                (intro W hSw; (try dsimp only at hSw); go_simp; try with_reducible rfl)
                (try simp only [putA, putB, putC, putD])
                refine wpAnyH_done (by kernel_rfl) ?_ _
                have HR2 := Lib.hid (show rightF X Y k (0 + 1) = R by rw [← HR.out]; symm; show (if errAt X Y (0) = 0 then rightF X Y k (0 + 1) else errAt X Y (0)) = _; rw [if_pos ER.out])
                go_wp2
                go_roundw
                case rel => exact ⟨k, 0 + 1, by omega, by go_num, HR2.out, HB2.out⟩
                case measure => simp [intOf]; omega
              · obtain ⟨i, hij⟩ : ∃ i, i + 1 = j := ⟨j - 1, by omega⟩
                have d0 : w2.cell? ⟨b, off + i * 2, none⟩ = some (.int .i64 (X i)) := by rw [HB.out.cell (p := ⟨b, off + i * 2, none⟩) hb]; exact (hcell i (by omega)).1
                have v1 : IntKind.i64.wrap ((j : Int) - 1) = (i : Int) := by rw [show (j : Int) - 1 = (i : Int) by omega]; exact IntWalk.i64_in _ (by omega)
                have g0 : (0 : Int) < (j : Int) := by omega
                have HB2 := Lib.hid HB.out.drew
                have hi1 : i < len := by omega
                have HE := Lib.hid (show errAt X Y j = if X j ≤ X i then 41 else 0 by
                  unfold errAt; rw [if_pos ⟨x1, y1⟩, show j - 1 = i by omega]
                  by_cases g : X j ≤ X i
                  · rw [if_pos ⟨by omega, g⟩, if_pos g]
                  · rw [if_neg (fun h => g h.2), if_neg g])
                go_wp2_with fail
                refine wp_region_held_drew (S := fun W => W.cell? ⟨b, off + j * 2, none⟩ = some (.int .i64 (X j)) ∧ W.cell? ⟨b, off + i * 2, none⟩ = some (.int .i64 (X i))) (by kernel_rfl) ⟨c0, d0⟩ (fun hHeld => ?_)
                refine tkD 0 34 (v := ?_) ?_ hHeld ?_
                rotate_left 1
                (intro W hSw; (try dsimp only at hSw); go_simp; try with_reducible rfl)
                (try simp only [putA, putB, putC, putD])
                refine tkD 1 35 (v := ?_) ?_ hHeld ?_
                rotate_left 1
                (intro W hSw; (try dsimp only at hSw); go_simp; try with_reducible rfl)
                (try simp only [putA, putB, putC, putD])
                refine tkD 2 36 (v := ?_) ?_ hHeld ?_
                rotate_left 1
                (intro W hSw; (try dsimp only at hSw); go_simp; try with_reducible rfl)
                (try simp only [putA, putB, putC, putD])
                rw [decide_eq_true (show 0 < j by omega)]
                refine tkD 3 37 (v := ?_) ?_ hHeld ?_
                rotate_left 1
                (intro W hSw; (try dsimp only at hSw); go_simp; try with_reducible rfl)
                (try simp only [putA, putB, putC, putD])
                refine tkD 4 38 (v := ?_) ?_ hHeld ?_
                rotate_left 1
                (intro W hSw; (try dsimp only at hSw); go_simp; try with_reducible rfl)
                (try simp only [putA, putB, putC, putD])
                refine tkD 5 39 (v := ?_) ?_ hHeld ?_
                rotate_left 1
                (intro W hSw; (try dsimp only at hSw); go_simp; try with_reducible rfl)
                (try simp only [putA, putB, putC, putD])
                refine tkD 6 40 (v := ?_) ?_ hHeld ?_
                rotate_left 1
                (intro W hSw; (try dsimp only at hSw); go_simp; try with_reducible rfl)
                (try simp only [putA, putB, putC, putD])
                refine tkD 7 41 (v := ?_) ?_ hHeld ?_
                rotate_left 1
                (intro W hSw; (try dsimp only at hSw); go_simp; try with_reducible rfl)
                (try simp only [putA, putB, putC, putD])
                refine tkD 8 42 (v := ?_) ?_ hHeld ?_
                rotate_left 1
                (intro W hSw; (try dsimp only at hSw); go_simp; try with_reducible rfl)
                (try simp only [putA, putB, putC, putD])
                refine tkD 9 43 (v := ?_) ?_ hHeld ?_
                rotate_left 1
                (intro W hSw; (try dsimp only at hSw); go_simp; try with_reducible rfl)
                (try simp only [putA, putB, putC, putD])
                refine tkD 10 44 (v := ?_) ?_ hHeld ?_
                rotate_left 1
                (intro W hSw; (try dsimp only at hSw); go_simp; try with_reducible rfl)
                (try simp only [putA, putB, putC, putD])
                refine tkD 11 45 (v := ?_) ?_ hHeld ?_
                rotate_left 1
                (intro W hSw; (try dsimp only at hSw); go_simp; try with_reducible rfl)
                (try simp only [putA, putB, putC, putD])
                refine tkD 12 46 (v := ?_) ?_ hHeld ?_
                rotate_left 1
                (intro W hSw; (try dsimp only at hSw); go_simp; try with_reducible rfl)
                (try simp only [putA, putB, putC, putD])
                refine tkD 13 47 (v := ?_) ?_ hHeld ?_
                rotate_left 1
                (intro W hSw; (try dsimp only at hSw); go_simp; try with_reducible rfl)
                (try simp only [putA, putB, putC, putD])
                refine tkD 14 48 (v := ?_) ?_ hHeld ?_
                rotate_left 1
                (intro W hSw; (try dsimp only at hSw); go_simp; try with_reducible rfl)
                (try simp only [putA, putB, putC, putD])
                refine tkD 15 49 (v := ?_) ?_ hHeld ?_
                rotate_left 1
                (intro W hSw; (try dsimp only at hSw); go_simp; try with_reducible rfl)
                (try simp only [putA, putB, putC, putD])
                refine wpAnyH_done (by kernel_rfl) ?_ _
                clear hHeld
                by_cases g : X j ≤ X i
                · have ER := Lib.hid (HE.out.trans (if_pos g))
                  have EE : (41 : Int) = R := by rw [← HR.out]; symm; show (if errAt X Y (j) = 0 then rightF X Y k (j + 1) else errAt X Y (j)) = _; rw [ER.out]; simp
                  go_wp2
                  go_ret
                  exact ⟨retI EE, HB2.out⟩
                · have ER := Lib.hid (HE.out.trans (if_neg g))
                  have HR2 := Lib.hid (show rightF X Y k (j + 1) = R by rw [← HR.out]; symm; show (if errAt X Y (j) = 0 then rightF X Y k (j + 1) else errAt X Y (j)) = _; rw [if_pos ER.out])
                  go_wp2
                  go_roundw
                  case rel => exact ⟨k, j + 1, by omega, by go_num, HR2.out, HB2.out⟩
                  case measure => simp [intOf]; omega
            · have t2 : decide (inT (Y j)) = false := decide_eq_false y1
              have ER := Lib.hid (show errAt X Y j = 40 by unfold errAt; rw [if_neg (fun h => y1 h.2)])
              have EE : (40 : Int) = R := by rw [← HR.out]; symm; show (if errAt X Y (j) = 0 then rightF X Y k (j + 1) else errAt X Y (j)) = _; rw [ER.out]; simp
              go_wp2
              go_ret
              exact ⟨retI EE, HB.out⟩
          · have t1 : decide (inT (X j)) = false := decide_eq_false x1
            have ER := Lib.hid (show errAt X Y j = 40 by unfold errAt; rw [if_neg (fun h => x1 h.1)])
            have EE : (40 : Int) = R := by rw [← HR.out]; symm; show (if errAt X Y (j) = 0 then rightF X Y k (j + 1) else errAt X Y (j)) = _; rw [ER.out]; simp
            go_wp2
            go_ret
            exact ⟨retI EE, HB.out⟩
end Go.Proofs.Ytbpmbdnhfkfkhaa
namespace Go.Proofs.Ytbpmbdnhfkfkhaa
open Go.RowKit
set_option linter.unusedVariables false
set_option linter.unusedSimpArgs false

theorem wrap_last {len n : Nat} (hn : n + 1 = len) (h : len ≤ 100) : IntKind.i64.wrap ((len : Int) - 1) = (n : Int) ∧ wrap64 ((len : Int) - 1) = (n : Int) := by
  have e : (len : Int) - 1 = (n : Int) := by omega
  rw [e]
  exact ⟨IntWalk.i64_in _ (by omega), by unfold wrap64; omega⟩
theorem wrap_next {c d len : Nat} (hd : c + 1 = d) (h : d < len) (h2 : len ≤ 100) : IntKind.i64.wrap ((c : Int) + 1) = (d : Int) ∧ wrap64 ((c : Int) + 1) = (d : Int) ∧ IntKind.i64.wrap (d : Int) = (d : Int) ∧ wrap64 (d : Int) = (d : Int) := by
  have e : (c : Int) + 1 = (d : Int) := by omega
  rw [e]
  exact ⟨IntWalk.i64_in _ (by omega), by unfold wrap64; omega, IntWalk.i64_in _ (by omega), by unfold wrap64; omega⟩
theorem BW.h2'' {W : World} {n : Nat} {a b : Value} (k : BW W n [a, b]) : W.cell? ⟨n, 0, none⟩ = some a ∧ W.cell? ⟨n, 1, none⟩ = some b := ⟨k.c 0 _ rfl, k.c 1 _ rfl⟩
end Go.Proofs.Ytbpmbdnhfkfkhaa
namespace Go.Proofs.Ytbpmbdnhfkfkhaa
open Go.RowKit
set_option linter.unusedVariables false
set_option linter.unusedSimpArgs false

theorem Dots.fx {W W' : World} {a : Option Addr} {len cap : Nat} {X Y : Nat → Int} {b k : Nat} {q : Bool} (D : Dots W a len cap X Y) (h : FxW W.heap.size W b k q W') (hne : 0 < len → ∀ p, a = some p → p.block ≠ b) : Dots W' a len cap X Y :=
  ⟨D.hm, D.hl, D.wf, fun h0 => by
    obtain ⟨bs, off, rfl, hb, hc⟩ := D.at' h0
    have ne : b ≠ bs := fun e => hne h0 _ rfl e.symm
    exact ⟨bs, off, rfl, by have := h.size; omega, fun i hi => ⟨(h.cell hb ne).trans (hc i hi).1, (h.cell hb ne).trans (hc i hi).2⟩⟩⟩
theorem Dots.off {W : World} {a : Option Addr} {len cap : Nat} {X Y : Nat → Int} (D : Dots W a len cap X Y) (h : 0 < len) {n : Nat} (hn : W.heap.size ≤ n) : ∀ p, a = some p → p.block ≠ n := by
  intro p hp
  obtain ⟨b, off, rfl, hb, _⟩ := D.at' h
  cases hp
  show b ≠ n
  omega
def exX (i : Nat) : Int := if i = 0 then 0 else 17179869184
def exY (i : Nat) : Int := if i = 0 then 4294967296 else 12884901888
theorem ex_ev : evalN 2 exX exY 4294967296 = 6442450944 ∧ evalN 2 exX exY (-21474836480) = 4294967296 ∧ evalN 2 exX exY 38654705664 = 12884901888 ∧ rightN 2 exX exY = 0 ∧ (false || evalO 2 exX exY 4294967296) = false ∧ (false || evalO 2 exX exY (-21474836480)) = false ∧ (false || evalO 2 exX exY 38654705664) = false ∧ rightN 0 exX exY = 42 := by decide +kernel
theorem ex_dots {W : World} {n : Nat} (B : BW W n [.int .i64 0, .int .i64 4294967296, .int .i64 17179869184, .int .i64 12884901888]) : Dots W (some ⟨n, 0, none⟩) 2 2 exX exY := by
  refine ⟨by unfold maxLen; omega, by omega, fun i h => ?_, fun _ => ⟨n, 0, rfl, B.lt, fun i h => ?_⟩⟩
  · obtain rfl | rfl : i = 0 ∨ i = 1 := by omega
    · exact ⟨by decide, by decide⟩
    · exact ⟨by decide, by decide⟩
  · obtain rfl | rfl : i = 0 ∨ i = 1 := by omega
    · exact ⟨B.c 0 _ rfl, B.c 1 _ rfl⟩
    · exact ⟨B.c 2 _ rfl, B.c 3 _ rfl⟩
theorem nil_dots {W : World} : Dots W none 0 0 exX exY := ⟨by unfold maxLen; omega, by omega, fun i h => absurd h (by omega), fun h => absurd h (by omega)⟩
end Go.Proofs.Ytbpmbdnhfkfkhaa
namespace Go.Proofs.Ytbpmbdnhfkfkhaa
open Go.RowKit
set_option linter.unusedVariables false
set_option linter.unusedSimpArgs false

/-- a slice of numbers, among the blocks below B -/
structure Nums (B : Nat) (w : World) (s : Sl) : Prop where
  hm : s.c ≤ maxLen
  hl : s.n ≤ s.c
  wf : ∀ i, i < s.n → (Lit.int .i64 (s.v i)).wf = true
  at' : 0 < s.n → ∃ b off, s.a = some ⟨b, off, none⟩ ∧ b < B ∧ ∀ i, i < s.n → w.cell? ⟨b, off + i, none⟩ = some (.int .i64 (s.v i))
/-- a pane, among the blocks below B -/
structure Pan (B : Nat) (w : World) (p : Pn) : Prop where
  x : Nums B w p.x
  y : Nums B w p.y
  hm : p.c ≤ maxLen
  hl : p.n ≤ p.c
  at' : 0 < p.n → ∃ b off, p.a = some ⟨b, off, none⟩ ∧ b < B ∧ ∀ i, i < p.n → w.cell? ⟨b, off + i, none⟩ = some (.slice (p.r i).a (p.r i).n (p.r i).c)
  r : ∀ i, i < p.n → Nums B w (p.r i)
theorem Nums.keep {B C : Nat} {w w' : World} {s : Sl} (k : Nums B w s) (h : Below C w w') (hB : B ≤ C) : Nums B w' s :=
  ⟨k.hm, k.hl, k.wf, fun h0 => by
    obtain ⟨b, off, e, hb, hc⟩ := k.at' h0
    exact ⟨b, off, e, hb, fun i hi => (h.cell (p := ⟨b, _, none⟩) (by show b < C; omega)).trans (hc i hi)⟩⟩
theorem Pan.keep {B C : Nat} {w w' : World} {p : Pn} (k : Pan B w p) (h : Below C w w') (hB : B ≤ C) : Pan B w' p :=
  ⟨k.x.keep h hB, k.y.keep h hB, k.hm, k.hl, fun h0 => by
    obtain ⟨b, off, e, hb, hc⟩ := k.at' h0
    exact ⟨b, off, e, hb, fun i hi => (h.cell (p := ⟨b, _, none⟩) (by show b < C; omega)).trans (hc i hi)⟩, fun i hi => (k.r i hi).keep h hB⟩
theorem Pan.fx {B b k : Nat} {q : Bool} {W W' : World} {p : Pn} (K : Pan B W p) (h : FxW W.heap.size W b k q W') (hB : B ≤ b) (hW : B ≤ W.heap.size) : Pan B W' p :=
  K.keep (h.below hW hB) (Nat.le_refl _)
/-- few of all -/
def fewP (p : Pn) : Prop := p.x.n ≤ 40 ∧ p.y.n ≤ 40 ∧ p.n ≤ 40 ∧ ∀ i, i < p.n → (p.r i).n ≤ 40
/-- points one behind the other, as values -/
def dotL (X Y : Nat → Int) : Nat → List Value
  | 0 => []
  | n + 1 => dotL X Y n ++ [.int .i64 (X n), .int .i64 (Y n)]
theorem dotL_len (X Y : Nat → Int) : ∀ n, (dotL X Y n).length = n * 2
  | 0 => rfl
  | n + 1 => by show (dotL X Y n ++ _).length = _; rw [List.length_append, dotL_len X Y n]; simp; omega
theorem dotL_at (X Y : Nat → Int) : ∀ n i, i < n → (dotL X Y n)[i * 2]? = some (.int .i64 (X i)) ∧ (dotL X Y n)[i * 2 + 1]? = some (.int .i64 (Y i))
  | 0, i, h => absurd h (by omega)
  | n + 1, i, h => by
    show (dotL X Y n ++ _)[i * 2]? = _ ∧ (dotL X Y n ++ _)[i * 2 + 1]? = _
    rcases Nat.lt_or_ge i n with l | l
    · have := dotL_len X Y n
      rw [List.getElem?_append_left (by omega), List.getElem?_append_left (by omega)]
      exact dotL_at X Y n i l
    · have e : i = n := by omega
      subst e
      have := dotL_len X Y i
      rw [List.getElem?_append_right (by omega), List.getElem?_append_right (by omega), this]
      rw [show i * 2 - i * 2 = 0 by omega, show i * 2 + 1 - i * 2 = 1 by omega]
      exact ⟨rfl, rfl⟩
theorem dotL_congr {X Y X' Y' : Nat → Int} : ∀ n, (∀ i, i < n → X i = X' i ∧ Y i = Y' i) → dotL X Y n = dotL X' Y' n
  | 0, _ => rfl
  | n + 1, h => by
    show dotL X Y n ++ _ = dotL X' Y' n ++ _
    rw [dotL_congr n (fun i hi => h i (by omega)), (h n (by omega)).1, (h n (by omega)).2]
/-- a list of points made by append reads as those points -/
theorem owned_dots {w : World} {base : Nat} {e : TypeId} {v : Value} {n : Nat} {X Y : Nat → Int} (h : w.ownsRow base e 2 v n (dotL X Y n)) (wf : ∀ i, i < n → (Lit.int .i64 (X i)).wf = true ∧ (Lit.int .i64 (Y i)).wf = true) :
    ∃ a c, v = .slice a n c ∧ Dots w a n c X Y ∧ ∀ p, a = some p → base ≤ p.block := by
  have hc := fun {g : Nat} (hg : v.ownBlock = some g) => h.cells hg
  obtain ⟨_, ⟨rfl, rfl⟩ | ⟨g, cap, cur, rfl, hb, hg, hn, hm, hs, ht⟩⟩ := h
  · exact ⟨none, 0, rfl, ⟨by unfold maxLen; omega, by omega, wf, fun h => absurd h (by omega)⟩, fun p e => by cases e⟩
  · refine ⟨_, cap, rfl, ⟨hm, hn, wf, fun h0 => ⟨g, 0, rfl, ?_, fun i hi => ?_⟩⟩, fun p e => by cases e; exact hb⟩
    · rcases Nat.lt_or_ge g w.heap.size with l | l
      · exact l
      · rw [Array.getElem?_eq_none l] at hg; cases hg
    · obtain ⟨d0, d1⟩ := dotL_at X Y n i hi
      have k0 := hc (g := g) rfl _ _ d0
      have k1 := hc (g := g) rfl _ _ d1
      have a0 : (⟨g, 0, none⟩ : Addr).add (i * 2) = ⟨g, 0 + i * 2, none⟩ := by simp [Addr.add]; omega
      have a1 : (⟨g, 0, none⟩ : Addr).add (i * 2 + 1) = ⟨g, 0 + i * 2 + 1, none⟩ := by simp [Addr.add]
      rw [a0] at k0
      rw [a1] at k1
      exact ⟨k0, k1⟩
theorem wf_in {n : Int} (h : In64 n) : (Lit.int .i64 n).wf = true := by
  unfold In64 at h
  simp [Lit.wf, IntKind.min, IntKind.max, IntKind.signed, IntKind.bits]
  omega
theorem wf_inT {n : Int} (h : inT n) : (Lit.int .i64 n).wf = true := wf_in (by unfold inT at h; unfold In64; omega)
theorem below_grown {w w' : World} (h : Below w.heap.size w w') (row : Option Nat) : w.grownBy w' row := ⟨h.os, h.tape, h.output, h.size, fun k hk _ => h.block k hk⟩
theorem fx_grown {W W' : World} {b k : Nat} {q : Bool} (h : FxW W.heap.size W b k q W') : W.grownBy W' (some b) :=
  ⟨h.os, h.tape, h.output, by have := h.size; exact this, fun g hg e => (h.block g hg).trans (Below.heap_setCell W ⟨b, k, none⟩ _ g (fun c => e (by rw [c])))⟩
theorem own_below {w w' : World} {base : Nat} {e : TypeId} {size : Nat} {v : Value} {n : Nat} {xs : List Value} (h : w.ownsRow base e size v n xs) (hb : Below w.heap.size w w') : w'.ownsRow base e size v n xs :=
  h.kept (below_grown hb none) (by cases v.ownBlock with | none => exact Or.inl rfl | some g => exact Or.inr (by simp))
theorem own_fx {w w' : World} {base : Nat} {e : TypeId} {size : Nat} {v : Value} {n : Nat} {xs : List Value} {b k : Nat} {q : Bool} (h : w.ownsRow base e size v n xs) (hf : FxW w.heap.size w b k q w') (hb : b < base) : w'.ownsRow base e size v n xs :=
  h.kept (fx_grown hf) (Or.inr (fun c => by have := (h.lt b c).1; omega))
def Sl.off (s : Sl) (b : Nat) : Prop := 0 < s.n → ∀ q, s.a = some q → q.block ≠ b
theorem Nums.off {B : Nat} {w : World} {s : Sl} (k : Nums B w s) {b : Nat} (h : B ≤ b) : s.off b := fun h0 q e => by
  obtain ⟨n, o, e2, hb, _⟩ := k.at' h0
  rw [e2] at e; cases e; show n ≠ b; omega
theorem Nums.fxo {B b k : Nat} {q : Bool} {W W' : World} {s : Sl} (K : Nums B W s) (h : FxW W.heap.size W b k q W') (hB : B ≤ W.heap.size) (ho : s.off b) : Nums B W' s :=
  ⟨K.hm, K.hl, K.wf, fun h0 => by
    obtain ⟨n, off, e, hb, hc⟩ := K.at' h0
    exact ⟨n, off, e, hb, fun i hi => (h.cell (by show n < W.heap.size; omega) (fun c => ho h0 _ e c.symm)).trans (hc i hi)⟩⟩
end Go.Proofs.Ytbpmbdnhfkfkhaa

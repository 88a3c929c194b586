/- awake of the laws of fences. -/
import Derived.Test.YtllkhgcokbpggaaVk
import Derived.Test.YtllkhgcokbpggaaBe
import Derived.Test.YtllkhgcokbpggaaBm
namespace Go.Proofs.Ytllkhgcokbpggaa
open Go.RowKit
set_option linter.unusedVariables false
set_option linter.unusedSimpArgs false

/-- the example's bar -/
def exF : Fv := ⟨0, 0, 17179869184, 0, 0⟩
theorem ex_bey : beyondN ⟨0, 0⟩ ⟨17179869184, 0⟩ ⟨4294967296, -8589934592⟩ = 8589934592 := by
  have e : sqP ⟨0, 0⟩ ⟨17179869184, 0⟩ = 295147905179352825856 := by decide
  obtain ⟨r0, -, -⟩ := root_isq (S := 295147905179352825856) (by omega) (by omega)
  have i : isq (295147905179352825856 : Int).toNat 36 0 = 17179869184 := by decide +kernel
  have A : area ⟨0, 0⟩ ⟨17179869184, 0⟩ ⟨4294967296, -8589934592⟩ = -147573952589676412928 := by decide
  unfold beyondN
  rw [if_pos (by refine ⟨⟨?_, ?_, ?_⟩, ?_, ?_, ?_⟩ <;> first | (unfold Pt.near Rg; decide) | decide), e, r0, i, A]
  decide
theorem ex_beh {g : Nat → Fv} (h : g 0 = exF) : behF g 1 4294967296 (-8589934592) 17179869184 = (0, 8589934592) := by
  have e : behI g 4294967296 (-8589934592) 17179869184 1 = if (0 < beyondN ⟨(g 0).ax, (g 0).ay⟩ ⟨(g 0).bx, (g 0).by'⟩ ⟨4294967296, -8589934592⟩ ∧ beyondN ⟨(g 0).ax, (g 0).ay⟩ ⟨(g 0).bx, (g 0).by'⟩ ⟨4294967296, -8589934592⟩ ≤ 17179869184) ∧ ((-1 : Int) < 0 ∨ beyondN ⟨(g 0).ax, (g 0).ay⟩ ⟨(g 0).bx, (g 0).by'⟩ ⟨4294967296, -8589934592⟩ < 0) then (((0 : Nat) : Int), beyondN ⟨(g 0).ax, (g 0).ay⟩ ⟨(g 0).bx, (g 0).by'⟩ ⟨4294967296, -8589934592⟩) else (-1, 0) := rfl
  unfold behF
  rw [if_pos (by omega), e, h]
  show (if (0 < beyondN ⟨0, 0⟩ ⟨17179869184, 0⟩ ⟨4294967296, -8589934592⟩ ∧ beyondN ⟨0, 0⟩ ⟨17179869184, 0⟩ ⟨4294967296, -8589934592⟩ ≤ 17179869184) ∧ ((-1 : Int) < 0 ∨ beyondN ⟨0, 0⟩ ⟨17179869184, 0⟩ ⟨4294967296, -8589934592⟩ < 0) then (((0 : Nat) : Int), beyondN ⟨0, 0⟩ ⟨17179869184, 0⟩ ⟨4294967296, -8589934592⟩) else (-1, 0)) = _
  rw [ex_bey]
  decide
theorem ex_brk {g : Nat → Fv} (h : g 0 = exF) : brkI g 1 4294967296 4294967296 4294967296 (-4294967296) = [0] ∧ brkI g 1 4294967296 (-4294967296) 4294967296 4294967296 = [] := by
  have S : ∀ a b c d, selI (fun i => decide (brP (g i) a b c d)) 1 = [] ++ (if decide (brP (g 0) a b c d) = true then [((0 : Nat) : Int)] else []) := fun _ _ _ _ => rfl
  constructor
  · unfold brkI
    rw [if_pos (by unfold Pt.near Rg inF; decide), S, h, if_pos (by decide +kernel)]
    rfl
  · unfold brkI
    rw [if_pos (by unfold Pt.near Rg inF; decide), S, h, if_neg (by decide +kernel)]
    rfl
/-- the example -/
def fenK (n : Nat) : Tk := ⟨{ fnilT with ra := some ⟨n + 1, 0, none⟩, rn := 1, rc := 1 }, fun _ => (0, 0), fun _ => ⟨some ⟨n, 0, none⟩, 2, 2, fun i => if i = 0 then 0 else 17179869184, fun _ => 0⟩, fun _ => ⟨0, 0, 0, 0, false⟩⟩
theorem fen_bar (n : Nat) : barN (fenK n) (fenK n).t.rn = 1 ∧ barG (fenK n) 0 = exF := ⟨rfl, rfl⟩
theorem fen_few (n : Nat) : fewR (fenK n) := ⟨by show 0 ≤ 100; omega, by show 1 ≤ 20; omega, by show 0 ≤ 20; omega, fun i _ => by show 2 ≤ 100; omega⟩
theorem fen_near (n : Nat) : nearT (fenK n) := fun i _ p _ => by
  show (_ ≤ (if p = 0 then (0 : Int) else 17179869184) ∧ (if p = 0 then (0 : Int) else 17179869184) ≤ _) ∧ _ ≤ (0 : Int) ∧ (0 : Int) ≤ _
  split <;> omega
theorem fenK_m {n B : Nat} {W : World} (h : n + 1 < B) (P : BW W n [.int .i64 0, .int .i64 0, .int .i64 17179869184, .int .i64 0]) (R : BW W (n + 1) [.slice (some ⟨n, 0, none⟩) 2 2]) : TkM B W (fenK n) := by
  have F := fnilT_m B W
  have ml : 2 ≤ maxLen := by unfold maxLen; omega
  have i0 : In64 0 := by unfold In64; omega
  refine ⟨⟨F.H, F.G, F.km, F.kl, F.kw, F.k, F.n⟩, ⟨by show 0 ≤ maxLen; omega, Nat.le_refl _, fun i h => absurd h (by show ¬ i < 0; omega), fun h => absurd h (by show ¬ 0 < 0; omega)⟩, by show 1 ≤ maxLen; omega, Nat.le_refl _, fun _ => ⟨n + 1, 0, rfl, h, fun i hi => ?_⟩, fun i _ => ⟨ml, Nat.le_refl _, fun p _ => ?_, fun _ => ⟨n, 0, rfl, by omega, fun p hp => ?_⟩⟩, by show 0 ≤ maxLen; omega, Nat.le_refl _, fun i h => absurd h (by show ¬ i < 0; omega), fun h => absurd h (by show ¬ 0 < 0; omega), ⟨i0, i0⟩, i0, i0⟩
  · have hi : i < 1 := hi
    have : i = 0 := by omega
    subst this
    exact R.c 0 _ rfl
  · show In64 (if p = 0 then (0 : Int) else 17179869184) ∧ In64 0
    refine ⟨?_, i0⟩
    split <;> (unfold In64; omega)
  · have hp : p < 2 := hp
    rcases (by omega : p = 0 ∨ p = 1) with rfl | rfl
    · exact ⟨P.c 0 _ rfl, P.c 1 _ rfl⟩
    · exact ⟨P.c 2 _ rfl, P.c 3 _ rfl⟩
theorem fat_any (x y : Int) (w : World) (hx : -64 ≤ x ∧ x ≤ 64) (hy : -64 ≤ y ∧ y ≤ 64) :
    Calls Try.prog 32 #[.int .i64 x, .int .i64 y] w fun e w' => e = .returned (.agg #[.int .i64 (x * 4294967296), .int .i64 (y * 4294967296)]) ∧ Below w.heap.size w w' := by
  obtain ⟨u1, v1⟩ := wrap_in' (n := x * 4294967296) (by unfold In64; omega)
  obtain ⟨u2, v2⟩ := wrap_in' (n := y * 4294967296) (by unfold In64; omega)
  go_enter Try.func32, Try.ntmps32
  go_wp2
  exact bodyPost_ret (v := .agg #[.int .i64 (x * 4294967296), .int .i64 (y * 4294967296)]) (by simp [results, Try.results32, go_sem]) rfl ⟨rfl, by repeat (first | exact Below.refl _ _ | assumption | refine Below.setCell ?_ (by first | omega | (simp; done) | (simp; omega)) _ | refine Below.alloc ?_ (by first | omega | (simp; done) | (simp; omega)) _ | refine below_drewN ?_ _ | refine Below.drew ?_ | refine Below.trans ?_ (Below.mono (by assumption) (by first | omega | (simp; done) | (simp; omega))))⟩
set_option maxRecDepth 100000 in
set_option maxHeartbeats 4000000 in
theorem fawake_any16 (F : FenT) (C : FenceC F) : FnAw := by
  intro w
  have HC := Lib.hid C
  clear C
  go_enter Try.func15, Try.ntmps15
  go_wp2_with fail
  refine (fat_any 0 0 _ (by decide) (by decide)).mono ?_
  rintro e w1 ⟨rfl, h⟩
  have B1 := Lib.hid h
  clear h
  go_wp2_with fail
  refine (fat_any 4 0 _ (by decide) (by decide)).mono ?_
  rintro e w2 ⟨rfl, h⟩
  have B2 := Lib.hid (B1.out.trans (h.mono B1.out.size))
  clear h B1
  go_wp2_with fail
  refine calls_gen (S := fun W => (BW W w2.heap.size [.int .i64 0, .int .i64 0, .int .i64 17179869184, .int .i64 0] ∧ BW W (w2.heap.size + 1) [.slice (some ⟨w2.heap.size, 0, none⟩) 2 2]) ∧ Below w.heap.size w W) ⟨⟨(BW.new w2 _ [.int .i64 0, .int .i64 0, .int .i64 17179869184, .int .i64 0] _ rfl).alloc _, BW.new _ _ [.slice (some ⟨w2.heap.size, 0, none⟩) 2 2] _ (by simp)⟩, (B2.out.trans (((Below.refl _ _).alloc (Nat.le_refl _) _).mono B2.out.size)).trans (((Below.refl _ _).alloc (Nat.le_refl _) _).mono (by have := B2.out.size; simp; omega))⟩ (fun W3 hS => ?_)
  have X := HC.out.new (fenK w2.heap.size) W3.heap.size W3 (Nat.le_refl _) (fen_few _) (fen_near _) (fenK_m (by have := hS.1.2.lt; omega) hS.1.1 hS.1.2)
  rw [(fen_bar w2.heap.size).1] at X
  have G0 := Lib.hid (fen_bar w2.heap.size).2
  have BB := Lib.hid (fun (i : Nat) (hi : i < 1) => near_bar (fen_near w2.heap.size) i (by rw [(fen_bar w2.heap.size).1]; exact hi))
  generalize barG (fenK w2.heap.size) = g at *
  have B3 := Lib.hid hS.2
  clear hS B2
  refine X.mono ?_
  rintro e w4 ⟨⟨f, rfl, hF⟩, h⟩
  have P4 := Lib.hid hF
  have B4 := Lib.hid (B3.out.trans (h.mono B3.out.size))
  clear h hF B3 X
  have iy : ∀ {n : Int}, -17179869184 ≤ n ∧ n ≤ 17179869184 → In64 n := fun h => by unfold In64; omega
  obtain ⟨k1, k2⟩ := ex_brk G0.out
  have V1 := Lib.hid (fun (W : World) (P : F.P W3.heap.size w4.heap.size W f 1 g) => HC.out.behind 1 g 4294967296 (-8589934592) 17179869184 _ _ f W (by omega) BB.out ⟨iy (by omega), iy (by omega), iy (by omega)⟩ P)
  have V2 := Lib.hid (fun (W : World) (P : F.P W3.heap.size w4.heap.size W f 1 g) => HC.out.breaks 1 g 4294967296 4294967296 4294967296 (-4294967296) _ _ f W (by omega) BB.out ⟨⟨iy (by omega), iy (by omega)⟩, iy (by omega), iy (by omega)⟩ P)
  have V3 := Lib.hid (fun (W : World) (P : F.P W3.heap.size w4.heap.size W f 1 g) => HC.out.breaks 1 g 4294967296 (-4294967296) 4294967296 4294967296 _ _ f W (by omega) BB.out ⟨⟨iy (by omega), iy (by omega)⟩, iy (by omega), iy (by omega)⟩ P)
  have V4 := Lib.hid (fun (W : World) (P : F.P W3.heap.size w4.heap.size W f 1 g) => HC.out.bars 1 g _ _ f W (by omega) P)
  rw [ex_beh G0.out] at V1
  rw [k1] at V2
  rw [k2] at V3
  clear k1 k2 iy BB HC G0
  go_wp2_with fail
  refine (fat_any 1 (-2) _ (by decide) (by decide)).mono ?_
  rintro e w5 ⟨rfl, h⟩
  have P5 := Lib.hid (F.step P4.out h)
  have B5 := Lib.hid (B4.out.trans (h.mono B4.out.size))
  clear h P4 B4
  go_wp2_with fail
  refine (V1.out _ P5.out).mono ?_
  rintro e w6 ⟨rfl, h⟩
  have P6 := Lib.hid (F.step P5.out h)
  have B6 := Lib.hid (B5.out.trans (h.mono B5.out.size))
  clear h P5 B5
  go_wp2_with fail
  refine (fat_any 1 1 _ (by decide) (by decide)).mono ?_
  rintro e w7 ⟨rfl, h⟩
  have P7 := Lib.hid (F.step P6.out h)
  have B7 := Lib.hid (B6.out.trans (h.mono B6.out.size))
  clear h P6 B6
  go_wp2_with fail
  refine (fat_any 1 (-1) _ (by decide) (by decide)).mono ?_
  rintro e w8 ⟨rfl, h⟩
  have P8 := Lib.hid (F.step P7.out h)
  have B8 := Lib.hid (B7.out.trans (h.mono B7.out.size))
  clear h P7 B7
  go_wp2_with fail
  refine (V2.out _ P8.out).mono ?_
  rintro e w9 ⟨⟨v9, rfl, a9, c9, rfl, -⟩, h⟩
  have P9 := Lib.hid (F.step P8.out h)
  have B9 := Lib.hid (B8.out.trans (h.mono B8.out.size))
  clear h P8 B8
  go_wp2_with fail
  refine (fat_any 1 (-1) _ (by decide) (by decide)).mono ?_
  rintro e w10 ⟨rfl, h⟩
  have P10 := Lib.hid (F.step P9.out h)
  have B10 := Lib.hid (B9.out.trans (h.mono B9.out.size))
  clear h P9 B9
  go_wp2_with fail
  refine (fat_any 1 1 _ (by decide) (by decide)).mono ?_
  rintro e w11 ⟨rfl, h⟩
  have P11 := Lib.hid (F.step P10.out h)
  have B11 := Lib.hid (B10.out.trans (h.mono B10.out.size))
  clear h P10 B10
  go_wp2_with fail
  refine (V3.out _ P11.out).mono ?_
  rintro e w12 ⟨⟨v12, rfl, a12, c12, rfl, -⟩, h⟩
  have P12 := Lib.hid (F.step P11.out h)
  have B12 := Lib.hid (B11.out.trans (h.mono B11.out.size))
  clear h P11 B11
  go_wp2_with fail
  refine (V4.out _ P12.out).mono ?_
  rintro e w13 ⟨⟨a13, c13, rfl, -⟩, h⟩
  have P13 := Lib.hid (F.step P12.out h)
  have B13 := Lib.hid (B12.out.trans (h.mono B12.out.size))
  clear h P12 B12
  go_wp2
  go_ret
  exact ⟨rfl, B13.out⟩
end Go.Proofs.Ytllkhgcokbpggaa

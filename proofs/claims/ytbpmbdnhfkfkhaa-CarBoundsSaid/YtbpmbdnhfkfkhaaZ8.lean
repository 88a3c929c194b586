/- The document's car: a table of points with bounds. -/
import Derived.Test.YtbpmbdnhfkfkhaaZ2
namespace Go.Proofs.Ytbpmbdnhfkfkhaa
open Go.RowKit
set_option linter.unusedVariables false
set_option linter.unusedSimpArgs false

/-- a point that may not be -/
def badD (lo hi : Int) (s : Bool) (x y : Int) : Prop := inC lo hi y = false ∨ s = true ∧ (0 < x ∧ y < 0 ∨ x < 0 ∧ 0 < y)
instance (lo hi : Int) (s : Bool) (x y : Int) : Decidable (badD lo hi s x y) := by unfold badD; exact inferInstance
def badF (lo hi : Int) (s : Bool) (X Y : Nat → Int) : Nat → Nat → Int
  | 0, _ => 0
  | k + 1, j => if badD lo hi s (X j) (Y j) then 40 else badF lo hi s X Y k (j + 1)
/-- a table's error, with bounds -/
def dotsN (n : Nat) (X Y : Nat → Int) (lo hi : Int) (s : Bool) : Int := if rightN n X Y = 0 then badF lo hi s X Y n 0 else rightN n X Y
set_option maxRecDepth 100000 in
set_option maxHeartbeats 8000000 in
theorem rCDots_any (a : Option Addr) (len cap : Nat) (X Y : Nat → Int) (lo hi : Int) (s : Bool) (w : World) (hmax : len ≤ 100) (D : Dots w a len cap X Y) :
    Calls Try.prog 29 #[.slice a len cap, .int .i64 lo, .int .i64 hi, .bool s] w fun e w' => e = .returned (.int .i64 (dotsN len X Y lo hi s)) ∧ Below w.heap.size w w' := by
  obtain ⟨er, her⟩ : ∃ r, rightN len X Y = r := ⟨_, rfl⟩
  have X0 := rTRight_any a len cap X Y w hmax D
  rw [her] at X0
  have X0 := Lib.hid X0
  have HD := Lib.hid D
  clear D
  by_cases z : er = 0
  · subst z
    obtain ⟨R, hR⟩ : ∃ R, badF lo hi s X Y len 0 = R := ⟨_, rfl⟩
    have E := Lib.hid (show dotsN len X Y lo hi s = R by unfold dotsN; rw [if_pos her]; exact hR)
    rw [E.out]
    have HR0 := Lib.hid hR
    clear hR E her
    go_enter Try.func29, Try.ntmps29
    go_wp2_with fail
    refine X0.out.mono ?_
    rintro e w1 ⟨rfl, h⟩
    have HB0 := Lib.hid h
    clear h X0
    go_wp2
    go_loopw [10] (fun i wr => ∃ (k j : Nat), k + j = len ∧ i = .int .i64 j ∧ badF lo hi s X Y k j = R ∧ Below w.heap.size w wr) (fun i _ => len - (intOf i).toNat)
    case atStart => exact ⟨len, 0, by omega, rfl, HR0.out, HB0.out⟩
    case round =>
      clear HR0 HB0
      obtain ⟨kk, j, hj, rfl, HR, HB⟩ := hrel
      have HR := Lib.hid HR
      have HB := Lib.hid HB
      cases kk with
      | zero =>
        have EE : (0 : Int) = R := HR.out
        have hje : j = len := by omega
        clear HR
        go_wp2
        go_ret
        exact ⟨retI EE, HB.out⟩
      | succ k =>
        have hlt : j < len := by omega
        have sz := HB.out.size
        obtain ⟨b, off, rfl, hb, hcell⟩ := HD.out.at' (by omega)
        have c0 : wr.cell? ⟨b, off + j * 2, none⟩ = some (.int .i64 (X j)) := by rw [HB.out.cell (p := ⟨b, off + j * 2, none⟩) hb]; exact (hcell j hlt).1
        have c1 : wr.cell? ⟨b, off + j * 2 + 1, none⟩ = some (.int .i64 (Y j)) := by rw [HB.out.cell (p := ⟨b, off + j * 2 + 1, none⟩) hb]; exact (hcell j hlt).2
        clear hcell
        go_wp2_with fail
        refine (rCIn_any (Y j) lo hi _).mono ?_
        rintro e w2 ⟨rfl, rfl⟩
        cases H : inC lo hi (Y j)
        case false =>
          have yg : badD lo hi s (X j) (Y j) := Or.inl H
          have EE := Lib.hid (show (40 : Int) = R by rw [← HR.out]; symm; show (if badD lo hi s (X j) (Y j) then 40 else badF lo hi s X Y k (j + 1)) = 40; rw [if_pos yg])
          clear HR yg
          go_wp2
          go_ret
          exact ⟨retI EE.out, HB.out⟩
        case true =>
          cases s with
          | false =>
            have ng : ¬ badD lo hi false (X j) (Y j) := by unfold badD; rw [H]; simp <;> omega
            have HR2 := Lib.hid (show badF lo hi false X Y k (j + 1) = R by rw [← HR.out]; symm; show (if badD lo hi false (X j) (Y j) then 40 else badF lo hi false X Y k (j + 1)) = _; rw [if_neg ng])
            clear HR
            go_wp2
            go_roundw
            case rel => exact ⟨k, j + 1, by omega, by go_num, HR2.out, HB.out⟩
            case measure => simp [intOf]; omega
          | true =>
            by_cases x1 : 0 < X j
            · by_cases y1 : Y j < 0
              · skip
                have yg : badD lo hi true (X j) (Y j) := Or.inr ⟨rfl, Or.inl ⟨x1, y1⟩⟩
                have EE := Lib.hid (show (40 : Int) = R by rw [← HR.out]; symm; show (if badD lo hi true (X j) (Y j) then 40 else badF lo hi true X Y k (j + 1)) = 40; rw [if_pos yg])
                clear HR yg
                go_wp2
                go_ret
                exact ⟨retI EE.out, HB.out⟩
              · have x2 : ¬ X j < 0 := by omega
                have ng : ¬ badD lo hi true (X j) (Y j) := by unfold badD; rw [H]; simp <;> omega
                have HR2 := Lib.hid (show badF lo hi true X Y k (j + 1) = R by rw [← HR.out]; symm; show (if badD lo hi true (X j) (Y j) then 40 else badF lo hi true X Y k (j + 1)) = _; rw [if_neg ng])
                clear HR
                go_wp2
                go_roundw
                case rel => exact ⟨k, j + 1, by omega, by go_num, HR2.out, HB.out⟩
                case measure => simp [intOf]; omega
            · by_cases x2 : X j < 0
              · by_cases y2 : 0 < Y j
                · skip
                  have yg : badD lo hi true (X j) (Y j) := Or.inr ⟨rfl, Or.inr ⟨x2, y2⟩⟩
                  have EE := Lib.hid (show (40 : Int) = R by rw [← HR.out]; symm; show (if badD lo hi true (X j) (Y j) then 40 else badF lo hi true X Y k (j + 1)) = 40; rw [if_pos yg])
                  clear HR yg
                  go_wp2
                  go_ret
                  exact ⟨retI EE.out, HB.out⟩
                · skip
                  have ng : ¬ badD lo hi true (X j) (Y j) := by unfold badD; rw [H]; simp <;> omega
                  have HR2 := Lib.hid (show badF lo hi true X Y k (j + 1) = R by rw [← HR.out]; symm; show (if badD lo hi true (X j) (Y j) then 40 else badF lo hi true X Y k (j + 1)) = _; rw [if_neg ng])
                  clear HR
                  go_wp2
                  go_roundw
                  case rel => exact ⟨k, j + 1, by omega, by go_num, HR2.out, HB.out⟩
                  case measure => simp [intOf]; omega
              · skip
                have ng : ¬ badD lo hi true (X j) (Y j) := by unfold badD; rw [H]; simp <;> omega
                have HR2 := Lib.hid (show badF lo hi true X Y k (j + 1) = R by rw [← HR.out]; symm; show (if badD lo hi true (X j) (Y j) then 40 else badF lo hi true X Y k (j + 1)) = _; rw [if_neg ng])
                clear HR
                go_wp2
                go_roundw
                case rel => exact ⟨k, j + 1, by omega, by go_num, HR2.out, HB.out⟩
                case measure => simp [intOf]; omega
  · have E := Lib.hid (show dotsN len X Y lo hi s = er by unfold dotsN; rw [her, if_neg z])
    rw [E.out]
    have b3 : (er == 0) = false := beq_false_of_ne z
    clear E her
    go_enter Try.func29, Try.ntmps29
    go_wp2_with fail
    refine X0.out.mono ?_
    rintro e w1 ⟨rfl, h⟩
    have HB0 := Lib.hid h
    clear h X0
    go_wp2
    go_loopw [10] (fun i wr => i = .int .i64 0 ∧ Below w.heap.size w wr) (fun i _ => 0)
    case atStart => exact ⟨rfl, HB0.out⟩
    case round =>
      clear HB0
      obtain ⟨rfl, HB⟩ := hrel
      have HB := Lib.hid HB
      by_cases l0 : 0 < len
      · go_wp2
        go_ret
        exact ⟨rfl, HB.out⟩
      · have l1 : len = 0 := by omega
        subst l1
        go_wp2
        go_ret
        exact ⟨rfl, HB.out⟩
end Go.Proofs.Ytbpmbdnhfkfkhaa

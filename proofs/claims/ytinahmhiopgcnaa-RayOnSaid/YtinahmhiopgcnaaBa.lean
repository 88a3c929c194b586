/- Rays as numbers: a triangle's meeting, the nearest of all; contracts of the document's May and Point. -/
import Derived.Test.YtinahmhiopgcnaaBe
namespace Go.Proofs.Ytinahmhiopgcnaa
open Go.RowKit
set_option linter.unusedVariables false
set_option linter.unusedSimpArgs false

/-- a ray -/
structure Ry where
  ox : Int
  oy : Int
  oz : Int
  dx : Int
  dy : Int
  dz : Int
  long : Int
/-- its place, its way -/
abbrev Ry.o (a : Ry) : Value := .agg #[.int .i64 a.ox, .int .i64 a.oy, .int .i64 a.oz]
abbrev Ry.d (a : Ry) : Value := .agg #[.int .i64 a.dx, .int .i64 a.dy, .int .i64 a.dz]
def Ry.may (a : Ry) : Prop := Rg a.ox ∧ Rg a.oy ∧ (-4398046511104 ≤ a.oz ∧ a.oz ≤ 4398046511104) ∧ (-4294967296 ≤ a.dx ∧ a.dx ≤ 4294967296) ∧ (-4294967296 ≤ a.dy ∧ a.dy ≤ 4294967296) ∧ (-4294967296 ≤ a.dz ∧ a.dz ≤ 4294967296) ∧ 0 ≤ a.long ∧ a.long ≤ 274877906944
instance (a : Ry) : Decidable a.may := by unfold Ry.may; exact inferInstance
/-- its numbers are 64-bit numbers -/
structure Ry.ins (a : Ry) : Prop where
  o : In3 a.ox a.oy a.oz
  d : In3 a.dx a.dy a.dz
  l : In64 a.long
def stpF (t : Trk) (c r : Int) (up : Bool) (a : Ry) : Int := subF (subF a.dz (mulF (slaF t c r up) a.dx)) (mulF (slbF t c r up) a.dy)
def rofX (t : Trk) (c : Int) (a : Ry) : Int := a.ox - t.cx - c * t.cell
def rofY (t : Trk) (r : Int) (a : Ry) : Int := a.oy - t.cy - r * t.cell
def ovrF (t : Trk) (c r : Int) (up : Bool) (a : Ry) : Int := subF a.oz (addF (addF (baseFd t c r) (mulF (slaF t c r up) (rofX t c a))) (mulF (slbF t c r up) (rofY t r a)))
def dstF (t : Trk) (c r : Int) (up : Bool) (a : Ry) : Int := if 0 < ovrF t c r up a then divF (ovrF t c r up a) (subF 0 (stpF t c r up a)) else 0
def pntF (o d s : Int) : Int := addF o (mulF d s)
def inTri (t : Trk) (c r : Int) (up : Bool) (x y : Int) : Bool := decide ((whK t x : Int) = c) && decide ((whR t y : Int) = r) && (decide (whX t x < whY t y) == up)
def metF (t : Trk) (c r : Int) (up : Bool) (a : Ry) : Bool := decide (stpF t c r up a < 0 ∧ dstF t c r up a ≤ a.long) && inTri t c r up (pntF a.ox a.dx (dstF t c r up a)) (pntF a.oy a.dy (dstF t c r up a))
def mtsF (t : Trk) (c r : Int) (up : Bool) (a : Ry) : Int := if stpF t c r up a < 0 ∧ dstF t c r up a ≤ a.long then dstF t c r up a else 0
/-- triangle number i: its column, its row, which of both -/
def rcC (t : Trk) (i : Nat) : Nat := i / 2 % t.cols.toNat
def rcR (t : Trk) (i : Nat) : Nat := i / 2 / t.cols.toNat
def rcU (i : Nat) : Bool := decide (i % 2 = 1)
def mtI (t : Trk) (a : Ry) (i : Nat) : Bool := metF t (rcC t i) (rcR t i) (rcU i) a
def dsI (t : Trk) (a : Ry) (i : Nat) : Int := dstF t (rcC t i) (rcR t i) (rcU i) a
/-- the nearest of the first triangles, -1 where none is met -/
def casU (t : Trk) (a : Ry) : Nat → Int
  | 0 => -1
  | k + 1 => if mtI t a k = true ∧ (casU t a k < 0 ∨ dsI t a k < dsI t a (casU t a k).toNat) then (k : Int) else casU t a k
def casN (t : Trk) : Nat := t.cols.toNat * t.rows.toNat * 2
def casI (t : Trk) (a : Ry) : Int := if a.may then casU t a (casN t) else -1
/-- what is told of the nearest -/
def tcS (t : Trk) (a : Ry) (i : Int) : Int := if i < 0 then 0 else dsI t a i.toNat
def tcA (t : Trk) (i : Int) : Int := slaF t (rcC t i.toNat) (rcR t i.toNat) (rcU i.toNat)
def tcB (t : Trk) (i : Int) : Int := slbF t (rcC t i.toNat) (rcR t i.toNat) (rcU i.toNat)
noncomputable def tcX (t : Trk) (i : Int) : Int := if i < 0 then 0 else upX (tcA t i) (tcB t i)
noncomputable def tcY (t : Trk) (i : Int) : Int := if i < 0 then 0 else upY (tcA t i) (tcB t i)
noncomputable def tcZ (t : Trk) (i : Int) : Int := if i < 0 then 0 else upZ (tcA t i) (tcB t i)
def tcK (t : Trk) (i : Int) : Int := if i < 0 then 0 else t.G.v ((rcR t i.toNat : Int) * t.cols + rcC t i.toNat).toNat
noncomputable abbrev tcV (t : Trk) (a : Ry) (i : Int) : Value := .agg #[.int .i64 (tcS t a i), .int .i64 (tcX t i), .int .i64 (tcY t i), .int .i64 (tcZ t i), .int .i64 (tcK t i)]
theorem casU_lo (t : Trk) (a : Ry) : ∀ k, -1 ≤ casU t a k ∧ casU t a k < (k : Int)
  | 0 => by unfold casU; omega
  | k + 1 => by
    have h := casU_lo t a k
    unfold casU
    split <;> omega
theorem casU_no (t : Trk) (a : Ry) : ∀ k, casU t a k < 0 → ∀ i, i < k → mtI t a i = false
  | 0, _, i, h => absurd h (by omega)
  | k + 1, hn, i, hi => by
    have e : casU t a (k + 1) = if mtI t a k = true ∧ (casU t a k < 0 ∨ dsI t a k < dsI t a (casU t a k).toNat) then (k : Int) else casU t a k := rfl
    by_cases c : mtI t a k = true ∧ (casU t a k < 0 ∨ dsI t a k < dsI t a (casU t a k).toNat)
    · rw [if_pos c] at e; omega
    · rw [if_neg c] at e
      rw [e] at hn
      rcases Nat.lt_or_ge i k with l | l
      · exact casU_no t a k hn i l
      · have : i = k := by omega
        subst this
        cases hm : mtI t a i with
        | false => rfl
        | true => exact absurd ⟨hm, Or.inl hn⟩ c
theorem casU_yes (t : Trk) (a : Ry) : ∀ k, 0 ≤ casU t a k → mtI t a (casU t a k).toNat = true ∧ ∀ i, i < k → mtI t a i = true → dsI t a (casU t a k).toNat ≤ dsI t a i
  | 0, h => by unfold casU at h; omega
  | k + 1, hn => by
    have e : casU t a (k + 1) = if mtI t a k = true ∧ (casU t a k < 0 ∨ dsI t a k < dsI t a (casU t a k).toNat) then (k : Int) else casU t a k := rfl
    by_cases c : mtI t a k = true ∧ (casU t a k < 0 ∨ dsI t a k < dsI t a (casU t a k).toNat)
    · rw [if_pos c] at e
      rw [e, Int.toNat_natCast]
      refine ⟨c.1, fun i hi hm => ?_⟩
      rcases Nat.lt_or_ge i k with l | l
      · rcases c.2 with g | g
        · rw [casU_no t a k g i l] at hm; cases hm
        · have n : 0 ≤ casU t a k := by
            apply Classical.byContradiction; intro n
            rw [casU_no t a k (by omega) i l] at hm; cases hm
          have := (casU_yes t a k n).2 i l hm
          omega
      · have : i = k := by omega
        subst this; exact Int.le_refl _
    · rw [if_neg c] at e
      rw [e] at hn ⊢
      obtain ⟨h1, h2⟩ := casU_yes t a k hn
      refine ⟨h1, fun i hi hm => ?_⟩
      rcases Nat.lt_or_ge i k with l | l
      · exact h2 i l hm
      · have : i = k := by omega
        subst this
        apply Classical.byContradiction; intro g
        exact c ⟨hm, Or.inr (by omega)⟩
theorem rRIn_any (n m : Int) (w : World) (hm : 0 ≤ m ∧ m ≤ 281474976710656) :
    Calls Try.prog 25 #[.int .i64 n, .int .i64 m] w fun e w' => e = .returned (.bool (decide (-m ≤ n ∧ n ≤ m))) ∧ w' = w := by
  obtain ⟨r, hr⟩ : ∃ r, decide (-m ≤ n ∧ n ≤ m) = r := ⟨_, rfl⟩
  rw [hr]
  have R := Lib.hid hr
  obtain ⟨u, v⟩ := wrap_in' (n := -m) (by unfold In64; omega)
  clear hr
  go_enter Try.func25, Try.ntmps25
  by_cases c : n ≤ m
  · have E := Lib.hid (show decide (-m ≤ n) = r by rw [← R.out, decide_eq_decide]; exact ⟨fun k => ⟨k, c⟩, fun k => k.1⟩)
    clear R
    go_wp2
    go_ret
    exact ⟨by rw [← E.out]; rfl, rfl⟩
  · have E := Lib.hid (show false = r by rw [← R.out]; symm; rw [decide_eq_false_iff_not]; exact fun k => c k.2)
    clear R
    go_wp2
    go_ret
    exact ⟨by rw [← E.out]; rfl, rfl⟩
theorem may_bools (a : Ry) : decide a.may = if decide (-281474976710656 ≤ a.ox ∧ a.ox ≤ 281474976710656) then if decide (-281474976710656 ≤ a.oy ∧ a.oy ≤ 281474976710656) then if decide (-4398046511104 ≤ a.oz ∧ a.oz ≤ 4398046511104) then if decide (-4294967296 ≤ a.dx ∧ a.dx ≤ 4294967296) then if decide (-4294967296 ≤ a.dy ∧ a.dy ≤ 4294967296) then if decide (-4294967296 ≤ a.dz ∧ a.dz ≤ 4294967296) then decide (0 ≤ a.long ∧ a.long ≤ 274877906944) else false else false else false else false else false else false := by
  unfold Ry.may Rg
  by_cases h1 : (-281474976710656 ≤ a.ox ∧ a.ox ≤ 281474976710656) <;> by_cases h2 : (-281474976710656 ≤ a.oy ∧ a.oy ≤ 281474976710656) <;> by_cases h3 : (-4398046511104 ≤ a.oz ∧ a.oz ≤ 4398046511104) <;> by_cases h4 : (-4294967296 ≤ a.dx ∧ a.dx ≤ 4294967296) <;> by_cases h5 : (-4294967296 ≤ a.dy ∧ a.dy ≤ 4294967296) <;> by_cases h6 : (-4294967296 ≤ a.dz ∧ a.dz ≤ 4294967296) <;> simp only [h1, h2, h3, h4, h5, h6, true_and, false_and, and_false, decide_true, decide_false, if_true, if_false, Bool.false_eq_true]
/-- a ray's place and way in blocks of their own -/
structure RB (w W : World) (m : Nat) (a : Ry) : Prop where
  o : VW W m a.ox a.oy a.oz
  d : VW W (m + 1) a.dx a.dy a.dz
  l : Below w.heap.size w W
theorem RB.cells {w W : World} {m : Nat} {a : Ry} (R : RB w W m a) : (W.cell? ⟨m, 0, none⟩ = some (.int .i64 a.ox) ∧ W.cell? ⟨m, 1, none⟩ = some (.int .i64 a.oy) ∧ W.cell? ⟨m, 2, none⟩ = some (.int .i64 a.oz)) ∧ (W.cell? ⟨m + 1, 0, none⟩ = some (.int .i64 a.dx) ∧ W.cell? ⟨m + 1, 1, none⟩ = some (.int .i64 a.dy) ∧ W.cell? ⟨m + 1, 2, none⟩ = some (.int .i64 a.dz)) := ⟨R.o.held, R.d.held⟩
set_option maxRecDepth 100000 in
set_option maxHeartbeats 4000000 in
theorem rRMay_any (a : Ry) (w : World) :
    Calls Try.prog 10 #[a.o, a.d, .int .i64 a.long] w fun e w' => e = .returned (.bool (decide a.may)) ∧ Below w.heap.size w w' := by
  obtain ⟨q, hq⟩ : ∃ q, decide a.may = q := ⟨_, rfl⟩
  have E := hq
  rw [hq]
  rw [may_bools] at E
  have V1 := Lib.hid (fun (W : World) => rRIn_any a.ox 281474976710656 W (by omega))
  have V2 := Lib.hid (fun (W : World) => rRIn_any a.oy 281474976710656 W (by omega))
  have V3 := Lib.hid (fun (W : World) => rRIn_any a.oz 4398046511104 W (by omega))
  have V4 := Lib.hid (fun (W : World) => rRIn_any a.dx 4294967296 W (by omega))
  have V5 := Lib.hid (fun (W : World) => rRIn_any a.dy 4294967296 W (by omega))
  have V6 := Lib.hid (fun (W : World) => rRIn_any a.dz 4294967296 W (by omega))
  generalize decide (-281474976710656 ≤ a.ox ∧ a.ox ≤ 281474976710656) = q1 at *
  generalize decide (-281474976710656 ≤ a.oy ∧ a.oy ≤ 281474976710656) = q2 at *
  generalize decide (-4398046511104 ≤ a.oz ∧ a.oz ≤ 4398046511104) = q3 at *
  generalize decide (-4294967296 ≤ a.dx ∧ a.dx ≤ 4294967296) = q4 at *
  generalize decide (-4294967296 ≤ a.dy ∧ a.dy ≤ 4294967296) = q5 at *
  generalize decide (-4294967296 ≤ a.dz ∧ a.dz ≤ 4294967296) = q6 at *
  have HE := Lib.hid E
  clear E hq
  go_enter Try.func10, Try.ntmps10
  go_wp2_with fail
  refine (V1.out _).mono ?_
  rintro e w' ⟨rfl, rfl⟩
  cases q1
  · skip
    have E := Lib.hid (show false = q by have := HE.out; simpa using this)
    clear HE
    go_wp2
    go_ret
    exact ⟨by rw [← E.out]; rfl, by repeat (first | exact Below.refl _ _ | assumption | refine Below.setCell ?_ (by first | omega | (simp; done) | (simp; omega)) _ | refine Below.alloc ?_ (by first | omega | (simp; done) | (simp; omega)) _ | refine below_drewN ?_ _ | refine Below.drew ?_ | refine Below.trans ?_ (Below.mono (by assumption) (by first | omega | (simp; done) | (simp; omega))))⟩
  go_wp2_with fail
  refine (V2.out _).mono ?_
  rintro e w' ⟨rfl, rfl⟩
  cases q2
  · skip
    have E := Lib.hid (show false = q by have := HE.out; simpa using this)
    clear HE
    go_wp2
    go_ret
    exact ⟨by rw [← E.out]; rfl, by repeat (first | exact Below.refl _ _ | assumption | refine Below.setCell ?_ (by first | omega | (simp; done) | (simp; omega)) _ | refine Below.alloc ?_ (by first | omega | (simp; done) | (simp; omega)) _ | refine below_drewN ?_ _ | refine Below.drew ?_ | refine Below.trans ?_ (Below.mono (by assumption) (by first | omega | (simp; done) | (simp; omega))))⟩
  go_wp2_with fail
  refine (V3.out _).mono ?_
  rintro e w' ⟨rfl, rfl⟩
  cases q3
  · skip
    have E := Lib.hid (show false = q by have := HE.out; simpa using this)
    clear HE
    go_wp2
    go_ret
    exact ⟨by rw [← E.out]; rfl, by repeat (first | exact Below.refl _ _ | assumption | refine Below.setCell ?_ (by first | omega | (simp; done) | (simp; omega)) _ | refine Below.alloc ?_ (by first | omega | (simp; done) | (simp; omega)) _ | refine below_drewN ?_ _ | refine Below.drew ?_ | refine Below.trans ?_ (Below.mono (by assumption) (by first | omega | (simp; done) | (simp; omega))))⟩
  go_wp2_with fail
  refine (V4.out _).mono ?_
  rintro e w' ⟨rfl, rfl⟩
  cases q4
  · skip
    have E := Lib.hid (show false = q by have := HE.out; simpa using this)
    clear HE
    go_wp2
    go_ret
    exact ⟨by rw [← E.out]; rfl, by repeat (first | exact Below.refl _ _ | assumption | refine Below.setCell ?_ (by first | omega | (simp; done) | (simp; omega)) _ | refine Below.alloc ?_ (by first | omega | (simp; done) | (simp; omega)) _ | refine below_drewN ?_ _ | refine Below.drew ?_ | refine Below.trans ?_ (Below.mono (by assumption) (by first | omega | (simp; done) | (simp; omega))))⟩
  go_wp2_with fail
  refine (V5.out _).mono ?_
  rintro e w' ⟨rfl, rfl⟩
  cases q5
  · skip
    have E := Lib.hid (show false = q by have := HE.out; simpa using this)
    clear HE
    go_wp2
    go_ret
    exact ⟨by rw [← E.out]; rfl, by repeat (first | exact Below.refl _ _ | assumption | refine Below.setCell ?_ (by first | omega | (simp; done) | (simp; omega)) _ | refine Below.alloc ?_ (by first | omega | (simp; done) | (simp; omega)) _ | refine below_drewN ?_ _ | refine Below.drew ?_ | refine Below.trans ?_ (Below.mono (by assumption) (by first | omega | (simp; done) | (simp; omega))))⟩
  go_wp2_with fail
  refine (V6.out _).mono ?_
  rintro e w' ⟨rfl, rfl⟩
  cases q6
  · skip
    have E := Lib.hid (show false = q by have := HE.out; simpa using this)
    clear HE
    go_wp2
    go_ret
    exact ⟨by rw [← E.out]; rfl, by repeat (first | exact Below.refl _ _ | assumption | refine Below.setCell ?_ (by first | omega | (simp; done) | (simp; omega)) _ | refine Below.alloc ?_ (by first | omega | (simp; done) | (simp; omega)) _ | refine below_drewN ?_ _ | refine Below.drew ?_ | refine Below.trans ?_ (Below.mono (by assumption) (by first | omega | (simp; done) | (simp; omega))))⟩
  have F := Lib.hid (show decide (0 ≤ a.long ∧ a.long ≤ 274877906944) = q by have := HE.out; simpa using this)
  clear HE V1 V2 V3 V4 V5 V6
  by_cases c : 0 ≤ a.long
  · have E := Lib.hid (show decide (a.long ≤ 274877906944) = q by rw [← F.out, decide_eq_decide]; exact ⟨fun k => ⟨c, k⟩, fun k => k.2⟩)
    clear F
    go_wp2
    go_ret
    exact ⟨by rw [← E.out]; rfl, by repeat (first | exact Below.refl _ _ | assumption | refine Below.setCell ?_ (by first | omega | (simp; done) | (simp; omega)) _ | refine Below.alloc ?_ (by first | omega | (simp; done) | (simp; omega)) _ | refine below_drewN ?_ _ | refine Below.drew ?_ | refine Below.trans ?_ (Below.mono (by assumption) (by first | omega | (simp; done) | (simp; omega))))⟩
  · have E := Lib.hid (show false = q by rw [← F.out]; symm; rw [decide_eq_false_iff_not]; exact fun k => c k.1)
    clear F
    go_wp2
    go_ret
    exact ⟨by rw [← E.out]; rfl, by repeat (first | exact Below.refl _ _ | assumption | refine Below.setCell ?_ (by first | omega | (simp; done) | (simp; omega)) _ | refine Below.alloc ?_ (by first | omega | (simp; done) | (simp; omega)) _ | refine below_drewN ?_ _ | refine Below.drew ?_ | refine Below.trans ?_ (Below.mono (by assumption) (by first | omega | (simp; done) | (simp; omega))))⟩
/-- a ray's place behind a way: what is noted -/
def pntO (a : Ry) (s : Int) : Bool := (mulO a.dx s || mulO a.dy s || mulO a.dz s) || (addO a.ox (mulF a.dx s) || addO a.oy (mulF a.dy s) || addO a.oz (mulF a.dz s))
set_option maxRecDepth 100000 in
set_option maxHeartbeats 4000000 in
theorem rRPoint_any (a : Ry) (s : Int) (b k : Nat) (o : Bool) (w : World) (ha : a.ins) (hs : In64 s) (m : MAt w b k o) :
    Calls Try.prog 7 #[.pointer (some ⟨b, k, none⟩), a.o, a.d, .int .i64 s] w fun e w' => e = .returned (.agg #[.int .i64 (pntF a.ox a.dx s), .int .i64 (pntF a.oy a.dy s), .int .i64 (pntF a.oz a.dz s)]) ∧ FxW w.heap.size w b k (o || pntO a s) w' := by
  have VS := Lib.hid (fun (W : World) (m : MAt W b k o) => rVScale_any a.dx a.dy a.dz s b k o W ha.d hs.1 hs.2 m)
  have hi : In3 (mulF a.dx s) (mulF a.dy s) (mulF a.dz s) := ⟨(mulF_in _ _).1, (mulF_in _ _).2, (mulF_in _ _).1, (mulF_in _ _).2, (mulF_in _ _).1, (mulF_in _ _).2⟩
  have VA := Lib.hid (fun (W : World) (q : Bool) (m : MAt W b k q) => rVAdd_any a.ox a.oy a.oz (mulF a.dx s) (mulF a.dy s) (mulF a.dz s) b k q W ha.o hi m)
  have E := Lib.hid (show ∀ o : Bool, (o || pntO a s) = ((o || mulO a.dx s || mulO a.dy s || mulO a.dz s) || addO a.ox (mulF a.dx s) || addO a.oy (mulF a.dy s) || addO a.oz (mulF a.dz s)) from fun o => by unfold pntO; simp only [Bool.or_assoc])
  rw [E.out]
  unfold pntF
  generalize mulO a.dx s = f1 at *
  generalize mulO a.dy s = f2 at *
  generalize mulO a.dz s = f3 at *
  generalize addO a.ox (mulF a.dx s) = f4 at *
  generalize addO a.oy (mulF a.dy s) = f5 at *
  generalize addO a.oz (mulF a.dz s) = f6 at *
  generalize addF a.ox (mulF a.dx s) = x at *
  generalize addF a.oy (mulF a.dy s) = y at *
  generalize addF a.oz (mulF a.dz s) = z at *
  generalize mulF a.dx s = s1 at *
  generalize mulF a.dy s = s2 at *
  generalize mulF a.dz s = s3 at *
  have hlt := m.lt
  have HM := Lib.hid m
  clear ha hs hi m E
  go_enter Try.func7, Try.ntmps7
  go_wp2_with fail
  refine wp_gen (S := fun W => (RB w W w.heap.size a ∧ VW W (w.heap.size + 1 + 1) 0 0 0) ∧ Flag w W b k o) ⟨⟨⟨((VW.new w w.heap.size a.ox a.oy a.oz _ rfl).alloc _).alloc _, (VW.new _ _ a.dx a.dy a.dz _ (by simp)).alloc _, by repeat (first | exact Below.refl _ _ | assumption | refine Below.setCell ?_ (by first | omega | (simp; done) | (simp; omega)) _ | refine Below.alloc ?_ (by first | omega | (simp; done) | (simp; omega)) _ | refine below_drewN ?_ _ | refine Below.drew ?_ | refine Below.trans ?_ (Below.mono (by assumption) (by first | omega | (simp; done) | (simp; omega))))⟩, VW.new _ _ 0 0 0 _ (by simp)⟩, Flag.start HM.out (by repeat (first | exact Below.refl _ _ | assumption | refine Below.setCell ?_ (by first | omega | (simp; done) | (simp; omega)) _ | refine Below.alloc ?_ (by first | omega | (simp; done) | (simp; omega)) _ | refine below_drewN ?_ _ | refine Below.drew ?_ | refine Below.trans ?_ (Below.mono (by assumption) (by first | omega | (simp; done) | (simp; omega)))))⟩ (fun W1 hS => ?_)
  have O0 := Lib.hid hS.1.1.o.drew
  have D0 := Lib.hid hS.1.1.d.drew
  have R0 := Lib.hid hS.1.2.drew
  have G0 := Lib.hid (hS.2.more (Below.refl _ _).drew)
  clear hS HM
  refine wp_region_held_drew (S := fun W => (W.cell? ⟨w.heap.size, 0, none⟩ = some (.int .i64 (a.ox)) ∧ W.cell? ⟨w.heap.size, 1, none⟩ = some (.int .i64 (a.oy)) ∧ W.cell? ⟨w.heap.size, 2, none⟩ = some (.int .i64 (a.oz))) ∧ (W.cell? ⟨w.heap.size + 1, 0, none⟩ = some (.int .i64 (a.dx)) ∧ W.cell? ⟨w.heap.size + 1, 1, none⟩ = some (.int .i64 (a.dy)) ∧ W.cell? ⟨w.heap.size + 1, 2, none⟩ = some (.int .i64 (a.dz)))) (by kernel_rfl) ⟨O0.out.held, D0.out.held⟩ (fun hHeld => ?_)
  generalize W1.drew = w0 at *
  refine wpAnyH_takeD 0 9 (v := ?_) (by kernel_rfl) (by kernel_rfl) (by kernel_rfl) (by kernel_rfl) (by rfl) (fun _ _ _ h => h) ?_ hHeld ?_
  rotate_left 1
  (intro o ho W hSw; simp only [List.getElem?_toArray, List.getElem?_cons_succ, List.getElem?_cons_zero, Option.some.injEq] at ho; subst ho; (try dsimp only at hSw); go_simp; try with_reducible rfl)
  (try simp only [Act.put, List.setIfInBounds_toArray, List.set_cons_zero, List.set_cons_succ])
  refine wpAnyH_takeD 1 10 (v := ?_) (by kernel_rfl) (by kernel_rfl) (by kernel_rfl) (by kernel_rfl) (by rfl) (fun _ _ _ h => h) ?_ hHeld ?_
  rotate_left 1
  (intro o ho W hSw; simp only [List.getElem?_toArray, List.getElem?_cons_succ, List.getElem?_cons_zero, Option.some.injEq] at ho; subst ho; (try dsimp only at hSw); go_simp; try with_reducible rfl)
  (try simp only [Act.put, List.setIfInBounds_toArray, List.set_cons_zero, List.set_cons_succ])
  refine wpAnyH_takeD 2 11 (v := ?_) (by kernel_rfl) (by kernel_rfl) (by kernel_rfl) (by kernel_rfl) (by rfl) (fun _ _ _ h => h) ?_ hHeld ?_
  rotate_left 1
  (intro o ho W hSw; simp only [List.getElem?_toArray, List.getElem?_cons_succ, List.getElem?_cons_zero, Option.some.injEq] at ho; subst ho; (try dsimp only at hSw); go_simp; try with_reducible rfl)
  (try simp only [Act.put, List.setIfInBounds_toArray, List.set_cons_zero, List.set_cons_succ])
  refine wpAnyH_takeD 3 12 (v := ?_) (by kernel_rfl) (by kernel_rfl) (by kernel_rfl) (by kernel_rfl) (by rfl) (fun _ _ _ h => h) ?_ hHeld ?_
  rotate_left 1
  (intro o ho W hSw; simp only [List.getElem?_toArray, List.getElem?_cons_succ, List.getElem?_cons_zero, Option.some.injEq] at ho; subst ho; (try dsimp only at hSw); go_simp; try with_reducible rfl)
  (try simp only [Act.put, List.setIfInBounds_toArray, List.set_cons_zero, List.set_cons_succ])
  refine wpAnyH_takeD 4 13 (v := ?_) (by kernel_rfl) (by kernel_rfl) (by kernel_rfl) (by kernel_rfl) (by rfl) (fun _ _ _ h => h) ?_ hHeld ?_
  rotate_left 1
  (intro o ho W hSw; simp only [List.getElem?_toArray, List.getElem?_cons_succ, List.getElem?_cons_zero, Option.some.injEq] at ho; subst ho; (try dsimp only at hSw); go_simp; try with_reducible rfl)
  (try simp only [Act.put, List.setIfInBounds_toArray, List.set_cons_zero, List.set_cons_succ])
  refine wpAnyH_onlyD 5 (by kernel_rfl) (fun o ho K hK => ?_) (by kernel_rfl)
  simp only [List.getElem?_toArray, List.getElem?_cons_succ, List.getElem?_cons_zero, Option.some.injEq] at ho
  subst ho
  go_simp
  refine (VS.out _ G0.out.m).mono ?_
  rintro e w1 ⟨rfl, h⟩
  have G1 := Lib.hid (G0.out.fx h)
  have O1 := Lib.hid (O0.out.fx h (by omega))
  have D1 := Lib.hid (D0.out.fx h (by omega))
  have R1 := Lib.hid (R0.out.fx h (by omega))
  go_wp2_with fail
  refine hK.out _ _ (⟨O1.out.held, D1.out.held⟩) ?_
  clear hK K hHeld
  intro hHeld
  clear h G0 O0 D0 R0
  refine wpAnyH_onlyD 6 (by kernel_rfl) (fun o ho K hK => ?_) (by kernel_rfl)
  simp only [List.getElem?_toArray, List.getElem?_cons_succ, List.getElem?_cons_zero, Option.some.injEq] at ho
  subst ho
  go_simp
  refine (VA.out _ _ G1.out.m).mono ?_
  rintro e w2 ⟨rfl, h⟩
  have G2 := Lib.hid (G1.out.fx h)
  have O2 := Lib.hid (O1.out.fx h (by omega))
  have D2 := Lib.hid (D1.out.fx h (by omega))
  have R2 := Lib.hid (R1.out.fx h (by omega))
  go_wp2_with fail
  refine hK.out _ _ (⟨O2.out.held, D2.out.held⟩) ?_
  clear hK K hHeld
  intro hHeld
  clear h G1 O1 D1 R1 VS VA
  have r0 := R2.out.c0
  have r1 := R2.out.c1
  have r2 := R2.out.c2
  have rf := R2.out.f
  refine wpAnyH_onlyD 7 (by kernel_rfl) (fun o ho K hK => ?_) (by kernel_rfl)
  simp only [List.getElem?_toArray, List.getElem?_cons_succ, List.getElem?_cons_zero, Option.some.injEq] at ho
  subst ho
  go_simp
  refine hK.out _ _ (⟨(((O2.out.far (by omega) _ _).far (by omega) _ _).far (by omega) _ _).held, (((D2.out.far (by omega) _ _).far (by omega) _ _).far (by omega) _ _).held⟩) ?_
  clear hK K hHeld
  intro hHeld
  refine wpAnyH_done (by kernel_rfl) ?_ _
  go_wp2
  exact bodyPost_ret (v := .agg #[.int .i64 x, .int .i64 y, .int .i64 z]) (by simp [results, Try.results7, go_sem, r0, r1, r2]) rfl ⟨rfl, G2.out.put3 (by omega) _ _ _⟩
end Go.Proofs.Ytinahmhiopgcnaa
namespace Go.Proofs.Ytinahmhiopgcnaa
open Go.RowKit
set_option linter.unusedVariables false
set_option linter.unusedSimpArgs false

/-- a track's copy in block m, a ray's place and way behind it, a flag whose state does not matter -/
structure RW (w W : World) (B m b k : Nat) (t : Trk) (a : Ry) : Prop where
  p : ∃ q, PTF w W B m b k q t
  o : VW W (m + 1) a.ox a.oy a.oz
  d : VW W (m + 1 + 1) a.dx a.dy a.dz
theorem RW.step {w W W' : World} {B m b k : Nat} {t : Trk} {a : Ry} (R : RW w W B m b k t a) (h : Below W.heap.size W W') : RW w W' B m b k t a :=
  ⟨R.p.elim fun q Q => ⟨q, Q.step h⟩, R.o.below h R.o.lt, R.d.below h R.d.lt⟩
theorem RW.fx {w W W' : World} {B m b k : Nat} {t : Trk} {a : Ry} {q q' : Bool} (R : RW w W B m b k t a) (Q : PTF w W B m b k q t) (h : FxW W.heap.size W b k q' W') : RW w W' B m b k t a :=
  ⟨⟨q', Q.fx h⟩, R.o.fx h (by have := Q.e; omega), R.d.fx h (by have := Q.e; omega)⟩
/-- all cells that a walk of meet may load -/
def RWc (m : Nat) (t : Trk) (a : Ry) (W : World) : Prop :=
  ((W.cell? ⟨m, 0, none⟩ = some (.int .i64 t.rate) ∧ W.cell? ⟨m, 1, none⟩ = some (.int .i64 t.cell) ∧ W.cell? ⟨m, 2, none⟩ = some (.int .i64 t.cols) ∧ W.cell? ⟨m, 3, none⟩ = some (.int .i64 t.rows) ∧ W.cell? ⟨m, 4, none⟩ = some (.int .i64 t.cx) ∧ W.cell? ⟨m, 5, none⟩ = some (.int .i64 t.cy) ∧ W.cell? ⟨m, 6, none⟩ = some (.slice t.H.a t.H.n t.H.c) ∧ W.cell? ⟨m, 7, none⟩ = some (.slice t.G.a t.G.n t.G.c) ∧ W.cell? ⟨m, 8, none⟩ = some (.slice t.ka t.kn t.kc) ∧ W.cell? ⟨m, 9, none⟩ = some (.slice t.la t.ln t.lc) ∧ W.cell? ⟨m, 10, none⟩ = some (.slice t.ra t.rn t.rc) ∧ W.cell? ⟨m, 11, none⟩ = some (.slice t.ga t.gn t.gc) ∧ W.cell? ⟨m, 12, none⟩ = some (.int .i64 t.sx) ∧ W.cell? ⟨m, 13, none⟩ = some (.int .i64 t.sy) ∧ W.cell? ⟨m, 14, none⟩ = some (.int .u32 t.head) ∧ W.cell? ⟨m, 15, none⟩ = some (.int .i64 t.laps))) ∧
  (W.cell? ⟨m + 1, 0, none⟩ = some (.int .i64 (a.ox)) ∧ W.cell? ⟨m + 1, 1, none⟩ = some (.int .i64 (a.oy)) ∧ W.cell? ⟨m + 1, 2, none⟩ = some (.int .i64 (a.oz))) ∧ (W.cell? ⟨m + 1 + 1, 0, none⟩ = some (.int .i64 (a.dx)) ∧ W.cell? ⟨m + 1 + 1, 1, none⟩ = some (.int .i64 (a.dy)) ∧ W.cell? ⟨m + 1 + 1, 2, none⟩ = some (.int .i64 (a.dz)))
theorem RW.cs {w W : World} {B m b k : Nat} {t : Trk} {a : Ry} (R : RW w W B m b k t a) : RWc m t a W := by
  obtain ⟨q, Q⟩ := R.p
  exact ⟨Q.all, R.o.held, R.d.held⟩
/-- a place within the bounds, from a cell's beginning -/
theorem rof_fit {ox cx c cell : Int} (h1 : Rg ox) (h2 : -140737488355328 ≤ cx ∧ cx ≤ 140737488355328) (h3 : 0 ≤ c ∧ c < 64) (h4 : 17179869184 ≤ cell ∧ cell ≤ 274877906944) :
    (IntKind.i64.wrap (ox - cx) = ox - cx ∧ wrap64 (ox - cx) = ox - cx) ∧ (IntKind.i64.wrap (c * cell) = c * cell ∧ wrap64 (c * cell) = c * cell) ∧ (IntKind.i64.wrap (ox - cx - c * cell) = ox - cx - c * cell ∧ wrap64 (ox - cx - c * cell) = ox - cx - c * cell) ∧ In64 (ox - cx - c * cell) ∧ (-457396837154816 ≤ ox - cx - c * cell ∧ ox - cx - c * cell ≤ 457396837154816) := by
  unfold Rg at h1
  have p0 := Int.mul_nonneg h3.1 (show 0 ≤ cell by omega)
  have p1 := Int.mul_le_mul (show c ≤ 63 by omega) h4.2 (show 0 ≤ cell by omega) (show (0 : Int) ≤ 63 by omega)
  generalize c * cell = z at *
  exact ⟨wrap_in' (by unfold In64; omega), wrap_in' (by unfold In64; omega), wrap_in' (by unfold In64; omega), by unfold In64; omega, by omega, by omega⟩
theorem sla_in (t : Trk) (c r : Int) (up : Bool) : In64 (slaF t c r up) := by
  unfold slaF slA
  split
  · split <;> exact divF_in _ _
  · unfold In64; omega
theorem slb_in (t : Trk) (c r : Int) (up : Bool) : In64 (slbF t c r up) := by
  unfold slbF slB
  split
  · split <;> exact divF_in _ _
  · unfold In64; omega
theorem base_in {t : Trk} {c r : Int} (hc : cntP t) (hf : frP t) (ok : okC t c r) : In64 (baseFd t c r) := by
  have := (cell_right hc hf ok).h.1
  unfold h00 at this
  unfold baseFd
  rw [if_pos ok]
  unfold In64; omega
/-- the flag is told or not -/
def SomeFx (w : World) (b k : Nat) (w' : World) : Prop := ∃ q, FxW w.heap.size w b k q w'
theorem pnt_in (o d s : Int) : In64 (pntF o d s) := addF_in _ _
end Go.Proofs.Ytinahmhiopgcnaa

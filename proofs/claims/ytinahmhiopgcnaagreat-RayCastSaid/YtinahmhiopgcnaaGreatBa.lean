/- Rays as numbers: a triangle's meeting, the nearest of all; contracts of the document's May and Point. -/
import Derived.Test.YtinahmhiopgcnaaGreatBe
namespace Go.Proofs.YtinahmhiopgcnaaGreat
open Go.RowKit
set_option linter.unusedVariables false
set_option linter.unusedSimpArgs false

/-- a ray -/
structure Ry where
  ox : Int
  oy : Int
  oz : Int
  dx : Int
  dy : Int
  dz : Int
  long : Int
/-- its place, its way -/
abbrev Ry.o (a : Ry) : Value := .agg #[.int .i64 a.ox, .int .i64 a.oy, .int .i64 a.oz]
abbrev Ry.d (a : Ry) : Value := .agg #[.int .i64 a.dx, .int .i64 a.dy, .int .i64 a.dz]
def Ry.may (a : Ry) : Prop := Rg a.ox ∧ Rg a.oy ∧ (-4398046511104 ≤ a.oz ∧ a.oz ≤ 4398046511104) ∧ (-4294967296 ≤ a.dx ∧ a.dx ≤ 4294967296) ∧ (-4294967296 ≤ a.dy ∧ a.dy ≤ 4294967296) ∧ (-4294967296 ≤ a.dz ∧ a.dz ≤ 4294967296) ∧ 0 ≤ a.long ∧ a.long ≤ 274877906944
instance (a : Ry) : Decidable a.may := by unfold Ry.may; exact inferInstance
/-- its numbers are 64-bit numbers -/
structure Ry.ins (a : Ry) : Prop where
  o : In3 a.ox a.oy a.oz
  d : In3 a.dx a.dy a.dz
  l : In64 a.long
def stpF (t : Trk) (c r : Int) (up : Bool) (a : Ry) : Int := subF (subF a.dz (mulF (slaF t c r up) a.dx)) (mulF (slbF t c r up) a.dy)
def rofX (t : Trk) (c : Int) (a : Ry) : Int := a.ox - t.cx - c * t.cell
def rofY (t : Trk) (r : Int) (a : Ry) : Int := a.oy - t.cy - r * t.cell
def ovrF (t : Trk) (c r : Int) (up : Bool) (a : Ry) : Int := subF a.oz (addF (addF (baseFd t c r) (mulF (slaF t c r up) (rofX t c a))) (mulF (slbF t c r up) (rofY t r a)))
def dstF (t : Trk) (c r : Int) (up : Bool) (a : Ry) : Int := if 0 < ovrF t c r up a then divF (ovrF t c r up a) (subF 0 (stpF t c r up a)) else 0
def pntF (o d s : Int) : Int := addF o (mulF d s)
def inTri (t : Trk) (c r : Int) (up : Bool) (x y : Int) : Bool := decide ((whK t x : Int) = c) && decide ((whR t y : Int) = r) && (decide (whX t x < whY t y) == up)
def metF (t : Trk) (c r : Int) (up : Bool) (a : Ry) : Bool := decide (stpF t c r up a < 0 ∧ dstF t c r up a ≤ a.long) && inTri t c r up (pntF a.ox a.dx (dstF t c r up a)) (pntF a.oy a.dy (dstF t c r up a))
def mtsF (t : Trk) (c r : Int) (up : Bool) (a : Ry) : Int := if stpF t c r up a < 0 ∧ dstF t c r up a ≤ a.long then dstF t c r up a else 0
/-- triangle number i: its column, its row, which of both -/
def rcC (t : Trk) (i : Nat) : Nat := i / 2 % t.cols.toNat
def rcR (t : Trk) (i : Nat) : Nat := i / 2 / t.cols.toNat
def rcU (i : Nat) : Bool := decide (i % 2 = 1)
def mtI (t : Trk) (a : Ry) (i : Nat) : Bool := metF t (rcC t i) (rcR t i) (rcU i) a
def dsI (t : Trk) (a : Ry) (i : Nat) : Int := dstF t (rcC t i) (rcR t i) (rcU i) a
/-- the nearest of the first triangles, -1 where none is met -/
def casU (t : Trk) (a : Ry) : Nat → Int
  | 0 => -1
  | k + 1 => if mtI t a k = true ∧ (casU t a k < 0 ∨ dsI t a k < dsI t a (casU t a k).toNat) then (k : Int) else casU t a k
def casN (t : Trk) : Nat := t.cols.toNat * t.rows.toNat * 2
def casI (t : Trk) (a : Ry) : Int := if a.may then casU t a (casN t) else -1
/-- what is told of the nearest -/
def tcS (t : Trk) (a : Ry) (i : Int) : Int := if i < 0 then 0 else dsI t a i.toNat
def tcA (t : Trk) (i : Int) : Int := slaF t (rcC t i.toNat) (rcR t i.toNat) (rcU i.toNat)
def tcB (t : Trk) (i : Int) : Int := slbF t (rcC t i.toNat) (rcR t i.toNat) (rcU i.toNat)
noncomputable def tcX (t : Trk) (i : Int) : Int := if i < 0 then 0 else upX (tcA t i) (tcB t i)
noncomputable def tcY (t : Trk) (i : Int) : Int := if i < 0 then 0 else upY (tcA t i) (tcB t i)
noncomputable def tcZ (t : Trk) (i : Int) : Int := if i < 0 then 0 else upZ (tcA t i) (tcB t i)
def tcK (t : Trk) (i : Int) : Int := if i < 0 then 0 else t.G.v ((rcR t i.toNat : Int) * t.cols + rcC t i.toNat).toNat
noncomputable abbrev tcV (t : Trk) (a : Ry) (i : Int) : Value := .agg #[.int .i64 (tcS t a i), .int .i64 (tcX t i), .int .i64 (tcY t i), .int .i64 (tcZ t i), .int .i64 (tcK t i)]
theorem casU_lo (t : Trk) (a : Ry) : ∀ k, -1 ≤ casU t a k ∧ casU t a k < (k : Int)
  | 0 => by unfold casU; omega
  | k + 1 => by
    have h := casU_lo t a k
    unfold casU
    split <;> omega
theorem casU_no (t : Trk) (a : Ry) : ∀ k, casU t a k < 0 → ∀ i, i < k → mtI t a i = false
  | 0, _, i, h => absurd h (by omega)
  | k + 1, hn, i, hi => by
    have e : casU t a (k + 1) = if mtI t a k = true ∧ (casU t a k < 0 ∨ dsI t a k < dsI t a (casU t a k).toNat) then (k : Int) else casU t a k := rfl
    by_cases c : mtI t a k = true ∧ (casU t a k < 0 ∨ dsI t a k < dsI t a (casU t a k).toNat)
    · rw [if_pos c] at e; omega
    · rw [if_neg c] at e
      rw [e] at hn
      rcases Nat.lt_or_ge i k with l | l
      · exact casU_no t a k hn i l
      · have : i = k := by omega
        subst this
        cases hm : mtI t a i with
        | false => rfl
        | true => exact absurd ⟨hm, Or.inl hn⟩ c
theorem casU_yes (t : Trk) (a : Ry) : ∀ k, 0 ≤ casU t a k → mtI t a (casU t a k).toNat = true ∧ ∀ i, i < k → mtI t a i = true → dsI t a (casU t a k).toNat ≤ dsI t a i
  | 0, h => by unfold casU at h; omega
  | k + 1, hn => by
    have e : casU t a (k + 1) = if mtI t a k = true ∧ (casU t a k < 0 ∨ dsI t a k < dsI t a (casU t a k).toNat) then (k : Int) else casU t a k := rfl
    by_cases c : mtI t a k = true ∧ (casU t a k < 0 ∨ dsI t a k < dsI t a (casU t a k).toNat)
    · rw [if_pos c] at e
      rw [e, Int.toNat_natCast]
      refine ⟨c.1, fun i hi hm => ?_⟩
      rcases Nat.lt_or_ge i k with l | l
      · rcases c.2 with g | g
        · rw [casU_no t a k g i l] at hm; cases hm
        · have n : 0 ≤ casU t a k := by
            apply Classical.byContradiction; intro n
            rw [casU_no t a k (by omega) i l] at hm; cases hm
          have := (casU_yes t a k n).2 i l hm
          omega
      · have : i = k := by omega
        subst this; exact Int.le_refl _
    · rw [if_neg c] at e
      rw [e] at hn ⊢
      obtain ⟨h1, h2⟩ := casU_yes t a k hn
      refine ⟨h1, fun i hi hm => ?_⟩
      rcases Nat.lt_or_ge i k with l | l
      · exact h2 i l hm
      · have : i = k := by omega
        subst this
        apply Classical.byContradiction; intro g
        exact c ⟨hm, Or.inr (by omega)⟩
theorem rRIn_any (n m : Int) (w : World) (hm : 0 ≤ m ∧ m ≤ 281474976710656) :
    Calls Tryz.prog 44 #[.int .i64 n, .int .i64 m] w fun e w' => e = .returned (.bool (decide (-m ≤ n ∧ n ≤ m))) ∧ w' = w := by
  obtain ⟨r, hr⟩ : ∃ r, decide (-m ≤ n ∧ n ≤ m) = r := ⟨_, rfl⟩
  rw [hr]
  have R := Lib.hid hr
  obtain ⟨u, v⟩ := wrap_in' (n := -m) (by unfold In64; omega)
  clear hr
  go_enter Tryz.func44, Tryz.ntmps44
  by_cases c : n ≤ m
  · have E := Lib.hid (show decide (-m ≤ n) = r by rw [← R.out, decide_eq_decide]; exact ⟨fun k => ⟨k, c⟩, fun k => k.1⟩)
    clear R
    go_wp2
    go_ret
    exact ⟨by rw [← E.out]; rfl, rfl⟩
  · have E := Lib.hid (show false = r by rw [← R.out]; symm; rw [decide_eq_false_iff_not]; exact fun k => c k.2)
    clear R
    go_wp2
    go_ret
    exact ⟨by rw [← E.out]; rfl, rfl⟩
theorem may_bools (a : Ry) : decide a.may = if decide (-281474976710656 ≤ a.ox ∧ a.ox ≤ 281474976710656) then if decide (-281474976710656 ≤ a.oy ∧ a.oy ≤ 281474976710656) then if decide (-4398046511104 ≤ a.oz ∧ a.oz ≤ 4398046511104) then if decide (-4294967296 ≤ a.dx ∧ a.dx ≤ 4294967296) then if decide (-4294967296 ≤ a.dy ∧ a.dy ≤ 4294967296) then if decide (-4294967296 ≤ a.dz ∧ a.dz ≤ 4294967296) then decide (0 ≤ a.long ∧ a.long ≤ 274877906944) else false else false else false else false else false else false := by
  unfold Ry.may Rg
  by_cases h1 : (-281474976710656 ≤ a.ox ∧ a.ox ≤ 281474976710656) <;> by_cases h2 : (-281474976710656 ≤ a.oy ∧ a.oy ≤ 281474976710656) <;> by_cases h3 : (-4398046511104 ≤ a.oz ∧ a.oz ≤ 4398046511104) <;> by_cases h4 : (-4294967296 ≤ a.dx ∧ a.dx ≤ 4294967296) <;> by_cases h5 : (-4294967296 ≤ a.dy ∧ a.dy ≤ 4294967296) <;> by_cases h6 : (-4294967296 ≤ a.dz ∧ a.dz ≤ 4294967296) <;> simp only [h1, h2, h3, h4, h5, h6, true_and, false_and, and_false, decide_true, decide_false, if_true, if_false, Bool.false_eq_true]
/-- a ray's place and way in blocks of their own -/
structure RB (w W : World) (m : Nat) (a : Ry) : Prop where
  o : VW W m a.ox a.oy a.oz
  d : VW W (m + 1) a.dx a.dy a.dz
  l : Below w.heap.size w W
theorem RB.cells {w W : World} {m : Nat} {a : Ry} (R : RB w W m a) : (W.cell? ⟨m, 0, none⟩ = some (.int .i64 a.ox) ∧ W.cell? ⟨m, 1, none⟩ = some (.int .i64 a.oy) ∧ W.cell? ⟨m, 2, none⟩ = some (.int .i64 a.oz)) ∧ (W.cell? ⟨m + 1, 0, none⟩ = some (.int .i64 a.dx) ∧ W.cell? ⟨m + 1, 1, none⟩ = some (.int .i64 a.dy) ∧ W.cell? ⟨m + 1, 2, none⟩ = some (.int .i64 a.dz)) := ⟨R.o.held, R.d.held⟩
set_option maxRecDepth 100000 in
set_option maxHeartbeats 4000000 in
theorem rRMay_any (a : Ry) (w : World) :
    Calls Tryz.prog 23 #[a.o, a.d, .int .i64 a.long] w fun e w' => e = .returned (.bool (decide a.may)) ∧ Below w.heap.size w w' := by
  obtain ⟨q, hq⟩ : ∃ q, decide a.may = q := ⟨_, rfl⟩
  have E := hq
  rw [hq]
  rw [may_bools] at E
  have V1 := Lib.hid (fun (W : World) => rRIn_any a.ox 281474976710656 W (by omega))
  have V2 := Lib.hid (fun (W : World) => rRIn_any a.oy 281474976710656 W (by omega))
  have V3 := Lib.hid (fun (W : World) => rRIn_any a.oz 4398046511104 W (by omega))
  have V4 := Lib.hid (fun (W : World) => rRIn_any a.dx 4294967296 W (by omega))
  have V5 := Lib.hid (fun (W : World) => rRIn_any a.dy 4294967296 W (by omega))
  have V6 := Lib.hid (fun (W : World) => rRIn_any a.dz 4294967296 W (by omega))
  generalize decide (-281474976710656 ≤ a.ox ∧ a.ox ≤ 281474976710656) = q1 at *
  generalize decide (-281474976710656 ≤ a.oy ∧ a.oy ≤ 281474976710656) = q2 at *
  generalize decide (-4398046511104 ≤ a.oz ∧ a.oz ≤ 4398046511104) = q3 at *
  generalize decide (-4294967296 ≤ a.dx ∧ a.dx ≤ 4294967296) = q4 at *
  generalize decide (-4294967296 ≤ a.dy ∧ a.dy ≤ 4294967296) = q5 at *
  generalize decide (-4294967296 ≤ a.dz ∧ a.dz ≤ 4294967296) = q6 at *
  have HE := Lib.hid E
  clear E hq
  go_enter Tryz.func23, Tryz.ntmps23
  go_wp2_with fail
  refine (V1.out _).mono ?_
  rintro e w' ⟨rfl, rfl⟩
  cases q1
  · skip
    have E := Lib.hid (show false = q by have := HE.out; simpa using this)
    clear HE
    go_wp2
    go_ret
    exact ⟨by rw [← E.out]; rfl, by repeat (first | exact Below.refl _ _ | assumption | refine Below.setCell ?_ (by first | omega | (simp; done) | (simp; omega)) _ | refine Below.alloc ?_ (by first | omega | (simp; done) | (simp; omega)) _ | refine below_drewN ?_ _ | refine Below.drew ?_ | refine Below.trans ?_ (Below.mono (by assumption) (by first | omega | (simp; done) | (simp; omega))))⟩
  go_wp2_with fail
  refine (V2.out _).mono ?_
  rintro e w' ⟨rfl, rfl⟩
  cases q2
  · skip
    have E := Lib.hid (show false = q by have := HE.out; simpa using this)
    clear HE
    go_wp2
    go_ret
    exact ⟨by rw [← E.out]; rfl, by repeat (first | exact Below.refl _ _ | assumption | refine Below.setCell ?_ (by first | omega | (simp; done) | (simp; omega)) _ | refine Below.alloc ?_ (by first | omega | (simp; done) | (simp; omega)) _ | refine below_drewN ?_ _ | refine Below.drew ?_ | refine Below.trans ?_ (Below.mono (by assumption) (by first | omega | (simp; done) | (simp; omega))))⟩
  go_wp2_with fail
  refine (V3.out _).mono ?_
  rintro e w' ⟨rfl, rfl⟩
  cases q3
  · skip
    have E := Lib.hid (show false = q by have := HE.out; simpa using this)
    clear HE
    go_wp2
    go_ret
    exact ⟨by rw [← E.out]; rfl, by repeat (first | exact Below.refl _ _ | assumption | refine Below.setCell ?_ (by first | omega | (simp; done) | (simp; omega)) _ | refine Below.alloc ?_ (by first | omega | (simp; done) | (simp; omega)) _ | refine below_drewN ?_ _ | refine Below.drew ?_ | refine Below.trans ?_ (Below.mono (by assumption) (by first | omega | (simp; done) | (simp; omega))))⟩
  go_wp2_with fail
  refine (V4.out _).mono ?_
  rintro e w' ⟨rfl, rfl⟩
  cases q4
  · skip
    have E := Lib.hid (show false = q by have := HE.out; simpa using this)
    clear HE
    go_wp2
    go_ret
    exact ⟨by rw [← E.out]; rfl, by repeat (first | exact Below.refl _ _ | assumption | refine Below.setCell ?_ (by first | omega | (simp; done) | (simp; omega)) _ | refine Below.alloc ?_ (by first | omega | (simp; done) | (simp; omega)) _ | refine below_drewN ?_ _ | refine Below.drew ?_ | refine Below.trans ?_ (Below.mono (by assumption) (by first | omega | (simp; done) | (simp; omega))))⟩
  go_wp2_with fail
  refine (V5.out _).mono ?_
  rintro e w' ⟨rfl, rfl⟩
  cases q5
  · skip
    have E := Lib.hid (show false = q by have := HE.out; simpa using this)
    clear HE
    go_wp2
    go_ret
    exact ⟨by rw [← E.out]; rfl, by repeat (first | exact Below.refl _ _ | assumption | refine Below.setCell ?_ (by first | omega | (simp; done) | (simp; omega)) _ | refine Below.alloc ?_ (by first | omega | (simp; done) | (simp; omega)) _ | refine below_drewN ?_ _ | refine Below.drew ?_ | refine Below.trans ?_ (Below.mono (by assumption) (by first | omega | (simp; done) | (simp; omega))))⟩
  go_wp2_with fail
  refine (V6.out _).mono ?_
  rintro e w' ⟨rfl, rfl⟩
  cases q6
  · skip
    have E := Lib.hid (show false = q by have := HE.out; simpa using this)
    clear HE
    go_wp2
    go_ret
    exact ⟨by rw [← E.out]; rfl, by repeat (first | exact Below.refl _ _ | assumption | refine Below.setCell ?_ (by first | omega | (simp; done) | (simp; omega)) _ | refine Below.alloc ?_ (by first | omega | (simp; done) | (simp; omega)) _ | refine below_drewN ?_ _ | refine Below.drew ?_ | refine Below.trans ?_ (Below.mono (by assumption) (by first | omega | (simp; done) | (simp; omega))))⟩
  have F := Lib.hid (show decide (0 ≤ a.long ∧ a.long ≤ 274877906944) = q by have := HE.out; simpa using this)
  clear HE V1 V2 V3 V4 V5 V6
  by_cases c : 0 ≤ a.long
  · have E := Lib.hid (show decide (a.long ≤ 274877906944) = q by rw [← F.out, decide_eq_decide]; exact ⟨fun k => ⟨c, k⟩, fun k => k.2⟩)
    clear F
    go_wp2
    go_ret
    exact ⟨by rw [← E.out]; rfl, by repeat (first | exact Below.refl _ _ | assumption | refine Below.setCell ?_ (by first | omega | (simp; done) | (simp; omega)) _ | refine Below.alloc ?_ (by first | omega | (simp; done) | (simp; omega)) _ | refine below_drewN ?_ _ | refine Below.drew ?_ | refine Below.trans ?_ (Below.mono (by assumption) (by first | omega | (simp; done) | (simp; omega))))⟩
  · have E := Lib.hid (show false = q by rw [← F.out]; symm; rw [decide_eq_false_iff_not]; exact fun k => c k.1)
    clear F
    go_wp2
    go_ret
    exact ⟨by rw [← E.out]; rfl, by repeat (first | exact Below.refl _ _ | assumption | refine Below.setCell ?_ (by first | omega | (simp; done) | (simp; omega)) _ | refine Below.alloc ?_ (by first | omega | (simp; done) | (simp; omega)) _ | refine below_drewN ?_ _ | refine Below.drew ?_ | refine Below.trans ?_ (Below.mono (by assumption) (by first | omega | (simp; done) | (simp; omega))))⟩
/-- a ray's place behind a way: what is noted -/
def pntO (a : Ry) (s : Int) : Bool := (mulO a.dx s || mulO a.dy s || mulO a.dz s) || (addO a.ox (mulF a.dx s) || addO a.oy (mulF a.dy s) || addO a.oz (mulF a.dz s))
set_option maxRecDepth 100000 in
set_option maxHeartbeats 4000000 in
theorem rRPoint_any (a : Ry) (s : Int) (b k : Nat) (o : Bool) (w : World) (ha : a.ins) (hs : In64 s) (m : MAt w b k o) :
    Calls Tryz.prog 51 #[.pointer (some ⟨b, k, none⟩), a.o, a.d, .int .i64 s] w fun e w' => e = .returned (.agg #[.int .i64 (pntF a.ox a.dx s), .int .i64 (pntF a.oy a.dy s), .int .i64 (pntF a.oz a.dz s)]) ∧ FxW w.heap.size w b k (o || pntO a s) w' := by
  have VS := Lib.hid (fun (W : World) (m : MAt W b k o) => rVScale_any a.dx a.dy a.dz s b k o W ha.d hs.1 hs.2 m)
  have hi : In3 (mulF a.dx s) (mulF a.dy s) (mulF a.dz s) := ⟨(mulF_in _ _).1, (mulF_in _ _).2, (mulF_in _ _).1, (mulF_in _ _).2, (mulF_in _ _).1, (mulF_in _ _).2⟩
  have VA := Lib.hid (fun (W : World) (q : Bool) (m : MAt W b k q) => rVAdd_any a.ox a.oy a.oz (mulF a.dx s) (mulF a.dy s) (mulF a.dz s) b k q W ha.o hi m)
  have E := Lib.hid (show ∀ o : Bool, (o || pntO a s) = ((o || mulO a.dx s || mulO a.dy s || mulO a.dz s) || addO a.ox (mulF a.dx s) || addO a.oy (mulF a.dy s) || addO a.oz (mulF a.dz s)) from fun o => by unfold pntO; simp only [Bool.or_assoc])
  rw [E.out]
  unfold pntF
  generalize mulO a.dx s = f1 at *
  generalize mulO a.dy s = f2 at *
  generalize mulO a.dz s = f3 at *
  generalize addO a.ox (mulF a.dx s) = f4 at *
  generalize addO a.oy (mulF a.dy s) = f5 at *
  generalize addO a.oz (mulF a.dz s) = f6 at *
  generalize addF a.ox (mulF a.dx s) = x at *
  generalize addF a.oy (mulF a.dy s) = y at *
  generalize addF a.oz (mulF a.dz s) = z at *
  generalize mulF a.dx s = s1 at *
  generalize mulF a.dy s = s2 at *
  generalize mulF a.dz s = s3 at *
  have hlt := m.lt
  have HM := Lib.hid m
  clear ha hs hi m E
  go_enter Tryz.func51, Tryz.ntmps51
  go_wp2_with fail
  refine wp_gen (S := fun W => (RB w W w.heap.size a ∧ VW W (w.heap.size + 1 + 1) 0 0 0) ∧ Flag w W b k o) ⟨⟨⟨((VW.new w w.heap.size a.ox a.oy a.oz _ rfl).alloc _).alloc _, (VW.new _ _ a.dx a.dy a.dz _ (by simp)).alloc _, by repeat (first | exact Below.refl _ _ | assumption | refine Below.setCell ?_ (by first | omega | (simp; done) | (simp; omega)) _ | refine Below.alloc ?_ (by first | omega | (simp; done) | (simp; omega)) _ | refine below_drewN ?_ _ | refine Below.drew ?_ | refine Below.trans ?_ (Below.mono (by assumption) (by first | omega | (simp; done) | (simp; omega))))⟩, VW.new _ _ 0 0 0 _ (by simp)⟩, Flag.start HM.out (by repeat (first | exact Below.refl _ _ | assumption | refine Below.setCell ?_ (by first | omega | (simp; done) | (simp; omega)) _ | refine Below.alloc ?_ (by first | omega | (simp; done) | (simp; omega)) _ | refine below_drewN ?_ _ | refine Below.drew ?_ | refine Below.trans ?_ (Below.mono (by assumption) (by first | omega | (simp; done) | (simp; omega)))))⟩ (fun W1 hS => ?_)
  have O0 := Lib.hid hS.1.1.o.drew
  have D0 := Lib.hid hS.1.1.d.drew
  have R0 := Lib.hid hS.1.2.drew
  have G0 := Lib.hid (hS.2.more (Below.refl _ _).drew)
  clear hS HM
  refine wp_region_held_drew (S := fun W => (W.cell? ⟨w.heap.size, 0, none⟩ = some (.int .i64 (a.ox)) ∧ W.cell? ⟨w.heap.size, 1, none⟩ = some (.int .i64 (a.oy)) ∧ W.cell? ⟨w.heap.size, 2, none⟩ = some (.int .i64 (a.oz))) ∧ (W.cell? ⟨w.heap.size + 1, 0, none⟩ = some (.int .i64 (a.dx)) ∧ W.cell? ⟨w.heap.size + 1, 1, none⟩ = some (.int .i64 (a.dy)) ∧ W.cell? ⟨w.heap.size + 1, 2, none⟩ = some (.int .i64 (a.dz)))) (by kernel_rfl) ⟨O0.out.held, D0.out.held⟩ (fun hHeld => ?_)
  generalize W1.drew = w0 at *
  refine wpAnyH_takeD 0 9 (v := ?_) (by kernel_rfl) (by kernel_rfl) (by kernel_rfl) (by kernel_rfl) (by rfl) (fun _ _ _ h => h) ?_ hHeld ?_
  rotate_left 1
  (intro o ho W hSw; simp only [List.getElem?_toArray, List.getElem?_cons_succ, List.getElem?_cons_zero, Option.some.injEq] at ho; subst ho; (try dsimp only at hSw); go_simp; try with_reducible rfl)
  (try simp only [Act.put, List.setIfInBounds_toArray, List.set_cons_zero, List.set_cons_succ])
  refine wpAnyH_takeD 1 10 (v := ?_) (by kernel_rfl) (by kernel_rfl) (by kernel_rfl) (by kernel_rfl) (by rfl) (fun _ _ _ h => h) ?_ hHeld ?_
  rotate_left 1
  (intro o ho W hSw; simp only [List.getElem?_toArray, List.getElem?_cons_succ, List.getElem?_cons_zero, Option.some.injEq] at ho; subst ho; (try dsimp only at hSw); go_simp; try with_reducible rfl)
  (try simp only [Act.put, List.setIfInBounds_toArray, List.set_cons_zero, List.set_cons_succ])
  refine wpAnyH_takeD 2 11 (v := ?_) (by kernel_rfl) (by kernel_rfl) (by kernel_rfl) (by kernel_rfl) (by rfl) (fun _ _ _ h => h) ?_ hHeld ?_
  rotate_left 1
  (intro o ho W hSw; simp only [List.getElem?_toArray, List.getElem?_cons_succ, List.getElem?_cons_zero, Option.some.injEq] at ho; subst ho; (try dsimp only at hSw); go_simp; try with_reducible rfl)
  (try simp only [Act.put, List.setIfInBounds_toArray, List.set_cons_zero, List.set_cons_succ])
  refine wpAnyH_takeD 3 12 (v := ?_) (by kernel_rfl) (by kernel_rfl) (by kernel_rfl) (by kernel_rfl) (by rfl) (fun _ _ _ h => h) ?_ hHeld ?_
  rotate_left 1
  (intro o ho W hSw; simp only [List.getElem?_toArray, List.getElem?_cons_succ, List.getElem?_cons_zero, Option.some.injEq] at ho; subst ho; (try dsimp only at hSw); go_simp; try with_reducible rfl)
  (try simp only [Act.put, List.setIfInBounds_toArray, List.set_cons_zero, List.set_cons_succ])
  refine wpAnyH_takeD 4 13 (v := ?_) (by kernel_rfl) (by kernel_rfl) (by kernel_rfl) (by kernel_rfl) (by rfl) (fun _ _ _ h => h) ?_ hHeld ?_
  rotate_left 1
  (intro o ho W hSw; simp only [List.getElem?_toArray, List.getElem?_cons_succ, List.getElem?_cons_zero, Option.some.injEq] at ho; subst ho; (try dsimp only at hSw); go_simp; try with_reducible rfl)
  (try simp only [Act.put, List.setIfInBounds_toArray, List.set_cons_zero, List.set_cons_succ])
  refine wpAnyH_onlyD 5 (by kernel_rfl) (fun o ho K hK => ?_) (by kernel_rfl)
  simp only [List.getElem?_toArray, List.getElem?_cons_succ, List.getElem?_cons_zero, Option.some.injEq] at ho
  subst ho
  go_simp
  refine (VS.out _ G0.out.m).mono ?_
  rintro e w1 ⟨rfl, h⟩
  have G1 := Lib.hid (G0.out.fx h)
  have O1 := Lib.hid (O0.out.fx h (by omega))
  have D1 := Lib.hid (D0.out.fx h (by omega))
  have R1 := Lib.hid (R0.out.fx h (by omega))
  go_wp2_with fail
  refine hK.out _ _ (⟨O1.out.held, D1.out.held⟩) ?_
  clear hK K hHeld
  intro hHeld
  clear h G0 O0 D0 R0
  refine wpAnyH_onlyD 6 (by kernel_rfl) (fun o ho K hK => ?_) (by kernel_rfl)
  simp only [List.getElem?_toArray, List.getElem?_cons_succ, List.getElem?_cons_zero, Option.some.injEq] at ho
  subst ho
  go_simp
  refine (VA.out _ _ G1.out.m).mono ?_
  rintro e w2 ⟨rfl, h⟩
  have G2 := Lib.hid (G1.out.fx h)
  have O2 := Lib.hid (O1.out.fx h (by omega))
  have D2 := Lib.hid (D1.out.fx h (by omega))
  have R2 := Lib.hid (R1.out.fx h (by omega))
  go_wp2_with fail
  refine hK.out _ _ (⟨O2.out.held, D2.out.held⟩) ?_
  clear hK K hHeld
  intro hHeld
  clear h G1 O1 D1 R1 VS VA
  have r0 := R2.out.c0
  have r1 := R2.out.c1
  have r2 := R2.out.c2
  have rf := R2.out.f
  refine wpAnyH_onlyD 7 (by kernel_rfl) (fun o ho K hK => ?_) (by kernel_rfl)
  simp only [List.getElem?_toArray, List.getElem?_cons_succ, List.getElem?_cons_zero, Option.some.injEq] at ho
  subst ho
  go_simp
  refine hK.out _ _ (⟨(((O2.out.far (by omega) _ _).far (by omega) _ _).far (by omega) _ _).held, (((D2.out.far (by omega) _ _).far (by omega) _ _).far (by omega) _ _).held⟩) ?_
  clear hK K hHeld
  intro hHeld
  refine wpAnyH_done (by kernel_rfl) ?_ _
  go_wp2
  exact bodyPost_ret (v := .agg #[.int .i64 x, .int .i64 y, .int .i64 z]) (by simp [results, Tryz.results51, go_sem, r0, r1, r2]) rfl ⟨rfl, G2.out.put3 (by omega) _ _ _⟩
end Go.Proofs.YtinahmhiopgcnaaGreat
namespace Go.Proofs.YtinahmhiopgcnaaGreat
open Go.RowKit
set_option linter.unusedVariables false
set_option linter.unusedSimpArgs false

/-- a track's copy in block m, a ray's place and way behind it, a flag whose state does not matter -/
structure RW (w W : World) (B m b k : Nat) (t : Trk) (a : Ry) : Prop where
  p : ∃ q, PTF w W B m b k q t
  o : VW W (m + 1) a.ox a.oy a.oz
  d : VW W (m + 1 + 1) a.dx a.dy a.dz
theorem RW.step {w W W' : World} {B m b k : Nat} {t : Trk} {a : Ry} (R : RW w W B m b k t a) (h : Below W.heap.size W W') : RW w W' B m b k t a :=
  ⟨R.p.elim fun q Q => ⟨q, Q.step h⟩, R.o.below h R.o.lt, R.d.below h R.d.lt⟩
theorem RW.fx {w W W' : World} {B m b k : Nat} {t : Trk} {a : Ry} {q q' : Bool} (R : RW w W B m b k t a) (Q : PTF w W B m b k q t) (h : FxW W.heap.size W b k q' W') : RW w W' B m b k t a :=
  ⟨⟨q', Q.fx h⟩, R.o.fx h (by have := Q.e; omega), R.d.fx h (by have := Q.e; omega)⟩
/-- all cells that a walk of meet may load -/
def RWc (m : Nat) (t : Trk) (a : Ry) (W : World) : Prop :=
  ((W.cell? ⟨m, 0, none⟩ = some (.int .i64 t.rate) ∧ W.cell? ⟨m, 1, none⟩ = some (.int .i64 t.cell) ∧ W.cell? ⟨m, 2, none⟩ = some (.int .i64 t.cols) ∧ W.cell? ⟨m, 3, none⟩ = some (.int .i64 t.rows) ∧ W.cell? ⟨m, 4, none⟩ = some (.int .i64 t.cx) ∧ W.cell? ⟨m, 5, none⟩ = some (.int .i64 t.cy) ∧ W.cell? ⟨m, 6, none⟩ = some (.slice t.H.a t.H.n t.H.c) ∧ W.cell? ⟨m, 7, none⟩ = some (.slice t.G.a t.G.n t.G.c) ∧ W.cell? ⟨m, 8, none⟩ = some (.slice t.ka t.kn t.kc) ∧ W.cell? ⟨m, 9, none⟩ = some (.slice t.la t.ln t.lc) ∧ W.cell? ⟨m, 10, none⟩ = some (.slice t.ra t.rn t.rc) ∧ W.cell? ⟨m, 11, none⟩ = some (.slice t.ga t.gn t.gc) ∧ W.cell? ⟨m, 12, none⟩ = some (.int .i64 t.sx) ∧ W.cell? ⟨m, 13, none⟩ = some (.int .i64 t.sy) ∧ W.cell? ⟨m, 14, none⟩ = some (.int .u32 t.head) ∧ W.cell? ⟨m, 15, none⟩ = some (.int .i64 t.laps))) ∧
  (W.cell? ⟨m + 1, 0, none⟩ = some (.int .i64 (a.ox)) ∧ W.cell? ⟨m + 1, 1, none⟩ = some (.int .i64 (a.oy)) ∧ W.cell? ⟨m + 1, 2, none⟩ = some (.int .i64 (a.oz))) ∧ (W.cell? ⟨m + 1 + 1, 0, none⟩ = some (.int .i64 (a.dx)) ∧ W.cell? ⟨m + 1 + 1, 1, none⟩ = some (.int .i64 (a.dy)) ∧ W.cell? ⟨m + 1 + 1, 2, none⟩ = some (.int .i64 (a.dz)))
theorem RW.cs {w W : World} {B m b k : Nat} {t : Trk} {a : Ry} (R : RW w W B m b k t a) : RWc m t a W := by
  obtain ⟨q, Q⟩ := R.p
  exact ⟨Q.all, R.o.held, R.d.held⟩
/-- a place within the bounds, from a cell's beginning -/
theorem rof_fit {ox cx c cell : Int} (h1 : Rg ox) (h2 : -140737488355328 ≤ cx ∧ cx ≤ 140737488355328) (h3 : 0 ≤ c ∧ c < 64) (h4 : 17179869184 ≤ cell ∧ cell ≤ 274877906944) :
    (IntKind.i64.wrap (ox - cx) = ox - cx ∧ wrap64 (ox - cx) = ox - cx) ∧ (IntKind.i64.wrap (c * cell) = c * cell ∧ wrap64 (c * cell) = c * cell) ∧ (IntKind.i64.wrap (ox - cx - c * cell) = ox - cx - c * cell ∧ wrap64 (ox - cx - c * cell) = ox - cx - c * cell) ∧ In64 (ox - cx - c * cell) ∧ (-457396837154816 ≤ ox - cx - c * cell ∧ ox - cx - c * cell ≤ 457396837154816) := by
  unfold Rg at h1
  have p0 := Int.mul_nonneg h3.1 (show 0 ≤ cell by omega)
  have p1 := Int.mul_le_mul (show c ≤ 63 by omega) h4.2 (show 0 ≤ cell by omega) (show (0 : Int) ≤ 63 by omega)
  generalize c * cell = z at *
  exact ⟨wrap_in' (by unfold In64; omega), wrap_in' (by unfold In64; omega), wrap_in' (by unfold In64; omega), by unfold In64; omega, by omega, by omega⟩
theorem sla_in (t : Trk) (c r : Int) (up : Bool) : In64 (slaF t c r up) := by
  unfold slaF slA
  split
  · split <;> exact divF_in _ _
  · unfold In64; omega
theorem slb_in (t : Trk) (c r : Int) (up : Bool) : In64 (slbF t c r up) := by
  unfold slbF slB
  split
  · split <;> exact divF_in _ _
  · unfold In64; omega
theorem base_in {t : Trk} {c r : Int} (hc : cntP t) (hf : frP t) (ok : okC t c r) : In64 (baseFd t c r) := by
  have := (cell_right hc hf ok).h.1
  unfold h00 at this
  unfold baseFd
  rw [if_pos ok]
  unfold In64; omega
/-- the flag is told or not -/
def SomeFx (w : World) (b k : Nat) (w' : World) : Prop := ∃ q, FxW w.heap.size w b k q w'
theorem pnt_in (o d s : Int) : In64 (pntF o d s) := addF_in _ _
set_option maxRecDepth 100000 in
set_option maxHeartbeats 8000000 in
theorem rRMeet_any (t : Trk) (c r : Int) (up : Bool) (a : Ry) (b k : Nat) (o : Bool) (B : Nat) (w : World) (hB : B ≤ b) (hc : cntP t) (hf : frP t) (ok : okC t c r) (ha : a.may) (K : TrkM B w t) (m : MAt w b k o) :
    Calls Tryz.prog 24 #[.pointer (some ⟨b, k, none⟩), trkV t, .int .i64 c, .int .i64 r, .bool up, a.o, a.d, .int .i64 a.long] w fun e w' => e = .returned (.tuple #[.int .i64 (mtsF t c r up a), .bool (metF t c r up a)]) ∧ SomeFx w b k w' := by
  have Q0' := PTF.new 34 K m hB
  have R0 := Lib.hid (show RW w (((w.alloc (.cells #[.int .i64 t.rate, .int .i64 t.cell, .int .i64 t.cols, .int .i64 t.rows, .int .i64 t.cx, .int .i64 t.cy, .slice t.H.a t.H.n t.H.c, .slice t.G.a t.G.n t.G.c, .slice t.ka t.kn t.kc, .slice t.la t.ln t.lc, .slice t.ra t.rn t.rc, .slice t.ga t.gn t.gc, .int .i64 t.sx, .int .i64 t.sy, .int .u32 t.head, .int .i64 t.laps] 34)).alloc (.cells #[.int .i64 a.ox, .int .i64 a.oy, .int .i64 a.oz] 36)).alloc (.cells #[.int .i64 a.dx, .int .i64 a.dy, .int .i64 a.dz] 36)) B w.heap.size b k t a from
    ⟨⟨o, (Q0'.step ((Below.refl _ _).alloc (Nat.le_refl _) _)).step ((Below.refl _ _).alloc (Nat.le_refl _) _)⟩, (VW.new _ _ a.ox a.oy a.oz _ (by simp)).alloc _, VW.new _ _ a.dx a.dy a.dz _ (by simp)⟩)
  have ins : a.ins := by
    unfold Ry.may Rg at ha
    exact ⟨⟨by omega, by omega, by omega, by omega, by omega, by omega⟩, ⟨by omega, by omega, by omega, by omega, by omega, by omega⟩, by unfold In64; omega⟩
  have h64 : (0 ≤ c ∧ c < 64) ∧ (0 ≤ r ∧ r < 64) := by
    obtain ⟨⟨k1, k2⟩, k3, k4⟩ := ok
    obtain ⟨⟨m1, m2⟩, -⟩ := hc
    omega
  have FX := Lib.hid (rof_fit ha.1 hf.2.1 h64.1 hf.1)
  have FY := Lib.hid (rof_fit ha.2.1 hf.2.2.1 h64.2 hf.1)
  have SA := Lib.hid (sla_in t c r up)
  have SB := Lib.hid (slb_in t c r up)
  have BI := Lib.hid (base_in hc hf ok)
  have VS := Lib.hid (fun (q : Bool) (W : World) (Q : PTF w W B w.heap.size b k q t) => rFSlopes_any t c r up b k q B W hB hc hf Q.t Q.f.m)
  have VB := Lib.hid (fun (q : Bool) (W : World) (Q : PTF w W B w.heap.size b k q t) => rFBase_any t c r B W Q.bz hc Q.t)
  have PT := Lib.hid (fun (s : Int) (hs : In64 s) (q : Bool) (W : World) (M : MAt W b k q) => rRPoint_any a s b k q W ins hs M)
  have WH := Lib.hid (fun (x y : Int) (hx : In64 x) (hy : In64 y) (W : World) (R : RW w W B w.heap.size b k t a) => R.p.elim fun q Q => rFWhere_any t x y B W Q.bz (TrkR.of hc hf) Q.t)
  have MN' : ¬ (stpF t c r up a < 0 ∧ dstF t c r up a ≤ a.long) → 0 = mtsF t c r up a ∧ false = metF t c r up a := fun h => ⟨by unfold mtsF; rw [if_neg h], by unfold metF; rw [decide_eq_false h]; rfl⟩
  have MY' : (stpF t c r up a < 0 ∧ dstF t c r up a ≤ a.long) → dstF t c r up a = mtsF t c r up a ∧ inTri t c r up (pntF a.ox a.dx (dstF t c r up a)) (pntF a.oy a.dy (dstF t c r up a)) = metF t c r up a := fun h => ⟨by unfold mtsF; rw [if_pos h], by unfold metF; rw [decide_eq_true h, Bool.true_and]⟩
  obtain ⟨ms, hms⟩ : ∃ q, mtsF t c r up a = q := ⟨_, rfl⟩
  obtain ⟨mm, hmm⟩ : ∃ q, metF t c r up a = q := ⟨_, rfl⟩
  rw [hms, hmm] at MN' MY' ⊢
  have DS : dstF t c r up a = if 0 < ovrF t c r up a then divF (ovrF t c r up a) (subF 0 (stpF t c r up a)) else 0 := rfl
  have EO : ovrF t c r up a = subF a.oz (addF (addF (baseFd t c r) (mulF (slaF t c r up) (rofX t c a))) (mulF (slbF t c r up) (rofY t r a))) := rfl
  have ES : stpF t c r up a = subF (subF a.dz (mulF (slaF t c r up) a.dx)) (mulF (slbF t c r up) a.dy) := rfl
  generalize slaF t c r up = sa at *
  generalize slbF t c r up = sb at *
  generalize baseFd t c r = bs at *
  unfold rofX rofY at EO
  obtain ⟨fx1, fx2, fx3, fx4, -⟩ := FX.out
  obtain ⟨fy1, fy2, fy3, fy4, -⟩ := FY.out
  have HX := Lib.hid fx4
  have HY := Lib.hid fy4
  have UX := Lib.hid (And.intro fx1 (And.intro fx2 fx3))
  have UY := Lib.hid (And.intro fy1 (And.intro fy2 fy3))
  have HI := Lib.hid ins
  have MN := Lib.hid MN'
  have MY := Lib.hid MY'
  have HO := Lib.hid EO
  have HS := Lib.hid ES
  have HD := Lib.hid DS
  clear FX FY fx1 fx2 fx3 fx4 fy1 fy2 fy3 fy4 hc hf ok K m h64 Q0' ins hms hmm ha MN' MY' EO ES DS
  go_enter Tryz.func24, Tryz.ntmps24
  go_wp2_with fail
  refine calls_gen (S := fun W => RW w W B w.heap.size b k t a) R0.out (fun W1 hS => ?_)
  have R1 := Lib.hid hS
  obtain ⟨q1, Q1'⟩ := hS.p
  have Q1 := Lib.hid Q1'
  clear hS R0 Q1'
  refine (VS.out _ _ Q1.out).mono ?_
  rintro e w2 ⟨rfl, h⟩
  have R2 := Lib.hid ((R1.out.fx Q1.out h).step (Below.refl _ _).drew)
  obtain ⟨q2, Q2'⟩ := R2.out.p
  have Q2 := Lib.hid Q2'
  clear h R1 Q1 Q2' VS
  go_wp2_with fail
  as_aux_lemma =>
  refine wp_region_held_drew (S := RWc w.heap.size t a) (by kernel_rfl) R2.out.cs (fun hHeld => ?_)
  generalize w2.drew = w3 at *
  refine wpAnyH_takeD 0 39 (v := ?_) (by kernel_rfl) (by kernel_rfl) (by kernel_rfl) (by kernel_rfl) (by rfl) (fun _ _ _ h => h) ?_ hHeld ?_
  rotate_left 1
  (intro o ho W hSw; simp only [List.getElem?_toArray, List.getElem?_cons_succ, List.getElem?_cons_zero, Option.some.injEq] at ho; subst ho; (try dsimp only [RWc] at hSw); go_simp; try with_reducible rfl)
  (try simp only [Act.put, List.setIfInBounds_toArray, List.set_cons_zero, List.set_cons_succ])
  refine wpAnyH_takeD 1 40 (v := ?_) (by kernel_rfl) (by kernel_rfl) (by kernel_rfl) (by kernel_rfl) (by rfl) (fun _ _ _ h => h) ?_ hHeld ?_
  rotate_left 1
  (intro o ho W hSw; simp only [List.getElem?_toArray, List.getElem?_cons_succ, List.getElem?_cons_zero, Option.some.injEq] at ho; subst ho; (try dsimp only [RWc] at hSw); go_simp; try with_reducible rfl)
  (try simp only [Act.put, List.setIfInBounds_toArray, List.set_cons_zero, List.set_cons_succ])
  refine wpAnyH_takeD 2 41 (v := ?_) (by kernel_rfl) (by kernel_rfl) (by kernel_rfl) (by kernel_rfl) (by rfl) (fun _ _ _ h => h) ?_ hHeld ?_
  rotate_left 1
  (intro o ho W hSw; simp only [List.getElem?_toArray, List.getElem?_cons_succ, List.getElem?_cons_zero, Option.some.injEq] at ho; subst ho; (try dsimp only [RWc] at hSw); go_simp; try with_reducible rfl)
  (try simp only [Act.put, List.setIfInBounds_toArray, List.set_cons_zero, List.set_cons_succ])
  refine wpAnyH_takeD 3 42 (v := ?_) (by kernel_rfl) (by kernel_rfl) (by kernel_rfl) (by kernel_rfl) (by rfl) (fun _ _ _ h => h) ?_ hHeld ?_
  rotate_left 1
  (intro o ho W hSw; simp only [List.getElem?_toArray, List.getElem?_cons_succ, List.getElem?_cons_zero, Option.some.injEq] at ho; subst ho; (try dsimp only [RWc] at hSw); go_simp; try with_reducible rfl)
  (try simp only [Act.put, List.setIfInBounds_toArray, List.set_cons_zero, List.set_cons_succ])
  refine wpAnyH_takeD 4 43 (v := ?_) (by kernel_rfl) (by kernel_rfl) (by kernel_rfl) (by kernel_rfl) (by rfl) (fun _ _ _ h => h) ?_ hHeld ?_
  rotate_left 1
  (intro o ho W hSw; simp only [List.getElem?_toArray, List.getElem?_cons_succ, List.getElem?_cons_zero, Option.some.injEq] at ho; subst ho; (try dsimp only [RWc] at hSw); go_simp; try with_reducible rfl)
  (try simp only [Act.put, List.setIfInBounds_toArray, List.set_cons_zero, List.set_cons_succ])
  refine wpAnyH_takeD 5 44 (v := ?_) (by kernel_rfl) (by kernel_rfl) (by kernel_rfl) (by kernel_rfl) (by rfl) (fun _ _ _ h => h) ?_ hHeld ?_
  rotate_left 1
  (intro o ho W hSw; simp only [List.getElem?_toArray, List.getElem?_cons_succ, List.getElem?_cons_zero, Option.some.injEq] at ho; subst ho; (try dsimp only [RWc] at hSw); go_simp; try with_reducible rfl)
  (try simp only [Act.put, List.setIfInBounds_toArray, List.set_cons_zero, List.set_cons_succ])
  refine wpAnyH_takeD 6 45 (v := ?_) (by kernel_rfl) (by kernel_rfl) (by kernel_rfl) (by kernel_rfl) (by rfl) (fun _ _ _ h => h) ?_ hHeld ?_
  rotate_left 1
  (intro o ho W hSw; simp only [List.getElem?_toArray, List.getElem?_cons_succ, List.getElem?_cons_zero, Option.some.injEq] at ho; subst ho; (try dsimp only [RWc] at hSw); go_simp; try with_reducible rfl)
  (try simp only [Act.put, List.setIfInBounds_toArray, List.set_cons_zero, List.set_cons_succ])
  refine wpAnyH_takeD 7 46 (v := ?_) (by kernel_rfl) (by kernel_rfl) (by kernel_rfl) (by kernel_rfl) (by rfl) (fun _ _ _ h => h) ?_ hHeld ?_
  rotate_left 1
  (intro o ho W hSw; simp only [List.getElem?_toArray, List.getElem?_cons_succ, List.getElem?_cons_zero, Option.some.injEq] at ho; subst ho; (try dsimp only [RWc] at hSw); go_simp; try with_reducible rfl)
  (try simp only [Act.put, List.setIfInBounds_toArray, List.set_cons_zero, List.set_cons_succ])
  refine wpAnyH_takeD 10 49 (v := ?_) (by kernel_rfl) (by kernel_rfl) (by kernel_rfl) (by kernel_rfl) (by rfl) (fun _ _ _ h => h) ?_ hHeld ?_
  rotate_left 1
  (intro o ho W hSw; simp only [List.getElem?_toArray, List.getElem?_cons_succ, List.getElem?_cons_zero, Option.some.injEq] at ho; subst ho; (try dsimp only [RWc] at hSw); go_simp; try with_reducible rfl)
  (try simp only [Act.put, List.setIfInBounds_toArray, List.set_cons_zero, List.set_cons_succ])
  refine wpAnyH_takeD 11 50 (v := ?_) (by kernel_rfl) (by kernel_rfl) (by kernel_rfl) (by kernel_rfl) (by rfl) (fun _ _ _ h => h) ?_ hHeld ?_
  rotate_left 1
  (intro o ho W hSw; simp only [List.getElem?_toArray, List.getElem?_cons_succ, List.getElem?_cons_zero, Option.some.injEq] at ho; subst ho; (try dsimp only [RWc] at hSw); go_simp; try with_reducible rfl)
  (try simp only [Act.put, List.setIfInBounds_toArray, List.set_cons_zero, List.set_cons_succ])
  refine wpAnyH_takeD 12 51 (v := ?_) (by kernel_rfl) (by kernel_rfl) (by kernel_rfl) (by kernel_rfl) (by rfl) (fun _ _ _ h => h) ?_ hHeld ?_
  rotate_left 1
  (intro o ho W hSw; simp only [List.getElem?_toArray, List.getElem?_cons_succ, List.getElem?_cons_zero, Option.some.injEq] at ho; subst ho; (try dsimp only [RWc] at hSw); go_simp; try with_reducible rfl)
  (try simp only [Act.put, List.setIfInBounds_toArray, List.set_cons_zero, List.set_cons_succ])
  refine wpAnyH_takeD 13 52 (v := ?_) (by kernel_rfl) (by kernel_rfl) (by kernel_rfl) (by kernel_rfl) (by rfl) (fun _ _ _ h => h) ?_ hHeld ?_
  rotate_left 1
  (intro o ho W hSw; simp only [List.getElem?_toArray, List.getElem?_cons_succ, List.getElem?_cons_zero, Option.some.injEq] at ho; subst ho; (try dsimp only [RWc] at hSw); go_simp; try with_reducible rfl)
  (try simp only [Act.put, List.setIfInBounds_toArray, List.set_cons_zero, List.set_cons_succ])
  refine wpAnyH_onlyD 8 (by kernel_rfl) (fun o ho K hK => ?_) (by kernel_rfl)
  simp only [List.getElem?_toArray, List.getElem?_cons_succ, List.getElem?_cons_zero, Option.some.injEq] at ho
  subst ho
  go_simp
  refine (rfMul_any sa a.dx b k _ _ SA.out.1 SA.out.2 HI.out.d.x0 HI.out.d.x1 Q2.out.f.m).mono ?_
  rintro e w3 ⟨rfl, h⟩
  have R3 := Lib.hid (R2.out.fx Q2.out h)
  clear h
  obtain ⟨q3, Q3'⟩ := R3.out.p
  have Q3 := Lib.hid Q3'
  clear Q3'
  go_wp2_with fail
  refine hK.out _ _ (R3.out.cs) ?_
  clear hK K hHeld
  intro hHeld
  clear R2 Q2
  refine wpAnyH_onlyD 9 (by kernel_rfl) (fun o ho K hK => ?_) (by kernel_rfl)
  simp only [List.getElem?_toArray, List.getElem?_cons_succ, List.getElem?_cons_zero, Option.some.injEq] at ho
  subst ho
  go_simp
  refine (rfSub_any a.dz (mulF sa a.dx) b k _ _ HI.out.d.z0 HI.out.d.z1 (mulF_in _ _).1 (mulF_in _ _).2 Q3.out.f.m).mono ?_
  rintro e w4 ⟨rfl, h⟩
  have R4 := Lib.hid (R3.out.fx Q3.out h)
  clear h
  obtain ⟨q4, Q4'⟩ := R4.out.p
  have Q4 := Lib.hid Q4'
  clear Q4'
  go_wp2_with fail
  refine hK.out _ _ (R4.out.cs) ?_
  clear hK K hHeld
  intro hHeld
  clear R3 Q3
  refine wpAnyH_onlyD 14 (by kernel_rfl) (fun o ho K hK => ?_) (by kernel_rfl)
  simp only [List.getElem?_toArray, List.getElem?_cons_succ, List.getElem?_cons_zero, Option.some.injEq] at ho
  subst ho
  go_simp
  refine (rfMul_any sb a.dy b k _ _ SB.out.1 SB.out.2 HI.out.d.y0 HI.out.d.y1 Q4.out.f.m).mono ?_
  rintro e w5 ⟨rfl, h⟩
  have R5 := Lib.hid (R4.out.fx Q4.out h)
  clear h
  obtain ⟨q5, Q5'⟩ := R5.out.p
  have Q5 := Lib.hid Q5'
  clear Q5'
  go_wp2_with fail
  refine hK.out _ _ (R5.out.cs) ?_
  clear hK K hHeld
  intro hHeld
  clear R4 Q4
  refine wpAnyH_onlyD 15 (by kernel_rfl) (fun o ho K hK => ?_) (by kernel_rfl)
  simp only [List.getElem?_toArray, List.getElem?_cons_succ, List.getElem?_cons_zero, Option.some.injEq] at ho
  subst ho
  go_simp
  refine (rfSub_any (subF a.dz (mulF sa a.dx)) (mulF sb a.dy) b k _ _ (subF_in _ _).1 (subF_in _ _).2 (mulF_in _ _).1 (mulF_in _ _).2 Q5.out.f.m).mono ?_
  rintro e w6 ⟨rfl, h⟩
  have R6 := Lib.hid (R5.out.fx Q5.out h)
  clear h
  obtain ⟨q6, Q6'⟩ := R6.out.p
  have Q6 := Lib.hid Q6'
  clear Q6'
  go_wp2_with fail
  refine hK.out _ _ (R6.out.cs) ?_
  clear hK K hHeld
  intro hHeld
  clear R5 Q5
  refine wpAnyH_takeD 16 20 (v := ?_) (by kernel_rfl) (by kernel_rfl) (by kernel_rfl) (by kernel_rfl) (by rfl) (fun _ _ _ h => h) ?_ hHeld ?_
  rotate_left 1
  (intro o ho W hSw; simp only [List.getElem?_toArray, List.getElem?_cons_succ, List.getElem?_cons_zero, Option.some.injEq] at ho; subst ho; (try dsimp only [RWc] at hSw); go_simp; try with_reducible rfl)
  (try simp only [Act.put, List.setIfInBounds_toArray, List.set_cons_zero, List.set_cons_succ])
  refine wpAnyH_done (by kernel_rfl) ?_ _
  clear hHeld
  as_aux_lemma =>
  have IS := Lib.hid (show In64 (stpF t c r up a) by rw [HS.out]; exact subF_in _ _)
  rw [← HS.out]
  have cs := R6.out.cs
  unfold RWc at cs
  obtain ⟨⟨c00, c01, c02, c03, c04, c05, c06, c07, c08, c09, c10, c11, c12, c13, c14, c15⟩, ⟨p0, p1, p2⟩, ⟨d0, d1, d2⟩⟩ := cs
  obtain ⟨⟨u1, v1⟩, ⟨u2, v2⟩, ⟨u3, v3⟩⟩ := UX.out
  obtain ⟨⟨u4, v4⟩, ⟨u5, v5⟩, ⟨u6, v6⟩⟩ := UY.out
  go_wp2_with fail
  clear u1 u2 u3 u4 u5 u6 v1 v2 v3 v4 v5 v6 UX UY c00 c01 c02 c03 c04 c05 c06 c07 c08 c09 c10 c11 c12 c13 c14 c15 p0 p1 p2 d0 d1 d2
  have R7 := Lib.hid (R6.out.step (Below.refl _ _).drew)
  obtain ⟨q7, Q7'⟩ := R7.out.p
  have Q7 := Lib.hid Q7'
  clear R6 Q6 Q7'
  as_aux_lemma =>
  refine wp_region_held_drew (S := RWc w.heap.size t a) (by kernel_rfl) R7.out.cs (fun hHeld => ?_)
  generalize w6.drew = w7 at *
  generalize a.ox - t.cx - c * t.cell = X at *
  generalize a.oy - t.cy - r * t.cell = Y at *
  refine wpAnyH_takeD 0 77 (v := ?_) (by kernel_rfl) (by kernel_rfl) (by kernel_rfl) (by kernel_rfl) (by rfl) (fun _ _ _ h => h) ?_ hHeld ?_
  rotate_left 1
  (intro o ho W hSw; simp only [List.getElem?_toArray, List.getElem?_cons_succ, List.getElem?_cons_zero, Option.some.injEq] at ho; subst ho; (try dsimp only [RWc] at hSw); go_simp; try with_reducible rfl)
  (try simp only [Act.put, List.setIfInBounds_toArray, List.set_cons_zero, List.set_cons_succ])
  refine wpAnyH_takeD 1 78 (v := ?_) (by kernel_rfl) (by kernel_rfl) (by kernel_rfl) (by kernel_rfl) (by rfl) (fun _ _ _ h => h) ?_ hHeld ?_
  rotate_left 1
  (intro o ho W hSw; simp only [List.getElem?_toArray, List.getElem?_cons_succ, List.getElem?_cons_zero, Option.some.injEq] at ho; subst ho; (try dsimp only [RWc] at hSw); go_simp; try with_reducible rfl)
  (try simp only [Act.put, List.setIfInBounds_toArray, List.set_cons_zero, List.set_cons_succ])
  refine wpAnyH_takeD 2 79 (v := ?_) (by kernel_rfl) (by kernel_rfl) (by kernel_rfl) (by kernel_rfl) (by rfl) (fun _ _ _ h => h) ?_ hHeld ?_
  rotate_left 1
  (intro o ho W hSw; simp only [List.getElem?_toArray, List.getElem?_cons_succ, List.getElem?_cons_zero, Option.some.injEq] at ho; subst ho; (try dsimp only [RWc] at hSw); go_simp; try with_reducible rfl)
  (try simp only [Act.put, List.setIfInBounds_toArray, List.set_cons_zero, List.set_cons_succ])
  refine wpAnyH_takeD 3 80 (v := ?_) (by kernel_rfl) (by kernel_rfl) (by kernel_rfl) (by kernel_rfl) (by rfl) (fun _ _ _ h => h) ?_ hHeld ?_
  rotate_left 1
  (intro o ho W hSw; simp only [List.getElem?_toArray, List.getElem?_cons_succ, List.getElem?_cons_zero, Option.some.injEq] at ho; subst ho; (try dsimp only [RWc] at hSw); go_simp; try with_reducible rfl)
  (try simp only [Act.put, List.setIfInBounds_toArray, List.set_cons_zero, List.set_cons_succ])
  refine wpAnyH_takeD 4 81 (v := ?_) (by kernel_rfl) (by kernel_rfl) (by kernel_rfl) (by kernel_rfl) (by rfl) (fun _ _ _ h => h) ?_ hHeld ?_
  rotate_left 1
  (intro o ho W hSw; simp only [List.getElem?_toArray, List.getElem?_cons_succ, List.getElem?_cons_zero, Option.some.injEq] at ho; subst ho; (try dsimp only [RWc] at hSw); go_simp; try with_reducible rfl)
  (try simp only [Act.put, List.setIfInBounds_toArray, List.set_cons_zero, List.set_cons_succ])
  refine wpAnyH_takeD 5 82 (v := ?_) (by kernel_rfl) (by kernel_rfl) (by kernel_rfl) (by kernel_rfl) (by rfl) (fun _ _ _ h => h) ?_ hHeld ?_
  rotate_left 1
  (intro o ho W hSw; simp only [List.getElem?_toArray, List.getElem?_cons_succ, List.getElem?_cons_zero, Option.some.injEq] at ho; subst ho; (try dsimp only [RWc] at hSw); go_simp; try with_reducible rfl)
  (try simp only [Act.put, List.setIfInBounds_toArray, List.set_cons_zero, List.set_cons_succ])
  refine wpAnyH_takeD 6 83 (v := ?_) (by kernel_rfl) (by kernel_rfl) (by kernel_rfl) (by kernel_rfl) (by rfl) (fun _ _ _ h => h) ?_ hHeld ?_
  rotate_left 1
  (intro o ho W hSw; simp only [List.getElem?_toArray, List.getElem?_cons_succ, List.getElem?_cons_zero, Option.some.injEq] at ho; subst ho; (try dsimp only [RWc] at hSw); go_simp; try with_reducible rfl)
  (try simp only [Act.put, List.setIfInBounds_toArray, List.set_cons_zero, List.set_cons_succ])
  refine wpAnyH_takeD 7 84 (v := ?_) (by kernel_rfl) (by kernel_rfl) (by kernel_rfl) (by kernel_rfl) (by rfl) (fun _ _ _ h => h) ?_ hHeld ?_
  rotate_left 1
  (intro o ho W hSw; simp only [List.getElem?_toArray, List.getElem?_cons_succ, List.getElem?_cons_zero, Option.some.injEq] at ho; subst ho; (try dsimp only [RWc] at hSw); go_simp; try with_reducible rfl)
  (try simp only [Act.put, List.setIfInBounds_toArray, List.set_cons_zero, List.set_cons_succ])
  refine wpAnyH_takeD 9 86 (v := ?_) (by kernel_rfl) (by kernel_rfl) (by kernel_rfl) (by kernel_rfl) (by rfl) (fun _ _ _ h => h) ?_ hHeld ?_
  rotate_left 1
  (intro o ho W hSw; simp only [List.getElem?_toArray, List.getElem?_cons_succ, List.getElem?_cons_zero, Option.some.injEq] at ho; subst ho; (try dsimp only [RWc] at hSw); go_simp; try with_reducible rfl)
  (try simp only [Act.put, List.setIfInBounds_toArray, List.set_cons_zero, List.set_cons_succ])
  refine wpAnyH_takeD 10 87 (v := ?_) (by kernel_rfl) (by kernel_rfl) (by kernel_rfl) (by kernel_rfl) (by rfl) (fun _ _ _ h => h) ?_ hHeld ?_
  rotate_left 1
  (intro o ho W hSw; simp only [List.getElem?_toArray, List.getElem?_cons_succ, List.getElem?_cons_zero, Option.some.injEq] at ho; subst ho; (try dsimp only [RWc] at hSw); go_simp; try with_reducible rfl)
  (try simp only [Act.put, List.setIfInBounds_toArray, List.set_cons_zero, List.set_cons_succ])
  refine wpAnyH_takeD 11 88 (v := ?_) (by kernel_rfl) (by kernel_rfl) (by kernel_rfl) (by kernel_rfl) (by rfl) (fun _ _ _ h => h) ?_ hHeld ?_
  rotate_left 1
  (intro o ho W hSw; simp only [List.getElem?_toArray, List.getElem?_cons_succ, List.getElem?_cons_zero, Option.some.injEq] at ho; subst ho; (try dsimp only [RWc] at hSw); go_simp; try with_reducible rfl)
  (try simp only [Act.put, List.setIfInBounds_toArray, List.set_cons_zero, List.set_cons_succ])
  refine wpAnyH_takeD 14 91 (v := ?_) (by kernel_rfl) (by kernel_rfl) (by kernel_rfl) (by kernel_rfl) (by rfl) (fun _ _ _ h => h) ?_ hHeld ?_
  rotate_left 1
  (intro o ho W hSw; simp only [List.getElem?_toArray, List.getElem?_cons_succ, List.getElem?_cons_zero, Option.some.injEq] at ho; subst ho; (try dsimp only [RWc] at hSw); go_simp; try with_reducible rfl)
  (try simp only [Act.put, List.setIfInBounds_toArray, List.set_cons_zero, List.set_cons_succ])
  refine wpAnyH_takeD 15 92 (v := ?_) (by kernel_rfl) (by kernel_rfl) (by kernel_rfl) (by kernel_rfl) (by rfl) (fun _ _ _ h => h) ?_ hHeld ?_
  rotate_left 1
  (intro o ho W hSw; simp only [List.getElem?_toArray, List.getElem?_cons_succ, List.getElem?_cons_zero, Option.some.injEq] at ho; subst ho; (try dsimp only [RWc] at hSw); go_simp; try with_reducible rfl)
  (try simp only [Act.put, List.setIfInBounds_toArray, List.set_cons_zero, List.set_cons_succ])
  refine wpAnyH_takeD 16 93 (v := ?_) (by kernel_rfl) (by kernel_rfl) (by kernel_rfl) (by kernel_rfl) (by rfl) (fun _ _ _ h => h) ?_ hHeld ?_
  rotate_left 1
  (intro o ho W hSw; simp only [List.getElem?_toArray, List.getElem?_cons_succ, List.getElem?_cons_zero, Option.some.injEq] at ho; subst ho; (try dsimp only [RWc] at hSw); go_simp; try with_reducible rfl)
  (try simp only [Act.put, List.setIfInBounds_toArray, List.set_cons_zero, List.set_cons_succ])
  refine wpAnyH_onlyD 8 (by kernel_rfl) (fun o ho K hK => ?_) (by kernel_rfl)
  simp only [List.getElem?_toArray, List.getElem?_cons_succ, List.getElem?_cons_zero, Option.some.injEq] at ho
  subst ho
  go_simp
  refine (VB.out _ _ Q7.out).mono ?_
  rintro e w8 ⟨rfl, h⟩
  have R8 := Lib.hid (R7.out.step h)
  clear h
  obtain ⟨q8, Q8'⟩ := R8.out.p
  have Q8 := Lib.hid Q8'
  clear Q8'
  go_wp2_with fail
  refine hK.out _ _ (R8.out.cs) ?_
  clear hK K hHeld
  intro hHeld
  clear R7 Q7
  refine wpAnyH_onlyD 12 (by kernel_rfl) (fun o ho K hK => ?_) (by kernel_rfl)
  simp only [List.getElem?_toArray, List.getElem?_cons_succ, List.getElem?_cons_zero, Option.some.injEq] at ho
  subst ho
  go_simp
  refine (rfMul_any sa X b k _ _ SA.out.1 SA.out.2 HX.out.1 HX.out.2 Q8.out.f.m).mono ?_
  rintro e w9 ⟨rfl, h⟩
  have R9 := Lib.hid (R8.out.fx Q8.out h)
  clear h
  obtain ⟨q9, Q9'⟩ := R9.out.p
  have Q9 := Lib.hid Q9'
  clear Q9'
  go_wp2_with fail
  refine hK.out _ _ (R9.out.cs) ?_
  clear hK K hHeld
  intro hHeld
  clear R8 Q8
  refine wpAnyH_onlyD 13 (by kernel_rfl) (fun o ho K hK => ?_) (by kernel_rfl)
  simp only [List.getElem?_toArray, List.getElem?_cons_succ, List.getElem?_cons_zero, Option.some.injEq] at ho
  subst ho
  go_simp
  refine (rfAdd_any bs (mulF sa X) b k _ _ BI.out.1 BI.out.2 (mulF_in _ _).1 (mulF_in _ _).2 Q9.out.f.m).mono ?_
  rintro e w10 ⟨rfl, h⟩
  have R10 := Lib.hid (R9.out.fx Q9.out h)
  clear h
  obtain ⟨q10, Q10'⟩ := R10.out.p
  have Q10 := Lib.hid Q10'
  clear Q10'
  go_wp2_with fail
  refine hK.out _ _ (R10.out.cs) ?_
  clear hK K hHeld
  intro hHeld
  clear R9 Q9
  refine wpAnyH_onlyD 17 (by kernel_rfl) (fun o ho K hK => ?_) (by kernel_rfl)
  simp only [List.getElem?_toArray, List.getElem?_cons_succ, List.getElem?_cons_zero, Option.some.injEq] at ho
  subst ho
  go_simp
  refine (rfMul_any sb Y b k _ _ SB.out.1 SB.out.2 HY.out.1 HY.out.2 Q10.out.f.m).mono ?_
  rintro e w11 ⟨rfl, h⟩
  have R11 := Lib.hid (R10.out.fx Q10.out h)
  clear h
  obtain ⟨q11, Q11'⟩ := R11.out.p
  have Q11 := Lib.hid Q11'
  clear Q11'
  go_wp2_with fail
  refine hK.out _ _ (R11.out.cs) ?_
  clear hK K hHeld
  intro hHeld
  clear R10 Q10
  refine wpAnyH_onlyD 18 (by kernel_rfl) (fun o ho K hK => ?_) (by kernel_rfl)
  simp only [List.getElem?_toArray, List.getElem?_cons_succ, List.getElem?_cons_zero, Option.some.injEq] at ho
  subst ho
  go_simp
  refine (rfAdd_any (addF bs (mulF sa X)) (mulF sb Y) b k _ _ (addF_in _ _).1 (addF_in _ _).2 (mulF_in _ _).1 (mulF_in _ _).2 Q11.out.f.m).mono ?_
  rintro e w12 ⟨rfl, h⟩
  have R12 := Lib.hid (R11.out.fx Q11.out h)
  clear h
  obtain ⟨q12, Q12'⟩ := R12.out.p
  have Q12 := Lib.hid Q12'
  clear Q12'
  go_wp2_with fail
  refine hK.out _ _ (R12.out.cs) ?_
  clear hK K hHeld
  intro hHeld
  clear R11 Q11
  refine wpAnyH_onlyD 19 (by kernel_rfl) (fun o ho K hK => ?_) (by kernel_rfl)
  simp only [List.getElem?_toArray, List.getElem?_cons_succ, List.getElem?_cons_zero, Option.some.injEq] at ho
  subst ho
  go_simp
  refine (rfSub_any a.oz (addF (addF bs (mulF sa X)) (mulF sb Y)) b k _ _ HI.out.o.z0 HI.out.o.z1 (addF_in _ _).1 (addF_in _ _).2 Q12.out.f.m).mono ?_
  rintro e w13 ⟨rfl, h⟩
  have R13 := Lib.hid (R12.out.fx Q12.out h)
  clear h
  obtain ⟨q13, Q13'⟩ := R13.out.p
  have Q13 := Lib.hid Q13'
  clear Q13'
  go_wp2_with fail
  refine hK.out _ _ (R13.out.cs) ?_
  clear hK K hHeld
  intro hHeld
  clear R12 Q12
  refine wpAnyH_takeD 20 23 (v := ?_) (by kernel_rfl) (by kernel_rfl) (by kernel_rfl) (by kernel_rfl) (by rfl) (fun _ _ _ h => h) ?_ hHeld ?_
  rotate_left 1
  (intro o ho W hSw; simp only [List.getElem?_toArray, List.getElem?_cons_succ, List.getElem?_cons_zero, Option.some.injEq] at ho; subst ho; (try dsimp only [RWc] at hSw); go_simp; try with_reducible rfl)
  (try simp only [Act.put, List.setIfInBounds_toArray, List.set_cons_zero, List.set_cons_succ])
  refine wpAnyH_done (by kernel_rfl) ?_ _
  clear hHeld VB BI
  as_aux_lemma =>
  have IO := Lib.hid (show In64 (ovrF t c r up a) by rw [HO.out]; exact subF_in _ _)
  rw [← HO.out]
  have DS := HD.out
  clear HO HS HD SA SB HX HY
  generalize ovrF t c r up a = ov at *
  generalize stpF t c r up a = st at *
  by_cases s1 : st < 0
  rotate_left
  · have E := Lib.hid (MN.out (fun k => s1 k.1))
    clear MN MY PT WH DS
    go_wp2
    go_ret2
    exact ⟨by rw [← E.out.1, ← E.out.2]; rfl, ⟨_, Q13.out.f.f⟩⟩
  by_cases o1 : 0 < ov
  · rw [if_pos o1] at DS
    rw [DS] at MN MY
    clear DS
    go_wp2_with fail
    refine (rfNeg_any st b k _ _ IS.out.1 IS.out.2 Q13.out.f.m).mono ?_
    rintro e w14 ⟨rfl, h⟩
    have R14 := Lib.hid (R13.out.fx Q13.out h)
    clear h
    obtain ⟨q14, Q14'⟩ := R14.out.p
    have Q14 := Lib.hid Q14'
    clear Q14' R13 Q13
    go_wp2_with fail
    refine (rfDiv_any ov (subF 0 st) b k _ _ IO.out.1 IO.out.2 (subF_in _ _).1 (subF_in _ _).2 Q14.out.f.m).mono ?_
    rintro e w15 ⟨rfl, h⟩
    have R15 := Lib.hid (R14.out.fx Q14.out h)
    clear h
    obtain ⟨q15, Q15'⟩ := R15.out.p
    have Q15 := Lib.hid Q15'
    clear Q15' R14 Q14
    have SD := Lib.hid (divF_in ov (subF 0 st))
    by_cases sl : (divF ov (subF 0 st)) ≤ a.long
    rotate_left
    · have E := Lib.hid (MN.out (fun k => sl k.2))
      clear MN MY PT WH
      go_wp2
      go_ret2
      exact ⟨by rw [← E.out.1, ← E.out.2]; rfl, ⟨_, Q15.out.f.f⟩⟩
    have E := Lib.hid (MY.out ⟨s1, sl⟩)
    clear MN MY
    have cs := R15.out.cs
    unfold RWc at cs
    obtain ⟨⟨c00, c01, c02, c03, c04, c05, c06, c07, c08, c09, c10, c11, c12, c13, c14, c15⟩, ⟨p0, p1, p2⟩, ⟨d0, d1, d2⟩⟩ := cs
    go_wp2_with fail
    refine (PT.out (divF ov (subF 0 st)) (by first | exact SD.out | (unfold In64; omega)) _ _ Q15.out.f.m).mono ?_
    rintro e wp ⟨rfl, h⟩
    have Rp := Lib.hid (R15.out.fx Q15.out h)
    clear h R15 Q15 PT c00 c01 c02 c03 c04 c05 c06 c07 c08 c09 c10 c11 c12 c13 c14 c15 p0 p1 p2 d0 d1 d2
    have cs := Rp.out.cs
    unfold RWc at cs
    obtain ⟨⟨c00, c01, c02, c03, c04, c05, c06, c07, c08, c09, c10, c11, c12, c13, c14, c15⟩, -, -⟩ := cs
    have hml : w.heap.size < wp.heap.size := Rp.out.p.elim fun q Q => Q.c.lt
    go_wp2_with fail
    refine calls_gen (S := fun W => RW w W B w.heap.size b k t a) (Rp.out.step ((Below.refl _ _).alloc (Nat.le_refl _) _)) (fun W9 hS => ?_)
    have R9 := Lib.hid hS
    clear hS Rp c00 c01 c02 c03 c04 c05 c06 c07 c08 c09 c10 c11 c12 c13 c14 c15 hml
    refine (WH.out _ _ (pnt_in _ _ _) (pnt_in _ _ _) _ R9.out).mono ?_
    rintro e wq ⟨rfl, h⟩
    have Rq := Lib.hid (R9.out.step h)
    clear h R9 WH
    obtain ⟨qq, Qq⟩ := Rq.out.p
    have QQ := Lib.hid Qq.f.f
    clear Qq Rq
    unfold inTri at E
    by_cases g1 : (whK t (pntF a.ox a.dx (divF ov (subF 0 st))) : Int) = c
    rotate_left
    · have E2 := Lib.hid (show (divF ov (subF 0 st)) = ms ∧ false = mm from ⟨E.out.1, by rw [← E.out.2, decide_eq_false g1]; rfl⟩)
      clear E
      go_wp2
      go_ret2
      exact ⟨by rw [← E2.out.1, ← E2.out.2]; rfl, ⟨_, QQ.out⟩⟩
    by_cases g2 : (whR t (pntF a.oy a.dy (divF ov (subF 0 st))) : Int) = r
    rotate_left
    · have E2 := Lib.hid (show (divF ov (subF 0 st)) = ms ∧ false = mm from ⟨E.out.1, by rw [← E.out.2, decide_eq_true g1, decide_eq_false g2]; rfl⟩)
      clear E
      go_wp2
      go_ret2
      exact ⟨by rw [← E2.out.1, ← E2.out.2]; rfl, ⟨_, QQ.out⟩⟩
    have E2 := Lib.hid (show (divF ov (subF 0 st)) = ms ∧ (decide (whX t (pntF a.ox a.dx (divF ov (subF 0 st))) < whY t (pntF a.oy a.dy (divF ov (subF 0 st)))) == up) = mm from ⟨E.out.1, by rw [← E.out.2, decide_eq_true g1, decide_eq_true g2]; rfl⟩)
    clear E
    go_wp2
    go_ret2
    exact ⟨by rw [← E2.out.1, ← E2.out.2]; rfl, ⟨_, QQ.out⟩⟩
  · rw [if_neg o1] at DS
    rw [DS] at MN MY
    clear DS
    have SD := Lib.hid (show In64 0 by unfold In64; omega)
    by_cases sl : 0 ≤ a.long
    rotate_left
    · have E := Lib.hid (MN.out (fun k => sl k.2))
      clear MN MY PT WH
      go_wp2
      go_ret2
      exact ⟨by rw [← E.out.1, ← E.out.2]; rfl, ⟨_, Q13.out.f.f⟩⟩
    have E := Lib.hid (MY.out ⟨s1, sl⟩)
    clear MN MY
    have cs := R13.out.cs
    unfold RWc at cs
    obtain ⟨⟨c00, c01, c02, c03, c04, c05, c06, c07, c08, c09, c10, c11, c12, c13, c14, c15⟩, ⟨p0, p1, p2⟩, ⟨d0, d1, d2⟩⟩ := cs
    go_wp2_with fail
    refine (PT.out 0 (by first | exact SD.out | (unfold In64; omega)) _ _ Q13.out.f.m).mono ?_
    rintro e wp ⟨rfl, h⟩
    have Rp := Lib.hid (R13.out.fx Q13.out h)
    clear h R13 Q13 PT c00 c01 c02 c03 c04 c05 c06 c07 c08 c09 c10 c11 c12 c13 c14 c15 p0 p1 p2 d0 d1 d2
    have cs := Rp.out.cs
    unfold RWc at cs
    obtain ⟨⟨c00, c01, c02, c03, c04, c05, c06, c07, c08, c09, c10, c11, c12, c13, c14, c15⟩, -, -⟩ := cs
    have hml : w.heap.size < wp.heap.size := Rp.out.p.elim fun q Q => Q.c.lt
    go_wp2_with fail
    refine calls_gen (S := fun W => RW w W B w.heap.size b k t a) (Rp.out.step ((Below.refl _ _).alloc (Nat.le_refl _) _)) (fun W9 hS => ?_)
    have R9 := Lib.hid hS
    clear hS Rp c00 c01 c02 c03 c04 c05 c06 c07 c08 c09 c10 c11 c12 c13 c14 c15 hml
    refine (WH.out _ _ (pnt_in _ _ _) (pnt_in _ _ _) _ R9.out).mono ?_
    rintro e wq ⟨rfl, h⟩
    have Rq := Lib.hid (R9.out.step h)
    clear h R9 WH
    obtain ⟨qq, Qq⟩ := Rq.out.p
    have QQ := Lib.hid Qq.f.f
    clear Qq Rq
    unfold inTri at E
    by_cases g1 : (whK t (pntF a.ox a.dx 0) : Int) = c
    rotate_left
    · have E2 := Lib.hid (show 0 = ms ∧ false = mm from ⟨E.out.1, by rw [← E.out.2, decide_eq_false g1]; rfl⟩)
      clear E
      go_wp2
      go_ret2
      exact ⟨by rw [← E2.out.1, ← E2.out.2]; rfl, ⟨_, QQ.out⟩⟩
    by_cases g2 : (whR t (pntF a.oy a.dy 0) : Int) = r
    rotate_left
    · have E2 := Lib.hid (show 0 = ms ∧ false = mm from ⟨E.out.1, by rw [← E.out.2, decide_eq_true g1, decide_eq_false g2]; rfl⟩)
      clear E
      go_wp2
      go_ret2
      exact ⟨by rw [← E2.out.1, ← E2.out.2]; rfl, ⟨_, QQ.out⟩⟩
    have E2 := Lib.hid (show 0 = ms ∧ (decide (whX t (pntF a.ox a.dx 0) < whY t (pntF a.oy a.dy 0)) == up) = mm from ⟨E.out.1, by rw [← E.out.2, decide_eq_true g1, decide_eq_true g2]; rfl⟩)
    clear E
    go_wp2
    go_ret2
    exact ⟨by rw [← E2.out.1, ← E2.out.2]; rfl, ⟨_, QQ.out⟩⟩
end Go.Proofs.YtinahmhiopgcnaaGreat

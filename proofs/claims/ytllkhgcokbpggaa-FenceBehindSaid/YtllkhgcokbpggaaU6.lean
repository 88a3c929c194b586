/- The program's fence: breaks, Around. -/
import Derived.Test.YtllkhgcokbpggaaU5
import Derived.Test.YtllkhgcokbpggaaNn
import Derived.Test.YtllkhgcokbpggaaU3
import Derived.Test.YtllkhgcokbpggaaVn
namespace Go.Proofs.Ytllkhgcokbpggaa
open Go.RowKit
set_option linter.unusedVariables false
set_option linter.unusedSimpArgs false

/-- a piece's and two places' copies -/
structure BkW (w W : World) (g : Fv) (px py qx qy : Int) : Prop where
  g : BW W w.heap.size [.int .i64 g.ax, .int .i64 g.ay, .int .i64 g.bx, .int .i64 g.by', .int .i64 g.r]
  p : BW W (w.heap.size + 1) [.int .i64 px, .int .i64 py]
  q : BW W (w.heap.size + 1 + 1) [.int .i64 qx, .int .i64 qy]
  l : Below w.heap.size w W
theorem BkW.step {w W W' : World} {g : Fv} {px py qx qy : Int} (S : BkW w W g px py qx qy) (h : Below W.heap.size W W') : BkW w W' g px py qx qy := ⟨S.g.below h S.g.lt, S.p.below h S.p.lt, S.q.below h S.q.lt, S.l.trans (h.mono S.l.size)⟩
set_option maxRecDepth 100000 in
set_option maxHeartbeats 2000000 in
theorem fBrk_any (g : Fv) (px py qx qy : Int) (w : World) : Calls Try.prog 34 #[.agg #[.int .i64 g.ax, .int .i64 g.ay, .int .i64 g.bx, .int .i64 g.by', .int .i64 g.r], .agg #[.int .i64 px, .int .i64 py], .agg #[.int .i64 qx, .int .i64 qy]] w fun e w' => e = .returned (.bool (decide (brP g px py qx qy))) ∧ Below w.heap.size w w' := by
  have A : brP g px py qx qy ↔ (0 ≤ sideP ⟨g.ax, g.ay⟩ ⟨g.bx, g.by'⟩ ⟨px, py⟩ ∧ sideP ⟨g.ax, g.ay⟩ ⟨g.bx, g.by'⟩ ⟨qx, qy⟩ < 0) ∧ meetsP ⟨g.ax, g.ay⟩ ⟨g.bx, g.by'⟩ ⟨px, py⟩ ⟨qx, qy⟩ = true := Iff.rfl
  have V1 := Lib.hid (fun (W : World) => plSide_any g.ax g.ay g.bx g.by' px py W)
  have V2 := Lib.hid (fun (W : World) => plSide_any g.ax g.ay g.bx g.by' qx qy W)
  have V3 := Lib.hid (fun (W : World) => plMeets_any g.ax g.ay g.bx g.by' px py qx qy W)
  have S0 := Lib.hid (show BkW w (((w.alloc (.cells #[.int .i64 g.ax, .int .i64 g.ay, .int .i64 g.bx, .int .i64 g.by', .int .i64 g.r] 54)).alloc (.cells #[.int .i64 px, .int .i64 py] 24)).alloc (.cells #[.int .i64 qx, .int .i64 qy] 24)) g px py qx qy from
    ⟨((BW.new w _ [.int .i64 g.ax, .int .i64 g.ay, .int .i64 g.bx, .int .i64 g.by', .int .i64 g.r] _ rfl).alloc _).alloc _, (BW.new _ _ [.int .i64 px, .int .i64 py] _ (by simp)).alloc _, BW.new _ _ [.int .i64 qx, .int .i64 qy] _ (by simp), by repeat (first | exact Below.refl _ _ | assumption | refine Below.setCell ?_ (by first | omega | (simp; done) | (simp; omega)) _ | refine Below.alloc ?_ (by first | omega | (simp; done) | (simp; omega)) _ | refine below_drewN ?_ _ | refine Below.drew ?_ | refine Below.trans ?_ (Below.mono (by assumption) (by first | omega | (simp; done) | (simp; omega))))⟩)
  generalize sideP ⟨g.ax, g.ay⟩ ⟨g.bx, g.by'⟩ ⟨px, py⟩ = s1 at *
  generalize sideP ⟨g.ax, g.ay⟩ ⟨g.bx, g.by'⟩ ⟨qx, qy⟩ = s2 at *
  generalize meetsP ⟨g.ax, g.ay⟩ ⟨g.bx, g.by'⟩ ⟨px, py⟩ ⟨qx, qy⟩ = m at *
  by_cases c1 : 0 ≤ s1
  rotate_left
  · rw [decide_eq_false (fun h => c1 (A.1 h).1.1)]
    have d1 : decide (0 ≤ s1) = false := decide_eq_false c1
    clear A V2 V3
    go_enter Try.func34, Try.ntmps34
    have a0 := S0.out.g.c 0 _ rfl
    have a1 := S0.out.g.c 1 _ rfl
    have a2 := S0.out.g.c 2 _ rfl
    have a3 := S0.out.g.c 3 _ rfl
    have p0 := S0.out.p.c 0 _ rfl
    have p1 := S0.out.p.c 1 _ rfl
    have q0 := S0.out.q.c 0 _ rfl
    have q1 := S0.out.q.c 1 _ rfl
    go_wp2_with fail
    refine (V1.out _).mono ?_
    rintro e w1 ⟨rfl, h⟩
    have S1 := Lib.hid (S0.out.step h)
    clear h S0 V1 a0 a1 a2 a3 p0 p1 q0 q1
    go_wp2
    go_ret
    exact ⟨rfl, S1.out.l⟩
  have d1 : decide (0 ≤ s1) = true := decide_eq_true c1
  by_cases c2 : s2 < 0
  rotate_left
  · rw [decide_eq_false (fun h => c2 (A.1 h).1.2)]
    have d2 : decide (s2 < 0) = false := decide_eq_false c2
    clear A V3
    go_enter Try.func34, Try.ntmps34
    have a0 := S0.out.g.c 0 _ rfl
    have a1 := S0.out.g.c 1 _ rfl
    have a2 := S0.out.g.c 2 _ rfl
    have a3 := S0.out.g.c 3 _ rfl
    have p0 := S0.out.p.c 0 _ rfl
    have p1 := S0.out.p.c 1 _ rfl
    have q0 := S0.out.q.c 0 _ rfl
    have q1 := S0.out.q.c 1 _ rfl
    go_wp2_with fail
    refine (V1.out _).mono ?_
    rintro e w1 ⟨rfl, h⟩
    have S1 := Lib.hid (S0.out.step h)
    clear h S0 V1 a0 a1 a2 a3 p0 p1 q0 q1
    have a0 := S1.out.g.c 0 _ rfl
    have a1 := S1.out.g.c 1 _ rfl
    have a2 := S1.out.g.c 2 _ rfl
    have a3 := S1.out.g.c 3 _ rfl
    have p0 := S1.out.p.c 0 _ rfl
    have p1 := S1.out.p.c 1 _ rfl
    have q0 := S1.out.q.c 0 _ rfl
    have q1 := S1.out.q.c 1 _ rfl
    go_wp2_with fail
    refine (V2.out _).mono ?_
    rintro e w2 ⟨rfl, h⟩
    have S2 := Lib.hid (S1.out.step h)
    clear h S1 V2 a0 a1 a2 a3 p0 p1 q0 q1
    go_wp2
    go_ret
    exact ⟨rfl, S2.out.l⟩
  have d2 : decide (s2 < 0) = true := decide_eq_true c2
  have E : decide (brP g px py qx qy) = m := by
    cases m
    · exact decide_eq_false (fun h => by cases (A.1 h).2)
    · exact decide_eq_true (A.2 ⟨⟨c1, c2⟩, rfl⟩)
  rw [E]
  clear A E
  go_enter Try.func34, Try.ntmps34
  have a0 := S0.out.g.c 0 _ rfl
  have a1 := S0.out.g.c 1 _ rfl
  have a2 := S0.out.g.c 2 _ rfl
  have a3 := S0.out.g.c 3 _ rfl
  have p0 := S0.out.p.c 0 _ rfl
  have p1 := S0.out.p.c 1 _ rfl
  have q0 := S0.out.q.c 0 _ rfl
  have q1 := S0.out.q.c 1 _ rfl
  go_wp2_with fail
  refine (V1.out _).mono ?_
  rintro e w1 ⟨rfl, h⟩
  have S1 := Lib.hid (S0.out.step h)
  clear h S0 V1 a0 a1 a2 a3 p0 p1 q0 q1
  have a0 := S1.out.g.c 0 _ rfl
  have a1 := S1.out.g.c 1 _ rfl
  have a2 := S1.out.g.c 2 _ rfl
  have a3 := S1.out.g.c 3 _ rfl
  have p0 := S1.out.p.c 0 _ rfl
  have p1 := S1.out.p.c 1 _ rfl
  have q0 := S1.out.q.c 0 _ rfl
  have q1 := S1.out.q.c 1 _ rfl
  go_wp2_with fail
  refine (V2.out _).mono ?_
  rintro e w2 ⟨rfl, h⟩
  have S2 := Lib.hid (S1.out.step h)
  clear h S1 V2 a0 a1 a2 a3 p0 p1 q0 q1
  have a0 := S2.out.g.c 0 _ rfl
  have a1 := S2.out.g.c 1 _ rfl
  have a2 := S2.out.g.c 2 _ rfl
  have a3 := S2.out.g.c 3 _ rfl
  have p0 := S2.out.p.c 0 _ rfl
  have p1 := S2.out.p.c 1 _ rfl
  have q0 := S2.out.q.c 0 _ rfl
  have q1 := S2.out.q.c 1 _ rfl
  go_wp2_with fail
  refine (V3.out _).mono ?_
  rintro e w3 ⟨rfl, h⟩
  have S3 := Lib.hid (S2.out.step h)
  clear h S2 V3 a0 a1 a2 a3 p0 p1 q0 q1
  cases m
  · skip
    go_wp2
    go_ret
    exact ⟨rfl, S3.out.l⟩
  · skip
    go_wp2
    go_ret
    exact ⟨rfl, S3.out.l⟩
theorem FnP.below {lo top : Nat} {w W : World} {f n : Nat} {g : Nat → Fv} (F : FnP lo top w f n g) (h : Below w.heap.size w W) : FnP lo top W f n g :=
  F.keep h.size (fun k _ hk => h.block k (by have := F.top; omega))
/-- a place near -/
theorem ar_ov (g : Fv) (x y far : Int) : decide (ovP ⟨x - far, y - far, x + far, y + far⟩ (boxG g)) = decide (arP g x y far) := by
  rw [decide_eq_decide]
  unfold ovP arP inF boxG
  dsimp only
  omega
set_option maxRecDepth 100000 in
set_option maxHeartbeats 2000000 in
theorem fAround_any (n : Nat) (g : Nat → Fv) (x y far : Int) (lo top f : Nat) (w : World) (hn : n ≤ 2000) (F : FnP lo top w f n g) :
    Calls Try.prog 13 #[.pointer (some ⟨f, 0, none⟩), .agg #[.int .i64 x, .int .i64 y], .int .i64 far] w fun e w' => (∃ v, e = .returned v ∧ IntsL w' v (arnI g n x y far)) ∧ Below w.heap.size w w' := by
  have VW := Lib.hid (fun W => fWithin_any x y W)
  have VR := Lib.hid (fun W => fReaches_any far W)
  obtain ⟨R, hR⟩ : ∃ R, arnI g n x y far = R := ⟨_, rfl⟩
  rw [hR]
  have nil : ∀ W : World, IntsL W (.slice none 0 0) [] := fun W => (OB.nil 0 W).intsL (L := [])
  by_cases c1 : Pt.near ⟨x, y⟩
  rotate_left
  · rw [decide_eq_false c1] at VW
    have E := Lib.hid (show [] = R by rw [← hR]; unfold arnI; rw [if_neg (fun h => c1 h.2)])
    clear hR VR
    go_enter Try.func13, Try.ntmps13
    go_wp2_with fail
    refine (VW.out _).mono ?_
    rintro e w1 ⟨rfl, rfl⟩
    go_wp2
    go_ret
    exact ⟨⟨_, rfl, by rw [← E.out]; exact nil _⟩, by repeat (first | exact Below.refl _ _ | assumption | refine Below.setCell ?_ (by first | omega | (simp; done) | (simp; omega)) _ | refine Below.alloc ?_ (by first | omega | (simp; done) | (simp; omega)) _ | refine below_drewN ?_ _ | refine Below.drew ?_ | refine Below.trans ?_ (Below.mono (by assumption) (by first | omega | (simp; done) | (simp; omega))))⟩
  rw [decide_eq_true c1] at VW
  by_cases c2 : 0 ≤ far ∧ far ≤ 274877906944
  rotate_left
  · rw [decide_eq_false c2] at VR
    have E := Lib.hid (show [] = R by rw [← hR]; unfold arnI; rw [if_neg (fun h => c2 h.1)])
    clear hR c2
    go_enter Try.func13, Try.ntmps13
    go_wp2_with fail
    refine (VW.out _).mono ?_
    rintro e w1 ⟨rfl, rfl⟩
    go_wp2_with fail
    refine (VR.out _).mono ?_
    rintro e w1 ⟨rfl, rfl⟩
    go_wp2
    go_ret
    exact ⟨⟨_, rfl, by rw [← E.out]; exact nil _⟩, by repeat (first | exact Below.refl _ _ | assumption | refine Below.setCell ?_ (by first | omega | (simp; done) | (simp; omega)) _ | refine Below.alloc ?_ (by first | omega | (simp; done) | (simp; omega)) _ | refine below_drewN ?_ _ | refine Below.drew ?_ | refine Below.trans ?_ (Below.mono (by assumption) (by first | omega | (simp; done) | (simp; omega))))⟩
  rw [decide_eq_true c2] at VR
  have E := Lib.hid (show selI (fun i => decide (ovP ⟨x - far, y - far, x + far, y + far⟩ (boxG (g i)))) n = R by
    rw [← hR]
    unfold arnI
    rw [if_pos ⟨c2, c1⟩]
    exact selI_congr (fun i _ => ar_ov (g i) x y far))
  have r1 : Rg x := c1.1
  have r2 : Rg y := c1.2
  have VA := Lib.hid (fun W => fAbout_any x y far W ⟨⟨r1, r2⟩, c2⟩)
  unfold Rg at r1 r2
  have VM := Lib.hid (fun (W : World) (h : Below w.heap.size w W) => fMeeting_any ⟨x - far, y - far, x + far, y + far⟩ n g lo top f W hn (F.below h) (by dsimp only; omega))
  rw [E.out] at VM
  dsimp only at VM
  clear hR c1 c2 E r1 r2
  go_enter Try.func13, Try.ntmps13
  go_wp2_with fail
  refine (VW.out _).mono ?_
  rintro e w1 ⟨rfl, rfl⟩
  go_wp2_with fail
  refine (VR.out _).mono ?_
  rintro e w1 ⟨rfl, rfl⟩
  go_wp2_with fail
  refine (VA.out _).mono ?_
  rintro e w2 ⟨rfl, h⟩
  have B2 := Lib.hid (show Below w.heap.size w w2 from (show Below w.heap.size w _ from by repeat (first | exact Below.refl _ _ | assumption | refine Below.setCell ?_ (by first | omega | (simp; done) | (simp; omega)) _ | refine Below.alloc ?_ (by first | omega | (simp; done) | (simp; omega)) _ | refine below_drewN ?_ _ | refine Below.drew ?_ | refine Below.trans ?_ (Below.mono (by assumption) (by first | omega | (simp; done) | (simp; omega))))).trans (h.mono (by simp; omega)))
  clear h
  go_wp2_with fail
  refine (VM.out _ B2.out).mono ?_
  rintro e w3 ⟨⟨v, rfl, o⟩, h⟩
  have B3 := Lib.hid (B2.out.trans (h.mono B2.out.size))
  have O3 := Lib.hid o
  clear o h
  go_wp2
  go_ret
  exact ⟨⟨_, rfl, O3.out.intsL⟩, B3.out⟩
end Go.Proofs.Ytllkhgcokbpggaa
namespace Go.Proofs.Ytllkhgcokbpggaa
open Go.RowKit
set_option linter.unusedVariables false
set_option linter.unusedSimpArgs false

/-- the box of a move -/
def wayB (px py qx qy : Int) : Bx := ⟨min px qx, min py qy, max px qx, max py qy⟩
theorem brk_sel (g : Nat → Fv) (n : Nat) (px py qx qy : Int) : (selI (fun i => decide (ovP (wayB px py qx qy) (boxG (g i)))) n).filter (fun i => decide (brP (g i.toNat) px py qx qy)) = selI (fun i => decide (brP (g i) px py qx qy)) n := by
  rw [selI_filter]
  refine selI_congr fun i _ => ?_
  rw [Int.toNat_natCast]
  by_cases h : brP (g i) px py qx qy
  · rw [decide_eq_true h, decide_eq_true (show ovP (wayB px py qx qy) (boxG (g i)) from meet_box h.2)]; rfl
  · rw [decide_eq_false h, Bool.and_false]
/-- what Breaks has of its own -/
structure BrW (w W : World) (px py qx qy : Int) : Prop where
  p : BW W w.heap.size [.int .i64 px, .int .i64 py]
  q : BW W (w.heap.size + 1) [.int .i64 qx, .int .i64 qy]
  l : Below w.heap.size w W
theorem BrW.step {w W W' : World} {px py qx qy : Int} (S : BrW w W px py qx qy) (h : Below W.heap.size W W') : BrW w W' px py qx qy := ⟨S.p.below h S.p.lt, S.q.below h S.q.lt, S.l.trans (h.mono S.l.size)⟩
theorem BrW.grown {w W W' : World} {px py qx qy : Int} {row : Option Nat} (S : BrW w W px py qx qy) (h : W.grownBy W' row) (hr : ∀ q, row = some q → w.heap.size + 2 ≤ q) : BrW w W' px py qx qy :=
  ⟨S.p.grow h (fun e => by have := hr _ e.symm; omega), S.q.grow h (fun e => by have := hr _ e.symm; omega), S.l.grown h S.l.size (fun q e => by have := hr q e; omega)⟩
theorem ob_in {base : Nat} {W : World} {a : Option Addr} {n c : Nat} {L : List Int} (h : OB base W (.slice a n c) (inVs L)) (hn : n = L.length) {j : Nat} (hj : j < n) : ∃ q, a = some ⟨q, 0, none⟩ ∧ q < W.heap.size ∧ W.cell? ⟨q, j, none⟩ = some (.int .i64 (L.getD j 0)) := by
  rcases h with ⟨e, h0⟩ | ⟨q, cap, e, _, hq, _, _, _, _, hx⟩
  · have : L.length = 0 := by rw [← inVs_len, h0]; rfl
    omega
  · injection e with e1
    exact ⟨q, e1, hq, hx j _ (inVs_at (by omega))⟩
set_option maxRecDepth 100000 in
set_option maxHeartbeats 4000000 in
theorem fBreaks_any (n : Nat) (g : Nat → Fv) (px py qx qy : Int) (lo top f : Nat) (w : World) (hn : n ≤ 2000) (F : FnP lo top w f n g) :
    Calls Try.prog 16 #[.pointer (some ⟨f, 0, none⟩), .agg #[.int .i64 px, .int .i64 py], .agg #[.int .i64 qx, .int .i64 qy]] w fun e w' => (∃ v, e = .returned v ∧ IntsL w' v (brkI g n px py qx qy)) ∧ Below w.heap.size w w' := by
  have VP := Lib.hid (fun W => fWithin_any px py W)
  have VQ := Lib.hid (fun W => fWithin_any qx qy W)
  obtain ⟨R, hR⟩ : ∃ R, brkI g n px py qx qy = R := ⟨_, rfl⟩
  rw [hR]
  have nil : ∀ W : World, IntsL W (.slice none 0 0) [] := fun W => (OB.nil 0 W).intsL (L := [])
  by_cases c1 : Pt.near ⟨px, py⟩
  rotate_left
  · rw [decide_eq_false c1] at VP
    have E := Lib.hid (show [] = R by rw [← hR]; unfold brkI; rw [if_neg (fun h => c1 h.1.1)])
    clear hR VQ
    go_enter Try.func16, Try.ntmps16
    go_wp2_with fail
    refine (VP.out _).mono ?_
    rintro e w1 ⟨rfl, rfl⟩
    go_wp2
    go_ret
    exact ⟨⟨_, rfl, by rw [← E.out]; exact nil _⟩, by repeat (first | exact Below.refl _ _ | assumption | refine Below.setCell ?_ (by first | omega | (simp; done) | (simp; omega)) _ | refine Below.alloc ?_ (by first | omega | (simp; done) | (simp; omega)) _ | refine below_drewN ?_ _ | refine Below.drew ?_ | refine Below.trans ?_ (Below.mono (by assumption) (by first | omega | (simp; done) | (simp; omega))))⟩
  rw [decide_eq_true c1] at VP
  by_cases c2 : Pt.near ⟨qx, qy⟩
  rotate_left
  · rw [decide_eq_false c2] at VQ
    have E := Lib.hid (show [] = R by rw [← hR]; unfold brkI; rw [if_neg (fun h => c2 h.1.2)])
    clear hR
    go_enter Try.func16, Try.ntmps16
    go_wp2_with fail
    refine (VP.out _).mono ?_
    rintro e w1 ⟨rfl, rfl⟩
    go_wp2_with fail
    refine (VQ.out _).mono ?_
    rintro e w1 ⟨rfl, rfl⟩
    go_wp2
    go_ret
    exact ⟨⟨_, rfl, by rw [← E.out]; exact nil _⟩, by repeat (first | exact Below.refl _ _ | assumption | refine Below.setCell ?_ (by first | omega | (simp; done) | (simp; omega)) _ | refine Below.alloc ?_ (by first | omega | (simp; done) | (simp; omega)) _ | refine below_drewN ?_ _ | refine Below.drew ?_ | refine Below.trans ?_ (Below.mono (by assumption) (by first | omega | (simp; done) | (simp; omega))))⟩
  rw [decide_eq_true c2] at VQ
  have r1 : Rg px := c1.1
  have r2 : Rg py := c1.2
  have r3 : Rg qx := c2.1
  have r4 : Rg qy := c2.2
  unfold Rg at r1 r2 r3 r4
  have VB := Lib.hid (fun W => fBetween_any px py qx qy W)
  have VX := Lib.hid (fun W => fReaches_any (max px qx - min px qx) W)
  have VY := Lib.hid (fun W => fReaches_any (max py qy - min py qy) W)
  have u1 := Lib.hid (wrap_in' (n := max px qx - min px qx) (by unfold In64; omega))
  have u2 := Lib.hid (wrap_in' (n := max py qy - min py qy) (by unfold In64; omega))
  have VM := Lib.hid (fun (W : World) (h : Below w.heap.size w W) => fMeeting_any (wayB px py qx qy) n g lo top f W hn (F.below h) (by unfold wayB; dsimp only; omega))
  have BR := Lib.hid (fun (c3 : 0 ≤ max px qx - min px qx ∧ max px qx - min px qx ≤ 274877906944) (c4 : 0 ≤ max py qy - min py qy ∧ max py qy - min py qy ≤ 274877906944) => show selI (fun i => decide (brP (g i) px py qx qy)) n = R from by
    rw [← hR]
    unfold brkI
    rw [if_pos ⟨⟨c1, c2⟩, by unfold inF; omega, by unfold inF; omega⟩])
  have BX := Lib.hid (fun (c3 : ¬ (0 ≤ max px qx - min px qx ∧ max px qx - min px qx ≤ 274877906944)) => show [] = R from by
    rw [← hR]
    unfold brkI
    rw [if_neg (fun h => c3 (by have := h.2.1; unfold inF at this; omega))])
  have BY := Lib.hid (fun (c3 : ¬ (0 ≤ max py qy - min py qy ∧ max py qy - min py qy ≤ 274877906944)) => show [] = R from by
    rw [← hR]
    unfold brkI
    rw [if_neg (fun h => c3 (by have := h.2.2; unfold inF at this; omega))])
  have WE : (wayB px py qx qy).lx = min px qx ∧ (wayB px py qx qy).ly = min py qy ∧ (wayB px py qx qy).hx = max px qx ∧ (wayB px py qx qy).hy = max py qy := ⟨rfl, rfl, rfl, rfl⟩
  rw [WE.1, WE.2.1, WE.2.2.1, WE.2.2.2] at VM
  have BS := Lib.hid (brk_sel g n px py qx qy)
  clear hR WE c1 c2 r1 r2 r3 r4
  generalize max px qx = x1 at *
  generalize min px qx = x0 at *
  generalize max py qy = y1 at *
  generalize min py qy = y0 at *
  have S0 := Lib.hid (show BrW w (((w.alloc (.cells #[.int .i64 px, .int .i64 py] 24)).alloc (.cells #[.int .i64 qx, .int .i64 qy] 24))) px py qx qy from
    ⟨(BW.new w _ [.int .i64 px, .int .i64 py] _ rfl).alloc _, BW.new _ _ [.int .i64 qx, .int .i64 qy] _ (by simp), by repeat (first | exact Below.refl _ _ | assumption | refine Below.setCell ?_ (by first | omega | (simp; done) | (simp; omega)) _ | refine Below.alloc ?_ (by first | omega | (simp; done) | (simp; omega)) _ | refine below_drewN ?_ _ | refine Below.drew ?_ | refine Below.trans ?_ (Below.mono (by assumption) (by first | omega | (simp; done) | (simp; omega))))⟩)
  go_enter Try.func16, Try.ntmps16
  go_wp2_with fail
  refine (VP.out _).mono ?_
  rintro e w1 ⟨rfl, rfl⟩
  go_wp2_with fail
  refine (VQ.out _).mono ?_
  rintro e w1 ⟨rfl, rfl⟩
  go_wp2_with fail
  refine (VB.out _).mono ?_
  rintro e w2 ⟨rfl, h⟩
  have S2 := Lib.hid (((S0.out.step ((Below.refl _ _).alloc (Nat.le_refl _) (.cells #[.int .i64 px, .int .i64 py] 24))).step ((Below.refl _ _).alloc (Nat.le_refl _) (.cells #[.int .i64 qx, .int .i64 qy] 24))).step h)
  clear h S0 VB VP VQ
  obtain ⟨v1, v2⟩ := u1.out
  obtain ⟨v3, v4⟩ := u2.out
  clear u1 u2
  have S3 := Lib.hid (S2.out.step ((Below.refl _ _).alloc (Nat.le_refl _) (.cells #[.int .i64 x0, .int .i64 y0, .int .i64 x1, .int .i64 y1] 67)))
  by_cases c3 : 0 ≤ x1 - x0 ∧ x1 - x0 ≤ 274877906944
  rotate_left
  · rw [decide_eq_false c3] at VX
    have E := Lib.hid (BX.out c3)
    clear c3 BR BX BY VY VM
    go_wp2_with fail
    refine (VX.out _).mono ?_
    rintro e w3 ⟨rfl, rfl⟩
    go_wp2
    go_ret
    exact ⟨⟨_, rfl, by rw [← E.out]; exact nil _⟩, S3.out.l⟩
  rw [decide_eq_true c3] at VX
  by_cases c4 : 0 ≤ y1 - y0 ∧ y1 - y0 ≤ 274877906944
  rotate_left
  · rw [decide_eq_false c4] at VY
    have E := Lib.hid (BY.out c4)
    clear c3 c4 BR BX BY VM
    go_wp2_with fail
    refine (VX.out _).mono ?_
    rintro e w3 ⟨rfl, rfl⟩
    go_wp2_with fail
    refine (VY.out _).mono ?_
    rintro e w3 ⟨rfl, rfl⟩
    go_wp2
    go_ret
    exact ⟨⟨_, rfl, by rw [← E.out]; exact nil _⟩, S3.out.l⟩
  rw [decide_eq_true c4] at VY
  have E := Lib.hid (BR.out c3 c4)
  clear c3 c4 BR BX BY
  go_wp2_with fail
  refine (VX.out _).mono ?_
  rintro e w3 ⟨rfl, rfl⟩
  go_wp2_with fail
  refine (VY.out _).mono ?_
  rintro e w3 ⟨rfl, rfl⟩
  clear VX VY v1 v2 v3 v4
  go_wp2_with fail
  refine (VM.out _ S3.out.l).mono ?_
  rintro e w4 ⟨⟨u, rfl, o⟩, h⟩
  have S4 := Lib.hid (S3.out.step h)
  have O4 := Lib.hid (o.mono (by have := S3.out.q.lt; omega : w.heap.size + 2 ≤ _))
  have hsl : (selI (fun i => decide (ovP (wayB px py qx qy) (boxG (g i)))) n).length ≤ n := selI_len _ _
  have HI := Lib.hid (fun (j : Nat) (hj : j < (selI (fun i => decide (ovP (wayB px py qx qy) (boxG (g i)))) n).length) => show ∃ k : Nat, (selI (fun i => decide (ovP (wayB px py qx qy) (boxG (g i)))) n).getD j 0 = k ∧ k < n from by
    have m : (selI (fun i => decide (ovP (wayB px py qx qy) (boxG (g i)))) n).getD j 0 ∈ selI (fun i => decide (ovP (wayB px py qx qy) (boxG (g i)))) n := by rw [List.getD_eq_getElem?_getD, List.getElem?_eq_getElem hj]; exact List.getElem_mem hj
    obtain ⟨k, e, l, _⟩ := selI_mem m
    exact ⟨k, e, l⟩)
  have ER := Lib.hid (BS.out.trans E.out)
  clear o h S2 S3 VM E BS
  generalize selI (fun i => decide (ovP (wayB px py qx qy) (boxG (g i)))) n = M at *
  obtain ⟨ua, uc, hu⟩ := O4.out.form
  rw [inVs_len] at hu
  subst hu
  obtain ⟨base, mb, fa, fc, lv, L, Ls, ck, F1, -, D, -⟩ := F.ex
  have FF := Lib.hid (fun (W : World) (h : Below w.heap.size w W) => (F1.below h).c)
  have DD := Lib.hid (fun (W : World) (h : Below w.heap.size w W) => D.step h)
  clear F F1 D
  go_wp2
  go_loopw [8, 46] (fun v i wr => ∃ j : Nat, j ≤ M.length ∧ i = .int .i64 j ∧ OB w4.heap.size wr v (inVs ((M.take j).filter fun i => decide (brP (g i.toNat) px py qx qy))) ∧ Below w4.heap.size w4 wr) (fun _ i _ => M.length - (intOf i).toNat)
  case atStart => exact ⟨0, by omega, rfl, OB.nil _ _, Below.refl _ _⟩
  case round =>
    obtain ⟨j, hj, rfl, hO, hB⟩ := hrel
    have O5 := Lib.hid hO
    have B5 := Lib.hid hB
    clear hO hB
    by_cases hlt : j < M.length
    rotate_left
    · have z1 : ¬ (j : Int) < (M.length : Int) := by omega
      have e : j = M.length := by omega
      subst e
      rw [List.take_length, ER.out] at O5
      go_wp2
      go_ret
      exact ⟨⟨_, rfl, O5.out.intsL⟩, S4.out.l.trans (B5.out.mono S4.out.l.size)⟩
    obtain ⟨i0, hi0, li0⟩ := HI.out j hlt
    obtain ⟨q, rfl, hq, hc⟩ := ob_in O4.out rfl hlt
    have e0 := (B5.out.cell (p := ⟨q, j, none⟩) hq).trans hc
    rw [hi0] at e0
    have z0 : (0 : Int) ≤ (j : Int) := by omega
    have z1 : (j : Int) < (M.length : Int) := by omega
    have y0 : (0 : Int) ≤ (i0 : Int) := by omega
    have y1 : (i0 : Int) < (n : Int) := by omega
    obtain ⟨bb, bo, rfl, -, -⟩ := (DD.out _ S4.out.l).at' (by omega)
    have CS := Lib.hid (fun (W' : World) (Q : Below w4.heap.size w4 W') => show (W'.cell? ⟨f, 0, none⟩ = some (.slice (some ⟨bb, bo, none⟩) n fc) ∧ ((W'.cell? ⟨bb, bo + i0 * 5, none⟩ = some (.int .i64 (g i0).ax) ∧ W'.cell? ⟨bb, bo + i0 * 5 + 1, none⟩ = some (.int .i64 (g i0).ay)) ∧ (W'.cell? ⟨bb, bo + i0 * 5 + 2, none⟩ = some (.int .i64 (g i0).bx) ∧ W'.cell? ⟨bb, bo + i0 * 5 + 3, none⟩ = some (.int .i64 (g i0).by')) ∧ W'.cell? ⟨bb, bo + i0 * 5 + 4, none⟩ = some (.int .i64 (g i0).r))) ∧ (W'.cell? ⟨w.heap.size, 0, none⟩ = some (.int .i64 px) ∧ W'.cell? ⟨w.heap.size, 1, none⟩ = some (.int .i64 py)) ∧ W'.cell? ⟨w.heap.size + 1, 0, none⟩ = some (.int .i64 qx) ∧ W'.cell? ⟨w.heap.size + 1, 1, none⟩ = some (.int .i64 qy) from by
      have SW := S4.out.step Q
      obtain ⟨b3, o3, e3, -, hc⟩ := (DD.out _ SW.l).at' (by omega)
      cases e3
      exact ⟨⟨(FF.out _ SW.l).c 0 _ rfl, hc i0 li0⟩, ⟨SW.p.c 0 _ rfl, SW.p.c 1 _ rfl⟩, SW.q.c 0 _ rfl, SW.q.c 1 _ rfl⟩)
    have VK := Lib.hid (fun (W' : World) => fBrk_any (g i0) px py qx qy W')
    obtain ⟨o, hov⟩ : ∃ o, decide (brP (g i0) px py qx qy) = o := ⟨_, rfl⟩
    have FS := Lib.hid (flt_val (Q := fun i => decide (brP (g i.toNat) px py qx qy)) hlt hi0 (show decide (brP (g ((i0 : Int)).toNat) px py qx qy) = o from hov))
    rw [hov] at VK
    clear hov hc
    go_wp2_with fail
    refine wp_region_held_drew (S := fun W' => (W'.cell? ⟨f, 0, none⟩ = some (.slice (some ⟨bb, bo, none⟩) n fc) ∧ ((W'.cell? ⟨bb, bo + i0 * 5, none⟩ = some (.int .i64 (g i0).ax) ∧ W'.cell? ⟨bb, bo + i0 * 5 + 1, none⟩ = some (.int .i64 (g i0).ay)) ∧ (W'.cell? ⟨bb, bo + i0 * 5 + 2, none⟩ = some (.int .i64 (g i0).bx) ∧ W'.cell? ⟨bb, bo + i0 * 5 + 3, none⟩ = some (.int .i64 (g i0).by')) ∧ W'.cell? ⟨bb, bo + i0 * 5 + 4, none⟩ = some (.int .i64 (g i0).r))) ∧ (W'.cell? ⟨w.heap.size, 0, none⟩ = some (.int .i64 px) ∧ W'.cell? ⟨w.heap.size, 1, none⟩ = some (.int .i64 py)) ∧ W'.cell? ⟨w.heap.size + 1, 0, none⟩ = some (.int .i64 qx) ∧ W'.cell? ⟨w.heap.size + 1, 1, none⟩ = some (.int .i64 qy)) (by kernel_rfl) (CS.out _ B5.out.drew) (fun hHeld => ?_)
    have O6 := Lib.hid (O5.out.below (Below.refl _ _).drew)
    have B6 := Lib.hid B5.out.drew
    clear O5 B5 e0
    generalize World.drew _ = w6 at *
    refine tkD 0 50 (v := ?_) ?_ hHeld ?_
    rotate_left 1
    (intro W hSw; (try dsimp only at hSw); go_simp; try with_reducible rfl)
    (try simp only [putA, putB, putC, putD])
    refine tkD 1 51 (v := ?_) ?_ hHeld ?_
    rotate_left 1
    (intro W hSw; (try dsimp only at hSw); go_simp; try with_reducible rfl)
    (try simp only [putA, putB, putC, putD])
    refine tkD 2 52 (v := ?_) ?_ hHeld ?_
    rotate_left 1
    (intro W hSw; (try dsimp only at hSw); go_simp; try with_reducible rfl)
    (try simp only [putA, putB, putC, putD])
    refine tkD 3 53 (v := ?_) ?_ hHeld ?_
    rotate_left 1
    (intro W hSw; (try dsimp only at hSw); go_simp; try with_reducible rfl)
    (try simp only [putA, putB, putC, putD])
    refine tkD 4 54 (v := ?_) ?_ hHeld ?_
    rotate_left 1
    (intro W hSw; (try dsimp only at hSw); go_simp; try with_reducible rfl)
    (try simp only [putA, putB, putC, putD])
    refine tkD 5 55 (v := ?_) ?_ hHeld ?_
    rotate_left 1
    (intro W hSw; (try dsimp only at hSw); go_simp; try with_reducible rfl)
    (try simp only [putA, putB, putC, putD])
    refine tkD 6 56 (v := ?_) ?_ hHeld ?_
    rotate_left 1
    (intro W hSw; (try dsimp only at hSw); go_simp; try with_reducible rfl)
    (try simp only [putA, putB, putC, putD])
    refine tkD 7 57 (v := ?_) ?_ hHeld ?_
    rotate_left 1
    (intro W hSw; (try dsimp only at hSw); go_simp; try with_reducible rfl)
    (try simp only [putA, putB, putC, putD])
    refine tkD 8 58 (v := ?_) ?_ hHeld ?_
    rotate_left 1
    (intro W hSw; (try dsimp only at hSw); go_simp; try with_reducible rfl)
    (try simp only [putA, putB, putC, putD])
    refine onlD 9 (fun K hK => ?_)
    go_simp
    refine (VK.out _).mono ?_
    rintro e w7 ⟨rfl, h⟩
    have O7 := Lib.hid (O6.out.below h)
    have B7 := Lib.hid (B6.out.trans (h.mono B6.out.size))
    go_wp2_with fail
    refine hK.out _ _ (CS.out _ B7.out) ?_
    clear hK K hHeld
    intro hHeld
    clear h O6 B6 VK CS
    refine wpAnyH_done (by kernel_rfl) ?_ _
    clear hHeld
    cases o
    · have O8 := Lib.hid (show OB w4.heap.size w7 _ (inVs ((M.take (j + 1)).filter fun i => decide (brP (g i.toNat) px py qx qy))) from by rw [FS.out]; simpa using O7.out)
      clear O7 FS
      go_wp2
      go_roundw
      case rel => exact ⟨j + 1, by omega, by go_num, O8.out, B7.out⟩
      case measure => simp [intOf]; omega
    · have b8 := (Below.refl w7.heap.size w7).alloc (Nat.le_refl _) (.cells #[.int .i64 i0] 3)
      have O8 := Lib.hid (O7.out.below b8)
      have B8 := Lib.hid (B7.out.trans (b8.mono B7.out.size))
      have pl : ((M.take j).filter fun i => decide (brP (g i.toNat) px py qx qy)).length ≤ 1000000 := by
        have r := (List.take_sublist j M).filter (fun i => decide (brP (g i.toNat) px py qx qy)) |>.length_le
        have r2 := List.length_filter_le (fun i => decide (brP (g i.toNat) px py qx qy)) M
        omega
      have l8 : w4.heap.size ≤ (w7.alloc (.cells #[.int .i64 i0] 3)).heap.size := B8.out.size
      clear b8 O7 B7
      go_wp2_with (at_builtin; refine wpList_ob rfl (.tmp 60) (.tmp 62) 26 26 rfl 3 _ (.int .i64 0) Try.underlying26 rfl rfl rfl rfl (by decide) O8.out rfl _ 1 [.int .i64 i0] rfl (src_new Try.underlying26 w7 [.int .i64 i0] 3 1 rfl (by simp [Value.oneCell'])) (by rw [inVs_len]; omega) l8 ?_)
      intro v9 w9 o9 g9 p9
      have O9 := Lib.hid (show OB w4.heap.size w9 v9 (inVs ((M.take (j + 1)).filter fun i => decide (brP (g i.toNat) px py qx qy))) from by
        rw [FS.out]
        simp only [↓reduceIte]
        rw [inVs_add]
        exact o9)
      have B9 := Lib.hid (B8.out.trans (O8.out.up g9 l8))
      clear o9 g9 p9 O8 B8 l8 pl FS
      go_wp2
      go_roundw
      case rel => exact ⟨j + 1, by omega, by go_num, O9.out, B9.out⟩
      case measure => simp [intOf]; omega
theorem fBreaks_nil (px py qx qy : Int) (w : World) (h : (In64 px ∧ In64 py) ∧ In64 qx ∧ In64 qy) : Calls Try.prog 16 #[.pointer none, .agg #[.int .i64 px, .int .i64 py], .agg #[.int .i64 qx, .int .i64 qy]] w fun e w' => (∃ a c, e = .returned (.slice a 0 c)) ∧ Below w.heap.size w w' := by
  have VP := Lib.hid (fun W => fWithin_any px py W)
  have VQ := Lib.hid (fun W => fWithin_any qx qy W)
  by_cases c1 : Pt.near ⟨px, py⟩
  rotate_left
  · rw [decide_eq_false c1] at VP
    clear VQ
    go_enter Try.func16, Try.ntmps16
    go_wp2_with fail
    refine (VP.out _).mono ?_
    rintro e w1 ⟨rfl, rfl⟩
    go_wp2
    go_ret
    exact ⟨⟨_, _, rfl⟩, by repeat (first | exact Below.refl _ _ | assumption | refine Below.setCell ?_ (by first | omega | (simp; done) | (simp; omega)) _ | refine Below.alloc ?_ (by first | omega | (simp; done) | (simp; omega)) _ | refine below_drewN ?_ _ | refine Below.drew ?_ | refine Below.trans ?_ (Below.mono (by assumption) (by first | omega | (simp; done) | (simp; omega))))⟩
  rw [decide_eq_true c1] at VP
  by_cases c2 : Pt.near ⟨qx, qy⟩
  rotate_left
  · rw [decide_eq_false c2] at VQ
    go_enter Try.func16, Try.ntmps16
    go_wp2_with fail
    refine (VP.out _).mono ?_
    rintro e w1 ⟨rfl, rfl⟩
    go_wp2_with fail
    refine (VQ.out _).mono ?_
    rintro e w1 ⟨rfl, rfl⟩
    go_wp2
    go_ret
    exact ⟨⟨_, _, rfl⟩, by repeat (first | exact Below.refl _ _ | assumption | refine Below.setCell ?_ (by first | omega | (simp; done) | (simp; omega)) _ | refine Below.alloc ?_ (by first | omega | (simp; done) | (simp; omega)) _ | refine below_drewN ?_ _ | refine Below.drew ?_ | refine Below.trans ?_ (Below.mono (by assumption) (by first | omega | (simp; done) | (simp; omega))))⟩
  rw [decide_eq_true c2] at VQ
  have r1 : Rg px := c1.1
  have r2 : Rg py := c1.2
  have r3 : Rg qx := c2.1
  have r4 : Rg qy := c2.2
  unfold Rg at r1 r2 r3 r4
  have VB := Lib.hid (fun W => fBetween_any px py qx qy W)
  have VX := Lib.hid (fun W => fReaches_any (max px qx - min px qx) W)
  have VY := Lib.hid (fun W => fReaches_any (max py qy - min py qy) W)
  have u1 := Lib.hid (wrap_in' (n := max px qx - min px qx) (by unfold In64; omega))
  have u2 := Lib.hid (wrap_in' (n := max py qy - min py qy) (by unfold In64; omega))
  have VM := Lib.hid (fun (W : World) => fMeeting_nil (wayB px py qx qy) W)
  have WE : (wayB px py qx qy).lx = min px qx ∧ (wayB px py qx qy).ly = min py qy ∧ (wayB px py qx qy).hx = max px qx ∧ (wayB px py qx qy).hy = max py qy := ⟨rfl, rfl, rfl, rfl⟩
  rw [WE.1, WE.2.1, WE.2.2.1, WE.2.2.2] at VM
  clear WE c1 c2 r1 r2 r3 r4
  generalize max px qx = x1 at *
  generalize min px qx = x0 at *
  generalize max py qy = y1 at *
  generalize min py qy = y0 at *
  have S0 := Lib.hid (show BrW w (((w.alloc (.cells #[.int .i64 px, .int .i64 py] 24)).alloc (.cells #[.int .i64 qx, .int .i64 qy] 24))) px py qx qy from
    ⟨(BW.new w _ [.int .i64 px, .int .i64 py] _ rfl).alloc _, BW.new _ _ [.int .i64 qx, .int .i64 qy] _ (by simp), by repeat (first | exact Below.refl _ _ | assumption | refine Below.setCell ?_ (by first | omega | (simp; done) | (simp; omega)) _ | refine Below.alloc ?_ (by first | omega | (simp; done) | (simp; omega)) _ | refine below_drewN ?_ _ | refine Below.drew ?_ | refine Below.trans ?_ (Below.mono (by assumption) (by first | omega | (simp; done) | (simp; omega))))⟩)
  go_enter Try.func16, Try.ntmps16
  go_wp2_with fail
  refine (VP.out _).mono ?_
  rintro e w1 ⟨rfl, rfl⟩
  go_wp2_with fail
  refine (VQ.out _).mono ?_
  rintro e w1 ⟨rfl, rfl⟩
  go_wp2_with fail
  refine (VB.out _).mono ?_
  rintro e w2 ⟨rfl, h⟩
  have S2 := Lib.hid (((S0.out.step ((Below.refl _ _).alloc (Nat.le_refl _) (.cells #[.int .i64 px, .int .i64 py] 24))).step ((Below.refl _ _).alloc (Nat.le_refl _) (.cells #[.int .i64 qx, .int .i64 qy] 24))).step h)
  clear h S0 VB VP VQ
  obtain ⟨v1, v2⟩ := u1.out
  obtain ⟨v3, v4⟩ := u2.out
  clear u1 u2
  have S3 := Lib.hid (S2.out.step ((Below.refl _ _).alloc (Nat.le_refl _) (.cells #[.int .i64 x0, .int .i64 y0, .int .i64 x1, .int .i64 y1] 67)))
  by_cases c3 : 0 ≤ x1 - x0 ∧ x1 - x0 ≤ 274877906944
  rotate_left
  · rw [decide_eq_false c3] at VX
    clear c3 VY VM
    go_wp2_with fail
    refine (VX.out _).mono ?_
    rintro e w3 ⟨rfl, rfl⟩
    go_wp2
    go_ret
    exact ⟨⟨_, _, rfl⟩, S3.out.l⟩
  rw [decide_eq_true c3] at VX
  by_cases c4 : 0 ≤ y1 - y0 ∧ y1 - y0 ≤ 274877906944
  rotate_left
  · rw [decide_eq_false c4] at VY
    clear c3 c4 VM
    go_wp2_with fail
    refine (VX.out _).mono ?_
    rintro e w3 ⟨rfl, rfl⟩
    go_wp2_with fail
    refine (VY.out _).mono ?_
    rintro e w3 ⟨rfl, rfl⟩
    go_wp2
    go_ret
    exact ⟨⟨_, _, rfl⟩, S3.out.l⟩
  rw [decide_eq_true c4] at VY
  clear c3 c4
  go_wp2_with fail
  refine (VX.out _).mono ?_
  rintro e w3 ⟨rfl, rfl⟩
  go_wp2_with fail
  refine (VY.out _).mono ?_
  rintro e w3 ⟨rfl, rfl⟩
  clear VX VY v1 v2 v3 v4
  go_wp2_with fail
  refine (VM.out _).mono ?_
  rintro e w4 ⟨rfl, h⟩
  have S4 := Lib.hid (S3.out.step h)
  clear h S2 S3 VM
  go_wp2
  go_loopw [8, 46] (fun v i wr => (v = .slice none 0 0 ∧ i = .int .i64 0) ∧ wr = w4) (fun _ i _ => 0)
  case atStart => exact ⟨⟨rfl, rfl⟩, rfl⟩
  case round =>
    obtain ⟨⟨rfl, rfl⟩, rfl⟩ := hrel
    go_wp2
    go_ret
    exact ⟨⟨_, _, rfl⟩, S4.out.l⟩
end Go.Proofs.Ytllkhgcokbpggaa
namespace Go.Proofs.Ytllkhgcokbpggaa
open Go.RowKit
set_option linter.unusedVariables false
set_option linter.unusedSimpArgs false

theorem beh_fold (g : Nat → Fv) (n : Nat) (x y deep : Int) : (selI (fun i => decide (ovP ⟨x - deep, y - deep, x + deep, y + deep⟩ (boxG (g i)))) n).foldl (bhS g x y deep) (-1, 0) = behI g x y deep n :=
  behI_fold g x y deep _ n fun i _ h0 h1 => decide_eq_true (bey_box h0 h1)
theorem bey_far (g : Fv) (x y : Int) (h : ¬ Pt.near ⟨x, y⟩) : beyondN ⟨g.ax, g.ay⟩ ⟨g.bx, g.by'⟩ ⟨x, y⟩ = 0 := by
  unfold beyondN
  rw [if_neg (fun k => h k.1.2.2)]
theorem beh_far (g : Nat → Fv) (x y deep : Int) (h : ¬ Pt.near ⟨x, y⟩) : ∀ n, behI g x y deep n = (-1, 0)
  | 0 => rfl
  | n + 1 => by
    unfold behI
    rw [bey_far _ x y h, if_neg (fun k => by omega)]
    exact beh_far g x y deep h n
theorem bhS_at (g : Nat → Fv) (x y deep : Int) (s : Int × Int) (i : Nat) : bhS g x y deep s (i : Int) = if (0 < beyondN ⟨(g i).ax, (g i).ay⟩ ⟨(g i).bx, (g i).by'⟩ ⟨x, y⟩ ∧ beyondN ⟨(g i).ax, (g i).ay⟩ ⟨(g i).bx, (g i).by'⟩ ⟨x, y⟩ ≤ deep) ∧ (s.1 < 0 ∨ beyondN ⟨(g i).ax, (g i).ay⟩ ⟨(g i).bx, (g i).by'⟩ ⟨x, y⟩ < s.2) then ((i : Int), beyondN ⟨(g i).ax, (g i).ay⟩ ⟨(g i).bx, (g i).by'⟩ ⟨x, y⟩) else s := by
  unfold bhS
  rw [Int.toNat_natCast]
/-- a place's copy -/
structure BhW (w W : World) (x y : Int) : Prop where
  p : BW W w.heap.size [.int .i64 x, .int .i64 y]
  l : Below w.heap.size w W
theorem BhW.step {w W W' : World} {x y : Int} (S : BhW w W x y) (h : Below W.heap.size W W') : BhW w W' x y := ⟨S.p.below h S.p.lt, S.l.trans (h.mono S.l.size)⟩
set_option maxRecDepth 100000 in
set_option maxHeartbeats 4000000 in
theorem fBehind_any (n : Nat) (g : Nat → Fv) (x y deep : Int) (lo top f : Nat) (w : World) (hn : n ≤ 2000) (F : FnP lo top w f n g) :
    Calls Try.prog 18 #[.pointer (some ⟨f, 0, none⟩), .agg #[.int .i64 x, .int .i64 y], .int .i64 deep] w fun e w' => e = .returned (.tuple #[.int .i64 (behF g n x y deep).1, .int .i64 (behF g n x y deep).2]) ∧ Below w.heap.size w w' := by
  have VW := Lib.hid (fun W => fWithin_any x y W)
  have VR := Lib.hid (fun W => fReaches_any deep W)
  obtain ⟨R1, hR1⟩ : ∃ R1, (behF g n x y deep).1 = R1 := ⟨_, rfl⟩
  obtain ⟨R2, hR2⟩ : ∃ R2, (behF g n x y deep).2 = R2 := ⟨_, rfl⟩
  rw [hR1, hR2]
  by_cases c1 : Pt.near ⟨x, y⟩
  rotate_left
  · rw [decide_eq_false c1] at VW
    have e : behF g n x y deep = (-1, 0) := by
      unfold behF
      split
      · exact beh_far g x y deep c1 n
      · rfl
    rw [e] at hR1 hR2
    subst hR1 hR2
    clear VR F e
    go_enter Try.func18, Try.ntmps18
    go_wp2_with fail
    refine (VW.out _).mono ?_
    rintro e w1 ⟨rfl, rfl⟩
    go_wp2
    exact bodyPost_ret (v := .tuple #[.int .i64 (-1), .int .i64 0]) (by simp [results, Try.results18, go_sem]) rfl ⟨rfl, by repeat (first | exact Below.refl _ _ | assumption | refine Below.setCell ?_ (by first | omega | (simp; done) | (simp; omega)) _ | refine Below.alloc ?_ (by first | omega | (simp; done) | (simp; omega)) _ | refine below_drewN ?_ _ | refine Below.drew ?_ | refine Below.trans ?_ (Below.mono (by assumption) (by first | omega | (simp; done) | (simp; omega))))⟩
  rw [decide_eq_true c1] at VW
  by_cases c2 : 0 ≤ deep ∧ deep ≤ 274877906944
  rotate_left
  · rw [decide_eq_false c2] at VR
    have e : behF g n x y deep = (-1, 0) := if_neg c2
    rw [e] at hR1 hR2
    subst hR1 hR2
    clear F e c2
    go_enter Try.func18, Try.ntmps18
    go_wp2_with fail
    refine (VW.out _).mono ?_
    rintro e w1 ⟨rfl, rfl⟩
    go_wp2_with fail
    refine (VR.out _).mono ?_
    rintro e w1 ⟨rfl, rfl⟩
    go_wp2
    exact bodyPost_ret (v := .tuple #[.int .i64 (-1), .int .i64 0]) (by simp [results, Try.results18, go_sem]) rfl ⟨rfl, by repeat (first | exact Below.refl _ _ | assumption | refine Below.setCell ?_ (by first | omega | (simp; done) | (simp; omega)) _ | refine Below.alloc ?_ (by first | omega | (simp; done) | (simp; omega)) _ | refine below_drewN ?_ _ | refine Below.drew ?_ | refine Below.trans ?_ (Below.mono (by assumption) (by first | omega | (simp; done) | (simp; omega))))⟩
  rw [decide_eq_true c2] at VR
  have e : behF g n x y deep = behI g x y deep n := if_pos c2
  rw [e, ← beh_fold] at hR1 hR2
  have r1 : Rg x := c1.1
  have r2 : Rg y := c1.2
  have VA := Lib.hid (fun W => fAbout_any x y deep W ⟨⟨r1, r2⟩, c2⟩)
  unfold Rg at r1 r2
  have VM := Lib.hid (fun (W : World) (h : Below w.heap.size w W) => fMeeting_any ⟨x - deep, y - deep, x + deep, y + deep⟩ n g lo top f W hn (F.below h) (by dsimp only; omega))
  dsimp only at VM
  have E1 := Lib.hid hR1
  have E2 := Lib.hid hR2
  have S0 := Lib.hid (show BhW w (w.alloc (.cells #[.int .i64 x, .int .i64 y] 24)) x y from ⟨BW.new w _ [.int .i64 x, .int .i64 y] _ rfl, by repeat (first | exact Below.refl _ _ | assumption | refine Below.setCell ?_ (by first | omega | (simp; done) | (simp; omega)) _ | refine Below.alloc ?_ (by first | omega | (simp; done) | (simp; omega)) _ | refine below_drewN ?_ _ | refine Below.drew ?_ | refine Below.trans ?_ (Below.mono (by assumption) (by first | omega | (simp; done) | (simp; omega))))⟩)
  clear hR1 hR2 c1 c2 r1 r2 e
  go_enter Try.func18, Try.ntmps18
  go_wp2_with fail
  refine (VW.out _).mono ?_
  rintro e w1 ⟨rfl, rfl⟩
  go_wp2_with fail
  refine (VR.out _).mono ?_
  rintro e w1 ⟨rfl, rfl⟩
  go_wp2_with fail
  refine (VA.out _).mono ?_
  rintro e w2 ⟨rfl, h⟩
  have S2 := Lib.hid ((S0.out.step ((Below.refl _ _).alloc (Nat.le_refl _) (.cells #[.int .i64 x, .int .i64 y] 24))).step h)
  clear h S0 VW VR VA
  go_wp2_with fail
  refine (VM.out _ S2.out.l).mono ?_
  rintro e w4 ⟨⟨u, rfl, o⟩, h⟩
  have S4 := Lib.hid (S2.out.step h)
  have O4 := Lib.hid o
  have hsl : (selI (fun i => decide (ovP ⟨x - deep, y - deep, x + deep, y + deep⟩ (boxG (g i)))) n).length ≤ n := selI_len _ _
  have HI := Lib.hid (fun (j : Nat) (hj : j < (selI (fun i => decide (ovP ⟨x - deep, y - deep, x + deep, y + deep⟩ (boxG (g i)))) n).length) => show ∃ k : Nat, (selI (fun i => decide (ovP ⟨x - deep, y - deep, x + deep, y + deep⟩ (boxG (g i)))) n).getD j 0 = k ∧ k < n from by
    have m : (selI (fun i => decide (ovP ⟨x - deep, y - deep, x + deep, y + deep⟩ (boxG (g i)))) n).getD j 0 ∈ selI (fun i => decide (ovP ⟨x - deep, y - deep, x + deep, y + deep⟩ (boxG (g i)))) n := by rw [List.getD_eq_getElem?_getD, List.getElem?_eq_getElem hj]; exact List.getElem_mem hj
    obtain ⟨k, e, l, _⟩ := selI_mem m
    exact ⟨k, e, l⟩)
  clear o h S2 VM
  generalize selI (fun i => decide (ovP ⟨x - deep, y - deep, x + deep, y + deep⟩ (boxG (g i)))) n = M at *
  obtain ⟨ua, uc, hu⟩ := O4.out.form
  rw [inVs_len] at hu
  subst hu
  obtain ⟨base, mb, fa, fc, lv, L, Ls, ck, F1, -, D, -⟩ := F.ex
  have FF := Lib.hid (fun (W : World) (h : Below w.heap.size w W) => (F1.below h).c)
  have DD := Lib.hid (fun (W : World) (h : Below w.heap.size w W) => D.step h)
  clear F F1 D
  go_wp2
  go_loopw [8, 9, 29] (fun u v i wr => ∃ (j : Nat) (s : Int × Int), j ≤ M.length ∧ i = .int .i64 j ∧ u = .int .i64 s.1 ∧ v = .int .i64 s.2 ∧ (M.take j).foldl (bhS g x y deep) (-1, 0) = s ∧ Below w4.heap.size w4 wr) (fun _ _ i _ => M.length - (intOf i).toNat)
  case atStart => exact ⟨0, (-1, 0), by omega, rfl, rfl, rfl, rfl, Below.refl _ _⟩
  case round =>
    obtain ⟨j, s, hj, rfl, rfl, rfl, hs, hB⟩ := hrel
    have B5 := Lib.hid hB
    clear hB
    by_cases hlt : j < M.length
    rotate_left
    · have z1 : ¬ (j : Int) < (M.length : Int) := by omega
      have e : j = M.length := by omega
      subst e
      rw [List.take_length] at hs
      rw [hs] at E1 E2
      obtain ⟨s1, s2⟩ := s
      have e1 := E1.out
      have e2 := E2.out
      dsimp only at e1 e2
      subst e1 e2
      have LB := Lib.hid (S4.out.l.trans (B5.out.mono S4.out.l.size))
      clear E1 E2 hs
      go_wp2
      exact bodyPost_ret (v := .tuple #[.int .i64 s1, .int .i64 s2]) (by simp [results, Try.results18, go_sem]) rfl ⟨rfl, LB.out⟩
    obtain ⟨i0, hi0, li0⟩ := HI.out j hlt
    obtain ⟨q, rfl, hq, hc⟩ := ob_in O4.out rfl hlt
    have e0 := (B5.out.cell (p := ⟨q, j, none⟩) hq).trans hc
    rw [hi0] at e0
    have z0 : (0 : Int) ≤ (j : Int) := by omega
    have z1 : (j : Int) < (M.length : Int) := by omega
    have y0 : (0 : Int) ≤ (i0 : Int) := by omega
    have y1 : (i0 : Int) < (n : Int) := by omega
    obtain ⟨bb, bo, rfl, -, -⟩ := (DD.out _ S4.out.l).at' (by omega)
    have CS := Lib.hid (fun (W' : World) (Q : Below w4.heap.size w4 W') => show (W'.cell? ⟨f, 0, none⟩ = some (.slice (some ⟨bb, bo, none⟩) n fc) ∧ ((W'.cell? ⟨bb, bo + i0 * 5, none⟩ = some (.int .i64 (g i0).ax) ∧ W'.cell? ⟨bb, bo + i0 * 5 + 1, none⟩ = some (.int .i64 (g i0).ay)) ∧ W'.cell? ⟨bb, bo + i0 * 5 + 2, none⟩ = some (.int .i64 (g i0).bx) ∧ W'.cell? ⟨bb, bo + i0 * 5 + 3, none⟩ = some (.int .i64 (g i0).by'))) ∧ W'.cell? ⟨w.heap.size, 0, none⟩ = some (.int .i64 x) ∧ W'.cell? ⟨w.heap.size, 1, none⟩ = some (.int .i64 y) from by
      have SW := S4.out.step Q
      obtain ⟨b3, o3, e3, -, hc⟩ := (DD.out _ SW.l).at' (by omega)
      cases e3
      exact ⟨⟨(FF.out _ SW.l).c 0 _ rfl, (hc i0 li0).1, (hc i0 li0).2.1⟩, SW.p.c 0 _ rfl, SW.p.c 1 _ rfl⟩)
    have VK := Lib.hid (fun (W' : World) => plBeyond_any (g i0).ax (g i0).ay (g i0).bx (g i0).by' x y W')
    have FS := fold_succ (bhS g x y deep) (-1, 0) hlt
    rw [hs, hi0] at FS
    rw [bhS_at] at FS
    have FS := Lib.hid FS
    generalize beyondN ⟨(g i0).ax, (g i0).ay⟩ ⟨(g i0).bx, (g i0).by'⟩ ⟨x, y⟩ = d at *
    obtain ⟨s1, s2⟩ := s
    dsimp only at *
    clear hc hs
    go_wp2_with fail
    refine wp_region_held_drew (S := fun W' => (W'.cell? ⟨f, 0, none⟩ = some (.slice (some ⟨bb, bo, none⟩) n fc) ∧ ((W'.cell? ⟨bb, bo + i0 * 5, none⟩ = some (.int .i64 (g i0).ax) ∧ W'.cell? ⟨bb, bo + i0 * 5 + 1, none⟩ = some (.int .i64 (g i0).ay)) ∧ W'.cell? ⟨bb, bo + i0 * 5 + 2, none⟩ = some (.int .i64 (g i0).bx) ∧ W'.cell? ⟨bb, bo + i0 * 5 + 3, none⟩ = some (.int .i64 (g i0).by'))) ∧ W'.cell? ⟨w.heap.size, 0, none⟩ = some (.int .i64 x) ∧ W'.cell? ⟨w.heap.size, 1, none⟩ = some (.int .i64 y)) (by kernel_rfl) (CS.out _ B5.out.drew) (fun hHeld => ?_)
    have B6 := Lib.hid B5.out.drew
    clear B5 e0
    generalize World.drew _ = w6 at *
    refine tkD 0 33 (v := ?_) ?_ hHeld ?_
    rotate_left 1
    (intro W hSw; (try dsimp only at hSw); go_simp; try with_reducible rfl)
    (try simp only [putA, putB, putC, putD])
    refine tkD 1 34 (v := ?_) ?_ hHeld ?_
    rotate_left 1
    (intro W hSw; (try dsimp only at hSw); go_simp; try with_reducible rfl)
    (try simp only [putA, putB, putC, putD])
    refine tkD 2 35 (v := ?_) ?_ hHeld ?_
    rotate_left 1
    (intro W hSw; (try dsimp only at hSw); go_simp; try with_reducible rfl)
    (try simp only [putA, putB, putC, putD])
    refine tkD 3 36 (v := ?_) ?_ hHeld ?_
    rotate_left 1
    (intro W hSw; (try dsimp only at hSw); go_simp; try with_reducible rfl)
    (try simp only [putA, putB, putC, putD])
    refine tkD 4 37 (v := ?_) ?_ hHeld ?_
    rotate_left 1
    (intro W hSw; (try dsimp only at hSw); go_simp; try with_reducible rfl)
    (try simp only [putA, putB, putC, putD])
    refine tkD 5 38 (v := ?_) ?_ hHeld ?_
    rotate_left 1
    (intro W hSw; (try dsimp only at hSw); go_simp; try with_reducible rfl)
    (try simp only [putA, putB, putC, putD])
    refine tkD 6 39 (v := ?_) ?_ hHeld ?_
    rotate_left 1
    (intro W hSw; (try dsimp only at hSw); go_simp; try with_reducible rfl)
    (try simp only [putA, putB, putC, putD])
    refine tkD 7 40 (v := ?_) ?_ hHeld ?_
    rotate_left 1
    (intro W hSw; (try dsimp only at hSw); go_simp; try with_reducible rfl)
    (try simp only [putA, putB, putC, putD])
    refine tkD 8 41 (v := ?_) ?_ hHeld ?_
    rotate_left 1
    (intro W hSw; (try dsimp only at hSw); go_simp; try with_reducible rfl)
    (try simp only [putA, putB, putC, putD])
    refine tkD 9 42 (v := ?_) ?_ hHeld ?_
    rotate_left 1
    (intro W hSw; (try dsimp only at hSw); go_simp; try with_reducible rfl)
    (try simp only [putA, putB, putC, putD])
    refine tkD 10 43 (v := ?_) ?_ hHeld ?_
    rotate_left 1
    (intro W hSw; (try dsimp only at hSw); go_simp; try with_reducible rfl)
    (try simp only [putA, putB, putC, putD])
    refine tkD 11 44 (v := ?_) ?_ hHeld ?_
    rotate_left 1
    (intro W hSw; (try dsimp only at hSw); go_simp; try with_reducible rfl)
    (try simp only [putA, putB, putC, putD])
    refine tkD 12 45 (v := ?_) ?_ hHeld ?_
    rotate_left 1
    (intro W hSw; (try dsimp only at hSw); go_simp; try with_reducible rfl)
    (try simp only [putA, putB, putC, putD])
    refine tkD 13 46 (v := ?_) ?_ hHeld ?_
    rotate_left 1
    (intro W hSw; (try dsimp only at hSw); go_simp; try with_reducible rfl)
    (try simp only [putA, putB, putC, putD])
    refine tkD 14 47 (v := ?_) ?_ hHeld ?_
    rotate_left 1
    (intro W hSw; (try dsimp only at hSw); go_simp; try with_reducible rfl)
    (try simp only [putA, putB, putC, putD])
    refine tkD 15 48 (v := ?_) ?_ hHeld ?_
    rotate_left 1
    (intro W hSw; (try dsimp only at hSw); go_simp; try with_reducible rfl)
    (try simp only [putA, putB, putC, putD])
    refine tkD 16 49 (v := ?_) ?_ hHeld ?_
    rotate_left 1
    (intro W hSw; (try dsimp only at hSw); go_simp; try with_reducible rfl)
    (try simp only [putA, putB, putC, putD])
    refine onlD 17 (fun K hK => ?_)
    go_simp
    refine (VK.out _).mono ?_
    rintro e w7 ⟨rfl, h⟩
    have B7 := Lib.hid (B6.out.trans (h.mono B6.out.size))
    go_wp2_with fail
    refine hK.out _ _ (CS.out _ B7.out) ?_
    clear hK K hHeld
    intro hHeld
    clear h B6 VK CS
    refine tkD 18 12 (v := ?_) ?_ hHeld ?_
    rotate_left 1
    (intro W hSw; (try dsimp only at hSw); go_simp; try with_reducible rfl)
    (try simp only [putA, putB, putC, putD])
    refine wpAnyH_done (by kernel_rfl) ?_ _
    clear hHeld
    by_cases b1 : 0 < d
    rotate_left
    · skip
      have F0 := Lib.hid (FS.out.trans (if_neg (fun h => b1 h.1.1)))
      clear FS
      go_wp2
      go_roundw
      case rel => exact ⟨j + 1, (s1, s2), by omega, by go_num, rfl, rfl, F0.out, B7.out⟩
      case measure => simp [intOf]; omega
    by_cases b2 : d ≤ deep
    rotate_left
    · skip
      have F0 := Lib.hid (FS.out.trans (if_neg (fun h => b2 h.1.2)))
      clear FS
      go_wp2
      go_roundw
      case rel => exact ⟨j + 1, (s1, s2), by omega, by go_num, rfl, rfl, F0.out, B7.out⟩
      case measure => simp [intOf]; omega
    by_cases b3 : s1 < 0
    · skip
      have F0 := Lib.hid (FS.out.trans (if_pos ⟨⟨b1, b2⟩, Or.inl b3⟩))
      clear FS
      go_wp2
      go_roundw
      case rel => exact ⟨j + 1, ((i0 : Int), d), by omega, by go_num, rfl, rfl, F0.out, B7.out⟩
      case measure => simp [intOf]; omega
    by_cases b4 : d < s2
    · skip
      have F0 := Lib.hid (FS.out.trans (if_pos ⟨⟨b1, b2⟩, Or.inr b4⟩))
      clear FS
      go_wp2
      go_roundw
      case rel => exact ⟨j + 1, ((i0 : Int), d), by omega, by go_num, rfl, rfl, F0.out, B7.out⟩
      case measure => simp [intOf]; omega
    · skip
      have F0 := Lib.hid (FS.out.trans (if_neg (fun h => h.2.elim b3 b4)))
      clear FS
      go_wp2
      go_roundw
      case rel => exact ⟨j + 1, (s1, s2), by omega, by go_num, rfl, rfl, F0.out, B7.out⟩
      case measure => simp [intOf]; omega
end Go.Proofs.Ytllkhgcokbpggaa
namespace Go.Proofs.Ytllkhgcokbpggaa
open Go.RowKit
set_option linter.unusedVariables false

theorem fenceC : FenceC fenT :=
  ⟨fun k B w hB few nr K => fNew_any k B w hB few nr K,
   fun n g lo top f w hn F => fBars_any n g lo top f w hn F,
   fun n g x y far lo top f w hn _ _ F => fAround_any n g x y far lo top f w hn F,
   fun n g px py qx qy lo top f w hn _ _ F => fBreaks_any n g px py qx qy lo top f w hn F,
   fun n g x y deep lo top f w hn _ _ F => fBehind_any n g x y deep lo top f w hn F,
   fun w => fBars_nil w,
   fun px py qx qy w h => fBreaks_nil px py qx qy w h⟩
theorem fnAw : FnAw := fawake_any16 fenT fenceC
end Go.Proofs.Ytllkhgcokbpggaa

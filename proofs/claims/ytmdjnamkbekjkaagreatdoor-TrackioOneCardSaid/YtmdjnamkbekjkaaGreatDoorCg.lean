/- -/
import Derived.Test.YtmdjnamkbekjkaaGreatDoorBo
import Derived.Test.YtmdjnamkbekjkaaGreatDoorBi
namespace Go.Proofs.YtmdjnamkbekjkaaGreatDoor
open Go.RowKit
set_option linter.unusedVariables false
set_option linter.unusedSimpArgs false
noncomputable def behN (k : Tk) (j : Nat) : Int := beyondN ⟨(barG k j).ax, (barG k j).ay⟩ ⟨(barG k j).bx, (barG k j).by'⟩ ⟨k.t.sx, k.t.sy⟩
def behP (k : Tk) (j : Nat) : Prop := 0 < behN k j ∧ behN k j < 17179869184
noncomputable instance (k : Tk) (j : Nat) : Decidable (behP k j) := by unfold behP; exact inferInstance
def rectP (t : Trk) : Prop := (t.cx ≤ t.sx ∧ t.sx ≤ t.cx + t.cols * t.cell) ∧ t.cy ≤ t.sy ∧ t.sy ≤ t.cy + t.rows * t.cell
instance (t : Trk) : Decidable (rectP t) := by unfold rectP; exact inferInstance
noncomputable def rgtK (k : Tk) : Int × Int :=
 if k.t.rate < 60 ∨ 1024 < k.t.rate then (40, 0)
 else if rightFd k.t ≠ 0 then (rightFd k.t, 0)
 else if lineR k.line.n k.line.x k.line.y ≠ 0 then (lineR k.line.n k.line.x k.line.y, 0)
 else if ¬ hlfN k.line.n k.line.x k.line.y then (40, 0)
 else if (waysE k).1 ≠ 0 then waysE k
 else if ¬ rectP k.t then (40, 0)
 else if ¬ (∀ j, j < barN k k.t.rn → ¬ behP k j) then (43, 0)
 else if k.t.laps < 1 ∨ 100 < k.t.laps then (40, 0)
 else (0, 0)
def TKc (n : Nat) (t : Trk) (W : World) : Prop :=
 W.cell? ⟨n, 0, none⟩ = some (.int .i64 t.rate) ∧ W.cell? ⟨n, 1, none⟩ = some (.int .i64 t.cell) ∧ W.cell? ⟨n, 2, none⟩ = some (.int .i64 t.cols) ∧ W.cell? ⟨n, 3, none⟩ = some (.int .i64 t.rows) ∧ W.cell? ⟨n, 4, none⟩ = some (.int .i64 t.cx) ∧ W.cell? ⟨n, 5, none⟩ = some (.int .i64 t.cy) ∧ W.cell? ⟨n, 6, none⟩ = some (.slice t.H.a t.H.n t.H.c) ∧ W.cell? ⟨n, 7, none⟩ = some (.slice t.G.a t.G.n t.G.c) ∧ W.cell? ⟨n, 8, none⟩ = some (.slice t.ka t.kn t.kc) ∧ W.cell? ⟨n, 9, none⟩ = some (.slice t.la t.ln t.lc) ∧ W.cell? ⟨n, 10, none⟩ = some (.slice t.ra t.rn t.rc) ∧ W.cell? ⟨n, 11, none⟩ = some (.slice t.ga t.gn t.gc) ∧ W.cell? ⟨n, 12, none⟩ = some (.int .i64 t.sx) ∧ W.cell? ⟨n, 13, none⟩ = some (.int .i64 t.sy) ∧ W.cell? ⟨n, 14, none⟩ = some (.int .u32 t.head) ∧ W.cell? ⟨n, 15, none⟩ = some (.int .i64 t.laps)
theorem tk_of {W : World} {n : Nat} {t : Trk} (c : BW W n (trkL t)) : TKc n t W :=
 ⟨c.c 0 _ rfl, c.c 1 _ rfl, c.c 2 _ rfl, c.c 3 _ rfl, c.c 4 _ rfl, c.c 5 _ rfl, c.c 6 _ rfl, c.c 7 _ rfl, c.c 8 _ rfl, c.c 9 _ rfl, c.c 10 _ rfl, c.c 11 _ rfl, c.c 12 _ rfl, c.c 13 _ rfl, c.c 14 _ rfl, c.c 15 _ rfl⟩
def BhS (m bb o : Nat) (sx sy ax ay bx by' : Int) (W : World) : Prop :=
 (W.cell? ⟨m, 12, none⟩ = some (.int .i64 sx) ∧ W.cell? ⟨m, 13, none⟩ = some (.int .i64 sy)) ∧ (W.cell? ⟨bb, o, none⟩ = some (.int .i64 ax) ∧ W.cell? ⟨bb, o + 1, none⟩ = some (.int .i64 ay)) ∧ W.cell? ⟨bb, o + 2, none⟩ = some (.int .i64 bx) ∧ W.cell? ⟨bb, o + 3, none⟩ = some (.int .i64 by')
theorem BhS.keep {m bb o C : Nat} {sx sy ax ay bx by' : Int} {W W' : World} (h : Below C W W') (e : m < C ∧ bb < C) (S : BhS m bb o sx sy ax ay bx by' W) : BhS m bb o sx sy ax ay bx by' W' :=
 ⟨⟨(h.cell (p := ⟨m, _, none⟩) e.1).trans S.1.1, (h.cell (p := ⟨m, _, none⟩) e.1).trans S.1.2⟩, ⟨(h.cell (p := ⟨bb, _, none⟩) e.2).trans S.2.1.1, (h.cell (p := ⟨bb, _, none⟩) e.2).trans S.2.1.2⟩, (h.cell (p := ⟨bb, _, none⟩) e.2).trans S.2.2.1, (h.cell (p := ⟨bb, _, none⟩) e.2).trans S.2.2.2⟩
theorem right_two {t : Trk} (h : rightFd t = 0) : cntP t ∧ frP t := by
 unfold rightFd at h
 split at h
 ·rename_i c
  split at h
  ·rename_i a; exact ⟨c, a.1⟩
  ·omega
 ·omega
theorem rect_fit {t : Trk} (h : rightFd t = 0) : (0 ≤ t.cols * t.cell ∧ t.cols * t.cell ≤ 17592186044416) ∧ (0 ≤ t.rows * t.cell ∧ t.rows * t.cell ≤ 17592186044416) ∧ (-140737488355328 ≤ t.cx ∧ t.cx ≤ 140737488355328) ∧ -140737488355328 ≤ t.cy ∧ t.cy ≤ 140737488355328 := by
 obtain ⟨⟨⟨m1, m2⟩, -⟩, f1, f2, f3, -⟩ := right_two h
 have p1 := Int.mul_le_mul (show t.cols ≤ 64 by omega) f1.2 (show 0 ≤ t.cell by omega) (show (0 : Int) ≤ 64 by omega)
 have p2 := Int.mul_le_mul (show t.rows ≤ 64 by omega) f1.2 (show 0 ≤ t.cell by omega) (show (0 : Int) ≤ 64 by omega)
 have q1 := Int.mul_nonneg (show 0 ≤ t.cols by omega) (show 0 ≤ t.cell by omega)
 have q2 := Int.mul_nonneg (show 0 ≤ t.rows by omega) (show 0 ≤ t.cell by omega)
 exact ⟨⟨q1, by omega⟩, ⟨q2, by omega⟩, f2, f3⟩
set_option maxRecDepth 100000 in
set_option maxHeartbeats 8000000 in
theorem rKRight_any (k : Tk) (B : Nat) (w : World) (hB : B ≤ w.heap.size) (few : fewR k) (K : TkM B w k) :
  Calls Tryz.prog 18 #[trkV k.t] w fun e w' => e = .returned (.tuple #[.int .i64 (rgtK k).1, .int .i64 (rgtK k).2]) ∧ Below w.heap.size w w' := by
 have Q0 := Lib.hid (PK.new 34 K hB)
 obtain ⟨q1, hq1⟩ : ∃ q, (rgtK k).1 = q := ⟨_, rfl⟩
 obtain ⟨q2, hq2⟩ : ∃ q, (rgtK k).2 = q := ⟨_, rfl⟩
 rw [hq1, hq2]
 have WE := Lib.hid (fun (a : Int × Int) (h : rgtK k = a) => show a.1 = q1 ∧ a.2 = q2 by rw [← hq1, ← hq2, h]; exact ⟨rfl, rfl⟩)
 have XR := Lib.hid (fun (W : World) (Q : PK w W B w.heap.size k) => rFRight_any k.t B W Q.bz Q.t.T)
 have hln : k.line.n ≤ 1000 := by have := few.1; show k.t.ln ≤ 1000; omega
 have XL := Lib.hid (fun (W : World) (Q : PK w W B w.heap.size k) => rSRight_any k.line.a k.line.n k.line.c k.line.x k.line.y W hln (Q.t.L.dots Q.bz))
 have XO := Lib.hid (fun (W : World) (Q : PK w W B w.heap.size k) => rKOffs_any k.line.a k.line.n k.line.c k.line.x k.line.y W hln (Q.t.L.dots Q.bz))
 have XW := Lib.hid (fun (W : World) (Q : PK w W B w.heap.size k) => rKWays_any k B W Q.bz few Q.t)
 have XB := Lib.hid (fun (W : World) (Q : PK w W B w.heap.size k) => rKBars_any k B W Q.bz few Q.t)
 have BN := Lib.hid (show barN k k.t.rn ≤ 1980 by have := barN_le k (q := 99) (fun i hi => by have := few.2.2.2 i hi; omega) (m := k.t.rn) (Nat.le_refl _); have := few.2.1; omega)
 have hsl : (.slice k.line.a k.line.n k.line.c : Value) = .slice k.t.la k.t.ln k.t.lc := rfl
 rw [hsl] at XL XO
 clear K hq1 hq2 few hln hsl
 by_cases s1 : k.t.rate < 60
 ·have E := Lib.hid (WE.out (40, 0) (by unfold rgtK; rw [if_pos (Or.inl s1)]))
  go_enter Tryz.func18, Tryz.ntmps18
  clear WE
  go_wp2
  go_ret2
  exact ⟨by rw [← E.out.1, ← E.out.2]; rfl, Q0.out.l⟩
 by_cases s2 : 1024 < k.t.rate
 ·have E := Lib.hid (WE.out (40, 0) (by unfold rgtK; rw [if_pos (Or.inr s2)]))
  go_enter Tryz.func18, Tryz.ntmps18
  clear WE
  go_wp2
  go_ret2
  exact ⟨by rw [← E.out.1, ← E.out.2]; rfl, Q0.out.l⟩
 have t1 : ¬ (k.t.rate < 60 ∨ 1024 < k.t.rate) := by omega
 by_cases s3 : rightFd k.t = 0
 rotate_left
 ·have E := Lib.hid (WE.out (rightFd k.t, 0) (by unfold rgtK; rw [if_neg t1, if_pos s3]))
  have b3 : (rightFd k.t == 0) = false := beq_false_of_ne s3
  generalize rightFd k.t = er at *
  go_enter Tryz.func18, Tryz.ntmps18
  go_wp2_with fail
  refine calls_gen (S := fun W => PK w W B w.heap.size k) Q0.out (fun W1 hS => ?_)
  have Q1 := Lib.hid hS
  clear hS Q0
  refine (XR.out _ Q1.out).mono ?_
  rintro e w2 ⟨rfl, h⟩
  have Q2 := Lib.hid (Q1.out.step h)
  clear h Q1 XR
  clear WE
  go_wp2
  go_ret2
  exact ⟨by rw [← E.out.1, ← E.out.2]; rfl, Q2.out.l⟩
 have RF := Lib.hid (rect_fit s3)
 rw [s3] at XR
 by_cases s4 : lineR k.line.n k.line.x k.line.y = 0
 rotate_left
 ·have E := Lib.hid (WE.out (lineR k.line.n k.line.x k.line.y, 0) (by unfold rgtK; rw [if_neg t1, if_neg (fun c => c s3), if_pos s4]))
  have b3 : (lineR k.line.n k.line.x k.line.y == 0) = false := beq_false_of_ne s4
  generalize lineR k.line.n k.line.x k.line.y = er at *
  clear s3 RF
  go_enter Tryz.func18, Tryz.ntmps18
  go_wp2_with fail
  refine calls_gen (S := fun W => PK w W B w.heap.size k) Q0.out (fun W1 hS => ?_)
  have Q1 := Lib.hid hS
  clear hS Q0
  refine (XR.out _ Q1.out).mono ?_
  rintro e w2 ⟨rfl, h⟩
  have Q2 := Lib.hid (Q1.out.step h)
  clear h Q1 XR
  have c09 := Q2.out.c.c 9 _ rfl
  go_wp2_with fail
  refine (XL.out _ Q2.out).mono ?_
  rintro e w3 ⟨rfl, rfl⟩
  clear c09
  clear WE
  go_wp2
  go_ret2
  exact ⟨by rw [← E.out.1, ← E.out.2]; rfl, Q2.out.l⟩
 rw [s4] at XL
 go_enter Tryz.func18, Tryz.ntmps18
 go_wp2_with fail
 refine calls_gen (S := fun W => PK w W B w.heap.size k) Q0.out (fun W1 hS => ?_)
 have Q1 := Lib.hid hS
 clear hS Q0
 refine (XR.out _ Q1.out).mono ?_
 rintro e w2 ⟨rfl, h⟩
 have Q2 := Lib.hid (Q1.out.step h)
 clear h Q1 XR
 have c09 := Q2.out.c.c 9 _ rfl
 go_wp2_with fail
 refine (XL.out _ Q2.out).mono ?_
 rintro e w3 ⟨rfl, rfl⟩
 clear XL
 go_wp2_with fail
 refine (XO.out _ Q2.out).mono ?_
 rintro e w4 ⟨rfl, h⟩
 have Q4 := Lib.hid (Q2.out.step h)
 clear h Q2 XO c09
 by_cases s5 : hlfN k.line.n k.line.x k.line.y
 rotate_left
 ·have E := Lib.hid (WE.out (40, 0) (by unfold rgtK; rw [if_neg t1, if_neg (fun c => c s3), if_neg (fun c => c s4), if_pos s5]))
  rw [decide_eq_false s5]
  clear s3 RF
  clear WE
  go_wp2
  go_ret2
  exact ⟨by rw [← E.out.1, ← E.out.2]; rfl, Q4.out.l⟩
 rw [decide_eq_true s5]
 have cs := tk_of Q4.out.c
 unfold TKc at cs
 obtain ⟨c00, c01, c02, c03, c04, c05, c06, c07, c08, c09, c10, c11, c12, c13, c14, c15⟩ := cs
 go_wp2_with fail
 refine (XW.out _ Q4.out).mono ?_
 rintro e w5 ⟨rfl, h⟩
 have Q5 := Lib.hid (Q4.out.step h)
 clear c00 c01 c02 c03 c04 c05 c06 c07 c08 c09 c10 c11 c12 c13 c14 c15
 clear h Q4 XW
 by_cases s6 : (waysE k).1 = 0
 rotate_left
 ·have E := Lib.hid (WE.out (waysE k) (by unfold rgtK; rw [if_neg t1, if_neg (fun c => c s3), if_neg (fun c => c s4), if_neg (fun c => c s5), if_pos s6]))
  have b6 : ((waysE k).1 == 0) = false := beq_false_of_ne s6
  clear s3 RF
  clear WE
  go_wp2
  go_ret2
  exact ⟨by rw [← E.out.1, ← E.out.2]; rfl, Q5.out.l⟩
 rw [s6]
 have WF := Lib.hid (fun (a : Int × Int) (h : (if ¬ rectP k.t then ((40 : Int), (0 : Int)) else if ¬ (∀ j, j < barN k k.t.rn → ¬ behP k j) then (43, 0) else if k.t.laps < 1 ∨ 100 < k.t.laps then (40, 0) else (0, 0)) = a) => WE.out a (by unfold rgtK; rw [if_neg t1, if_neg (fun c => c s3), if_neg (fun c => c s4), if_neg (fun c => c s5), if_neg (fun c => c s6)]; exact h))
 clear WE
 have WE := WF
 clear WF
 obtain ⟨⟨r1, r2⟩, ⟨r3, r4⟩, r5, r6⟩ := RF.out
 have u0 : IntKind.i64.wrap k.t.cols = k.t.cols := by obtain ⟨⟨⟨m1, m2⟩, -⟩, f1, f2, f3, -⟩ := right_two s3; exact (wrap_in' (by unfold In64; omega)).1
 have u1 : IntKind.i64.wrap k.t.rows = k.t.rows := by obtain ⟨⟨⟨m1, m2⟩, -⟩, f1, f2, f3, -⟩ := right_two s3; exact (wrap_in' (by unfold In64; omega)).1
 clear s3 RF s4 s5 s6 t1
 have hfx := Lib.hid (rfl : rectP k.t = ((k.t.cx ≤ k.t.sx ∧ k.t.sx ≤ k.t.cx + k.t.cols * k.t.cell) ∧ k.t.cy ≤ k.t.sy ∧ k.t.sy ≤ k.t.cy + k.t.rows * k.t.cell))
 have RP := Lib.hid (fun (h : ¬ ((k.t.cx ≤ k.t.sx ∧ k.t.sx ≤ k.t.cx + k.t.cols * k.t.cell) ∧ k.t.cy ≤ k.t.sy ∧ k.t.sy ≤ k.t.cy + k.t.rows * k.t.cell)) => WE.out (40, 0) (by rw [if_pos (show ¬ rectP k.t from h)]))
 have RP2 := Lib.hid (fun (h : ((k.t.cx ≤ k.t.sx ∧ k.t.sx ≤ k.t.cx + k.t.cols * k.t.cell) ∧ k.t.cy ≤ k.t.sy ∧ k.t.sy ≤ k.t.cy + k.t.rows * k.t.cell)) => show rectP k.t from h)
 clear hfx
 have u2 : IntKind.i64.wrap (k.t.cols * k.t.cell) = k.t.cols * k.t.cell := (wrap_in' (by unfold In64; omega)).1
 have u3 : IntKind.i64.wrap (k.t.rows * k.t.cell) = k.t.rows * k.t.cell := (wrap_in' (by unfold In64; omega)).1
 have u4 : IntKind.i64.wrap (k.t.cx + k.t.cols * k.t.cell) = k.t.cx + k.t.cols * k.t.cell := (wrap_in' (by unfold In64; omega)).1
 have u5 : IntKind.i64.wrap (k.t.cy + k.t.rows * k.t.cell) = k.t.cy + k.t.rows * k.t.cell := (wrap_in' (by unfold In64; omega)).1
 generalize hX : k.t.cx + k.t.cols * k.t.cell = mx at *
 generalize hY : k.t.cy + k.t.rows * k.t.cell = my at *
 clear r1 r2 r3 r4 r5 r6
 have cs := tk_of Q5.out.c
 unfold TKc at cs
 obtain ⟨c00, c01, c02, c03, c04, c05, c06, c07, c08, c09, c10, c11, c12, c13, c14, c15⟩ := cs
 by_cases v1 : k.t.sx < k.t.cx
 ·have E := Lib.hid (RP.out (by omega))
  clear WE RP RP2
  go_wp2
  go_ret2
  exact ⟨by rw [← E.out.1, ← E.out.2]; rfl, Q5.out.l⟩
 by_cases v2 : mx < k.t.sx
 ·have E := Lib.hid (RP.out (by omega))
  clear WE RP RP2
  go_wp2
  go_ret2
  exact ⟨by rw [← E.out.1, ← E.out.2]; rfl, Q5.out.l⟩
 by_cases v3 : k.t.sy < k.t.cy
 ·have E := Lib.hid (RP.out (by omega))
  clear WE RP RP2
  go_wp2
  go_ret2
  exact ⟨by rw [← E.out.1, ← E.out.2]; rfl, Q5.out.l⟩
 by_cases v4 : my < k.t.sy
 ·have E := Lib.hid (RP.out (by omega))
  clear WE RP RP2
  go_wp2
  go_ret2
  exact ⟨by rw [← E.out.1, ← E.out.2]; rfl, Q5.out.l⟩
 have s7 := RP2.out (by omega)
 clear RP RP2
 go_wp2_with fail
 refine (XB.out _ Q5.out).mono ?_
 rintro e w6 ⟨ba, bc, rfl, hD, h, -⟩
 have Q6 := Lib.hid (Q5.out.step h)
 have D6 := Lib.hid hD
 clear c00 c01 c02 c03 c04 c05 c06 c07 c08 c09 c10 c11 c12 c13 c14 c15
 clear h Q5 XB hD u0 u1 u2 u3 u4 u5 v1 v2 v3 v4 hX hY
 have WF := Lib.hid (fun (a : Int × Int) (h : (if ¬ (∀ j, j < barN k k.t.rn → ¬ behP k j) then ((43 : Int), (0 : Int)) else if k.t.laps < 1 ∨ 100 < k.t.laps then (40, 0) else (0, 0)) = a) => WE.out a (by rw [if_neg (fun c => c s7)]; exact h))
 clear WE s7
 generalize barN k k.t.rn = N at *
 have bn := BN.out
 clear BN
 go_wp2
 go_loopw [7] (fun i wr => ∃ j : Nat, j ≤ N ∧ i = .int .i64 j ∧ Hid (∀ i, i < j → ¬ behP k i) ∧ PK w wr B w.heap.size k ∧ Brs wr ba N bc (barG k)) (fun i _ => N - (intOf i).toNat)
 case atStart => exact ⟨0, by omega, rfl, Lib.hid (fun i h => absurd h (by omega)), Q6.out, D6.out⟩
 case round =>
  obtain ⟨j, hj, rfl, I, hQ, hD⟩ := hrel
  have Q7 := Lib.hid hQ
  have D7 := Lib.hid hD
  clear hQ hD Q6 D6
  have z0 : (0 : Int) ≤ (j : Int) := by omega
  by_cases hlj : j < N
  ·obtain ⟨bb, bo, hba, hbb, hbc⟩ := D7.out.at' (by omega)
   obtain ⟨⟨e0, e1⟩, ⟨e2, e3⟩, -⟩ := hbc j hlj
   have c12 := Q7.out.c.c 12 _ rfl
   have c13 := Q7.out.c.c 13 _ rfl
   have z1 : (j : Int) < (N : Int) := by omega
   have cl := Q7.out.c.lt
   obtain ⟨bn, hbn⟩ : ∃ bn, behN k j = bn := ⟨_, rfl⟩
   have V := Lib.hid (fun (W : World) => rBeyond_any (barG k j).ax (barG k j).ay (barG k j).bx (barG k j).by' k.t.sx k.t.sy W)
   have hbe : beyondN ⟨(barG k j).ax, (barG k j).ay⟩ ⟨(barG k j).bx, (barG k j).by'⟩ ⟨k.t.sx, k.t.sy⟩ = bn := hbn
   rw [hbe] at V
   have PB : behP k j ↔ 0 < bn ∧ bn < 17179869184 := by rw [← hbn]; exact Iff.rfl
   clear hbe hbn hbc
   subst hba
   generalize (barG k j).ax = x0 at *
   generalize (barG k j).ay = v0 at *
   generalize (barG k j).bx = x1 at *
   generalize (barG k j).by' = v1 at *
   have T0 := Lib.hid (show BhS w.heap.size bb (bo + j * 5) k.t.sx k.t.sy x0 v0 x1 v1 _ from ⟨⟨c12, c13⟩, ⟨e0, e1⟩, e2, e3⟩)
   go_wp2_with fail
   refine wp_region_held_drew (S := BhS w.heap.size bb (bo + j * 5) k.t.sx k.t.sy x0 v0 x1 v1) (by kernel_rfl) T0.out (fun hHeld => ?_)
   have Q8 := Lib.hid (Q7.out.step (Below.refl _ _).drew)
   have D8 := Lib.hid (D7.out.step (Below.refl _ _).drew)
   have T1 := Lib.hid (BhS.keep (Below.refl _ _).drew ⟨cl, hbb⟩ T0.out)
   clear Q7 D7 c12 c13 e0 e1 e2 e3 T0
   unfold BhS at hHeld ⊢
   refine tkQ 0 97 hHeld ?_
   (try simp only [putA, putB, putC, putD])
   refine tkQ 1 98 hHeld ?_
   (try simp only [putA, putB, putC, putD])
   refine tkQ 2 99 hHeld ?_
   (try simp only [putA, putB, putC, putD])
   refine tkQ 3 100 hHeld ?_
   (try simp only [putA, putB, putC, putD])
   refine tkQ 4 101 hHeld ?_
   (try simp only [putA, putB, putC, putD])
   refine tkQ 5 102 hHeld ?_
   (try simp only [putA, putB, putC, putD])
   refine tkQ 6 103 hHeld ?_
   (try simp only [putA, putB, putC, putD])
   refine tkQ 7 104 hHeld ?_
   (try simp only [putA, putB, putC, putD])
   refine tkQ 8 105 hHeld ?_
   (try simp only [putA, putB, putC, putD])
   refine tkQ 9 106 hHeld ?_
   (try simp only [putA, putB, putC, putD])
   refine tkQ 10 107 hHeld ?_
   (try simp only [putA, putB, putC, putD])
   refine tkQ 11 108 hHeld ?_
   (try simp only [putA, putB, putC, putD])
   refine onlD 12 (fun K hK => ?_)
   go_simp
   refine (V.out _).mono ?_
   rintro e w8 ⟨rfl, h⟩
   have Q9 := Lib.hid (Q8.out.step h)
   have D9 := Lib.hid (D8.out.step h)
   go_wp2_with fail
   refine hK.out _ _ (BhS.keep h ⟨cl, hbb⟩ T1.out) ?_
   clear hK K hHeld
   intro hHeld
   clear V Q8 D8 T1 h
   refine tkQ 13 8 hHeld ?_
   (try simp only [putA, putB, putC, putD])
   refine wpAnyH_done (by kernel_rfl) ?_ _
   clear hHeld
   by_cases g0 : 0 < bn
   ·by_cases g1 : bn < 17179869184
    ·have E := Lib.hid (WF.out (43, 0) (by rw [if_pos (fun c => c j hlj (PB.2 ⟨g0, g1⟩))]))
     clear WF
     go_wp2
     go_ret2
     exact ⟨by rw [← E.out.1, ← E.out.2]; rfl, Q9.out.l⟩
    have I2 := Lib.hid (all_next' (P := fun i => ¬ behP k i) I.out (fun c => g1 (PB.1 c).2))
    clear I PB
    go_wp2
    go_roundw
    case rel => exact ⟨j + 1, by omega, by go_num, I2, Q9.out, D9.out⟩
    case measure => simp [intOf]; omega
   ·have I2 := Lib.hid (all_next' (P := fun i => ¬ behP k i) I.out (fun c => g0 (PB.1 c).1))
    clear I PB
    go_wp2
    go_roundw
    case rel => exact ⟨j + 1, by omega, by go_num, I2, Q9.out, D9.out⟩
    case measure => simp [intOf]; omega
  ·have e : j = N := by omega
   subst e
   have c15 := Q7.out.c.c 15 _ rfl
   have WG := Lib.hid (fun (a : Int × Int) (h : (if k.t.laps < 1 ∨ 100 < k.t.laps then ((40 : Int), (0 : Int)) else (0, 0)) = a) => WF.out a (by rw [if_neg (fun c => c I.out)]; exact h))
   clear WF I
   by_cases g0 : k.t.laps < 1
   ·have E := Lib.hid (WG.out (40, 0) (by rw [if_pos (Or.inl g0)]))
    clear WG
    go_wp2
    go_ret2
    exact ⟨by rw [← E.out.1, ← E.out.2]; rfl, Q7.out.l⟩
   by_cases g1 : 100 < k.t.laps
   ·have E := Lib.hid (WG.out (40, 0) (by rw [if_pos (Or.inr g1)]))
    clear WG
    go_wp2
    go_ret2
    exact ⟨by rw [← E.out.1, ← E.out.2]; rfl, Q7.out.l⟩
   have E := Lib.hid (WG.out (0, 0) (by rw [if_neg (by omega)]))
   clear WG
   go_wp2
   go_ret2
   exact ⟨by rw [← E.out.1, ← E.out.2]; rfl, Q7.out.l⟩
end Go.Proofs.YtmdjnamkbekjkaaGreatDoor

/- -/
import Derived.Test.YtmdjnamkbekjkaaGreatDoorE8
import Derived.Test.YtmdjnamkbekjkaaGreatDoorBu
namespace Go.Proofs.YtmdjnamkbekjkaaGreatDoor
open Go.RowKit
set_option linter.unusedVariables false
set_option linter.unusedSimpArgs false
structure CpN (base : Nat) (W : World) (g n : Nat) (v : Nat → Int) : Prop where
 b : base ≤ g
 lt : g < W.heap.size
 c : ∀ i, i < n → W.cell? ⟨g, i, none⟩ = some (.int .i64 (v i))
theorem CpN.step {base : Nat} {W W' : World} {g n : Nat} {v : Nat → Int} (k : CpN base W g n v) (h : Below W.heap.size W W') : CpN base W' g n v :=
 ⟨k.b, by have := k.lt; have := h.size; omega, fun i hi => (h.cell (p := ⟨g, i, none⟩) k.lt).trans (k.c i hi)⟩
theorem CpN.mono {base base' : Nat} {W : World} {g n : Nat} {v : Nat → Int} (k : CpN base W g n v) (h : base' ≤ base) : CpN base' W g n v := ⟨by have := k.b; omega, k.lt, k.c⟩
theorem right_pos {t : Trk} (h : cntP t) : 0 < t.H.n ∧ 0 < t.G.n ∧ t.H.n ≤ 4225 ∧ t.G.n ≤ 4225 := by
 obtain ⟨⟨m1, m2⟩, hn, hg, -, -⟩ := h
 have g4 := mul_64 (a := t.cols) (b := t.rows) (by omega) (by omega) (by omega) (by omega)
 have h4 := mul_64 (a := t.cols + 1) (b := t.rows + 1) (by omega) (by omega) (by omega) (by omega)
 omega
theorem field_new {w w5 : World} {B lo hb gb hc gc : Nat} {t : Trk} (Q : PT w w5 B w.heap.size t) (L : lo ≤ w.heap.size) (h : CpN w.heap.size w5 hb t.H.n t.H.v) (g : CpN w.heap.size w5 gb t.G.n t.G.v) (r : cntP t ∧ frP t) (T : TypeId) :
  FX lo (w5.alloc (.cells #[.int .i64 t.cell, .int .i64 t.cols, .int .i64 t.rows, .int .i64 t.cx, .int .i64 t.cy, .slice (some ⟨hb, 0, none⟩) t.H.n hc, .slice (some ⟨gb, 0, none⟩) t.G.n gc] T)).heap.size (w5.alloc (.cells #[.int .i64 t.cell, .int .i64 t.cols, .int .i64 t.rows, .int .i64 t.cx, .int .i64 t.cy, .slice (some ⟨hb, 0, none⟩) t.H.n hc, .slice (some ⟨gb, 0, none⟩) t.G.n gc] T)) w5.heap.size hb gb hc gc t := by
 have hl := h.lt
 have gl := g.lt
 have hs := h.b
 have gs := g.b
 have ql := Q.l.size
 have k1 := h.step ((Below.refl w5.heap.size w5).alloc (Nat.le_refl _) (.cells #[.int .i64 t.cell, .int .i64 t.cols, .int .i64 t.rows, .int .i64 t.cx, .int .i64 t.cy, .slice (some ⟨hb, 0, none⟩) t.H.n hc, .slice (some ⟨gb, 0, none⟩) t.G.n gc] T))
 have k2 := g.step ((Below.refl w5.heap.size w5).alloc (Nat.le_refl _) (.cells #[.int .i64 t.cell, .int .i64 t.cols, .int .i64 t.rows, .int .i64 t.cx, .int .i64 t.cy, .slice (some ⟨hb, 0, none⟩) t.H.n hc, .slice (some ⟨gb, 0, none⟩) t.G.n gc] T))
 exact ⟨BW.new w5 _ [_, _, _, _, _, _, _] T rfl, ⟨by omega, by simp, Nat.le_refl _⟩, ⟨by omega, by simp; omega⟩, ⟨by omega, by simp; omega⟩, k1.c, k2.c, r⟩
set_option maxRecDepth 100000 in
set_option maxHeartbeats 4000000 in
theorem fNew_no (t : Trk) (B : Nat) (w : World) (hB : B ≤ w.heap.size) (K : TrkM B w t) (k : rightFd t ≠ 0) :
  Calls Tryz.prog 131 #[.agg #[.int .i64 t.rate, .int .i64 t.cell, .int .i64 t.cols, .int .i64 t.rows, .int .i64 t.cx, .int .i64 t.cy, .slice t.H.a t.H.n t.H.c, .slice t.G.a t.G.n t.G.c, .slice t.ka t.kn t.kc, .slice t.la t.ln t.lc, .slice t.ra t.rn t.rc, .slice t.ga t.gn t.gc, .int .i64 t.sx, .int .i64 t.sy, .int .u32 t.head, .int .i64 t.laps]] w fun e w' => e = .returned (.tuple #[.pointer none, .int .i64 (rightFd t)]) ∧ Below w.heap.size w w' := by
 have Q0 := Lib.hid (PT.new 34 K hB)
 have XS := Lib.hid (fun (W : World) (Q : PT w W B w.heap.size t) => fShaped_any t B W Q.bz Q.t)
 by_cases hc : cntP t
 rotate_left
 ·have E : rightFd t = 42 := by unfold rightFd; rw [if_neg hc]
  rw [E]
  rw [decide_eq_false hc] at XS
  clear hc E k K
  go_enter Tryz.func131, Tryz.ntmps131
  go_wp2_with fail
  refine calls_gen (S := fun W => PT w W B w.heap.size t) Q0.out (fun W1 hS => ?_)
  have Q1 := Lib.hid hS
  clear hS Q0
  refine (XS.out _ Q1.out).mono ?_
  rintro e w2 ⟨rfl, h⟩
  have Q2 := Lib.hid (Q1.out.step h)
  clear h Q1 XS
  go_wp2
  go_ret2
  exact ⟨rfl, Q2.out.l⟩
 have ha : ¬ allP t := fun h => k (by unfold rightFd; rw [if_pos hc, if_pos h])
 have E : rightFd t = 40 := by unfold rightFd; rw [if_pos hc, if_neg ha]
 have XR := Lib.hid (fun (W : World) (Q : PT w W B w.heap.size t) => fInRange_any t B W Q.bz hc Q.t)
 rw [E]
 rw [decide_eq_true hc] at XS
 rw [decide_eq_false ha] at XR
 clear hc ha E k K
 go_enter Tryz.func131, Tryz.ntmps131
 go_wp2_with fail
 refine calls_gen (S := fun W => PT w W B w.heap.size t) Q0.out (fun W1 hS => ?_)
 have Q1 := Lib.hid hS
 clear hS Q0
 refine (XS.out _ Q1.out).mono ?_
 rintro e w2 ⟨rfl, h⟩
 have Q2 := Lib.hid (Q1.out.step h)
 clear h Q1 XS
 obtain ⟨q0, q1, q2, q3, q4, q5, q6, q7, q8, q9, q10, q11, q12, q13, q14, q15⟩ := Q2.out.all
 go_wp2_with fail
 refine (XR.out _ Q2.out).mono ?_
 rintro e w3 ⟨rfl, h⟩
 have Q3 := Lib.hid (Q2.out.step h)
 clear h Q2 XR q0 q1 q2 q3 q4 q5 q6 q7 q8 q9 q10 q11 q12 q13 q14 q15
 go_wp2
 go_ret2
 exact ⟨rfl, Q3.out.l⟩
set_option maxRecDepth 100000 in
set_option maxHeartbeats 4000000 in
theorem fNew_yes (t : Trk) (lo B : Nat) (w : World) (hB : B ≤ w.heap.size) (K : TrkM B w t) (hlo : lo ≤ w.heap.size) (k : rightFd t = 0) :
  Calls Tryz.prog 131 #[.agg #[.int .i64 t.rate, .int .i64 t.cell, .int .i64 t.cols, .int .i64 t.rows, .int .i64 t.cx, .int .i64 t.cy, .slice t.H.a t.H.n t.H.c, .slice t.G.a t.G.n t.G.c, .slice t.ka t.kn t.kc, .slice t.la t.ln t.lc, .slice t.ra t.rn t.rc, .slice t.ga t.gn t.gc, .int .i64 t.sx, .int .i64 t.sy, .int .u32 t.head, .int .i64 t.laps]] w fun e w' => (∃ f, e = .returned (.tuple #[.pointer (some ⟨f, 0, none⟩), .int .i64 0]) ∧ ∃ hb gb hc gc, FX lo w'.heap.size w' f hb gb hc gc t) ∧ Below w.heap.size w w' := by
 have Q0 := Lib.hid (PT.new 34 K hB)
 have HL := Lib.hid hlo
 have hc : cntP t := Classical.byContradiction fun h => by unfold rightFd at k; rw [if_neg h] at k; omega
 have ha : allP t := Classical.byContradiction fun h => by unfold rightFd at k; rw [if_pos hc, if_neg h] at k; omega
 have XS := Lib.hid (fun (W : World) (Q : PT w W B w.heap.size t) => fShaped_any t B W Q.bz Q.t)
 have XR := Lib.hid (fun (W : World) (Q : PT w W B w.heap.size t) => fInRange_any t B W Q.bz hc Q.t)
 have RR := Lib.hid (And.intro hc ha.1)
 have RP := Lib.hid (right_pos hc)
 have XH := Lib.hid (fun (W : World) (Q : PT w W B w.heap.size t) => show Calls Tryz.prog 152 #[.slice t.H.a t.H.n t.H.c] W fun e w' => ∃ u, e = .returned u ∧ OwnN W.heap.size w' u t.H.n t.H.v ∧ Below W.heap.size W w' by
  obtain ⟨b, off, ha, hb, hcell⟩ := Q.t.H.at' RP.out.1
  have := Q.bz
  have := RP.out.2.2.1
  rw [ha]
  exact fCloneF_any b off t.H.n t.H.c t.H.v W (by omega) RP.out.1 (by omega) hcell)
 have XG := Lib.hid (fun (W : World) (Q : PT w W B w.heap.size t) => show Calls Tryz.prog 153 #[.slice t.G.a t.G.n t.G.c] W fun e w' => ∃ u, e = .returned u ∧ OwnN W.heap.size w' u t.G.n t.G.v ∧ Below W.heap.size W w' by
  obtain ⟨b, off, ha, hb, hcell⟩ := Q.t.G.at' RP.out.2.1
  have := Q.bz
  have := RP.out.2.2.2
  rw [ha]
  exact fCloneI_any b off t.G.n t.G.c t.G.v W (by omega) RP.out.2.1 (by omega) hcell)
 rw [decide_eq_true hc] at XS
 rw [decide_eq_true ha] at XR
 clear hc ha k K hlo
 go_enter Tryz.func131, Tryz.ntmps131
 go_wp2_with fail
 refine calls_gen (S := fun W => PT w W B w.heap.size t) Q0.out (fun W1 hS => ?_)
 have Q1 := Lib.hid hS
 clear hS Q0
 refine (XS.out _ Q1.out).mono ?_
 rintro e w2 ⟨rfl, h⟩
 have Q2 := Lib.hid (Q1.out.step h)
 clear h Q1 XS
 obtain ⟨q0, q1, q2, q3, q4, q5, q6, q7, q8, q9, q10, q11, q12, q13, q14, q15⟩ := Q2.out.all
 go_wp2_with fail
 refine (XR.out _ Q2.out).mono ?_
 rintro e w3 ⟨rfl, h⟩
 have Q3 := Lib.hid (Q2.out.step h)
 clear h Q2 XR q0 q1 q2 q3 q4 q5 q6 q7 q8 q9 q10 q11 q12 q13 q14 q15
 go_wp2_with fail
 have Q4 := Lib.hid (Q3.out.step ((Below.refl _ _).drew))
 refine wp_region_held_drew (S := fun W => TKe w.heap.size t W) (by kernel_rfl) Q4.out.ke (fun hHeld => ?_)
 generalize World.drew _ = w4 at *
 clear Q3
 refine tkD 0 12 (v := ?_) ?_ hHeld ?_
 rotate_left 1
 (intro W hSw; (try dsimp only [TKe] at hSw); go_simp; try with_reducible rfl)
 (try simp only [putA, putB, putC, putD])
 refine tkD 1 13 (v := ?_) ?_ hHeld ?_
 rotate_left 1
 (intro W hSw; (try dsimp only [TKe] at hSw); go_simp; try with_reducible rfl)
 (try simp only [putA, putB, putC, putD])
 refine tkD 2 14 (v := ?_) ?_ hHeld ?_
 rotate_left 1
 (intro W hSw; (try dsimp only [TKe] at hSw); go_simp; try with_reducible rfl)
 (try simp only [putA, putB, putC, putD])
 refine tkD 3 15 (v := ?_) ?_ hHeld ?_
 rotate_left 1
 (intro W hSw; (try dsimp only [TKe] at hSw); go_simp; try with_reducible rfl)
 (try simp only [putA, putB, putC, putD])
 refine tkD 4 16 (v := ?_) ?_ hHeld ?_
 rotate_left 1
 (intro W hSw; (try dsimp only [TKe] at hSw); go_simp; try with_reducible rfl)
 (try simp only [putA, putB, putC, putD])
 refine tkD 5 17 (v := ?_) ?_ hHeld ?_
 rotate_left 1
 (intro W hSw; (try dsimp only [TKe] at hSw); go_simp; try with_reducible rfl)
 (try simp only [putA, putB, putC, putD])
 refine tkD 6 18 (v := ?_) ?_ hHeld ?_
 rotate_left 1
 (intro W hSw; (try dsimp only [TKe] at hSw); go_simp; try with_reducible rfl)
 (try simp only [putA, putB, putC, putD])
 refine tkD 7 19 (v := ?_) ?_ hHeld ?_
 rotate_left 1
 (intro W hSw; (try dsimp only [TKe] at hSw); go_simp; try with_reducible rfl)
 (try simp only [putA, putB, putC, putD])
 refine tkD 8 20 (v := ?_) ?_ hHeld ?_
 rotate_left 1
 (intro W hSw; (try dsimp only [TKe] at hSw); go_simp; try with_reducible rfl)
 (try simp only [putA, putB, putC, putD])
 refine tkD 9 21 (v := ?_) ?_ hHeld ?_
 rotate_left 1
 (intro W hSw; (try dsimp only [TKe] at hSw); go_simp; try with_reducible rfl)
 (try simp only [putA, putB, putC, putD])
 refine tkD 11 23 (v := ?_) ?_ hHeld ?_
 rotate_left 1
 (intro W hSw; (try dsimp only [TKe] at hSw); go_simp; try with_reducible rfl)
 (try simp only [putA, putB, putC, putD])
 refine tkD 12 24 (v := ?_) ?_ hHeld ?_
 rotate_left 1
 (intro W hSw; (try dsimp only [TKe] at hSw); go_simp; try with_reducible rfl)
 (try simp only [putA, putB, putC, putD])
 refine onlD 10 (fun K hK => ?_)
 go_simp
 refine (XH.out _ Q4.out).mono ?_
 rintro e w5 ⟨u, rfl, hu, h⟩
 have Q5 := Lib.hid (Q4.out.step h)
 obtain ⟨hb, hcp, rfl, hb1, hb2, hb3⟩ := hu
 have H5 := Lib.hid ((CpN.mk hb1 hb2 hb3).mono Q4.out.l.size)
 go_wp2_with fail
 refine hK.out _ _ (Q5.out.ke) ?_
 clear hK K hHeld
 intro hHeld
 clear h Q4 XH hb1 hb2 hb3
 refine onlD 13 (fun K hK => ?_)
 go_simp
 refine (XG.out _ Q5.out).mono ?_
 rintro e w6 ⟨u, rfl, hu, h⟩
 have Q6 := Lib.hid (Q5.out.step h)
 have H6 := Lib.hid (H5.out.step h)
 obtain ⟨gb, gcp, rfl, hb1, hb2, hb3⟩ := hu
 have G6 := Lib.hid ((CpN.mk hb1 hb2 hb3).mono Q5.out.l.size)
 go_wp2_with fail
 refine hK.out _ _ (Q6.out.ke) ?_
 clear hK K hHeld
 intro hHeld
 clear h Q5 H5 XG hb1 hb2 hb3
 refine tkD 14 26 (v := ?_) ?_ hHeld ?_
 rotate_left 1
 (intro W hSw; (try dsimp only [TKe] at hSw); go_simp; try with_reducible rfl)
 (try simp only [putA, putB, putC, putD])
 have F7 := Lib.hid (field_new (hc := hcp) (gc := gcp) Q6.out HL.out H6.out G6.out RR.out 211)
 have Q7 := Lib.hid (Q6.out.step ((Below.refl _ _).alloc (Nat.le_refl _) (.cells #[.int .i64 t.cell, .int .i64 t.cols, .int .i64 t.rows, .int .i64 t.cx, .int .i64 t.cy, .slice (some ⟨hb, 0, none⟩) t.H.n hcp, .slice (some ⟨gb, 0, none⟩) t.G.n gcp] 211)))
 refine onlD 15 (fun K hK => ?_)
 go_simp
 refine hK.out _ _ (Q7.out.ke) ?_
 clear hK K hHeld
 intro hHeld
 refine tkD 16 2 (v := ?_) ?_ hHeld ?_
 rotate_left 1
 (intro W hSw; (try dsimp only [TKe] at hSw); go_simp; try with_reducible rfl)
 (try simp only [putA, putB, putC, putD])
 refine tkD 17 3 (v := ?_) ?_ hHeld ?_
 rotate_left 1
 (intro W hSw; (try dsimp only [TKe] at hSw); go_simp; try with_reducible rfl)
 (try simp only [putA, putB, putC, putD])
 refine wpAnyH_done (by kernel_rfl) ?_ _
 clear hHeld
 go_wp2
 go_ret2
 exact ⟨⟨_, rfl, _, _, _, _, F7.out⟩, Q7.out.l⟩
end Go.Proofs.YtmdjnamkbekjkaaGreatDoor

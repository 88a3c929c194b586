/- -/
import Derived.Test.YtmdjnamkbekjkaaGreatDoorBu
import Derived.Test.YtmdjnamkbekjkaaGreatDoorBk
import Derived.Test.YtmdjnamkbekjkaaGreatDoorBj
namespace Go.Proofs.YtmdjnamkbekjkaaGreatDoor
open Go.RowKit
set_option linter.unusedVariables false
set_option linter.unusedSimpArgs false
def TKe (n : Nat) (t : Trk) (W : World) : Prop :=
 W.cell? ⟨n, 0, none⟩ = some (.int .i64 t.rate) ∧ W.cell? ⟨n, 1, none⟩ = some (.int .i64 t.cell) ∧ W.cell? ⟨n, 2, none⟩ = some (.int .i64 t.cols) ∧ W.cell? ⟨n, 3, none⟩ = some (.int .i64 t.rows) ∧ W.cell? ⟨n, 4, none⟩ = some (.int .i64 t.cx) ∧ W.cell? ⟨n, 5, none⟩ = some (.int .i64 t.cy) ∧ W.cell? ⟨n, 6, none⟩ = some (.slice t.H.a t.H.n t.H.c) ∧ W.cell? ⟨n, 7, none⟩ = some (.slice t.G.a t.G.n t.G.c) ∧ W.cell? ⟨n, 8, none⟩ = some (.slice t.ka t.kn t.kc) ∧ W.cell? ⟨n, 9, none⟩ = some (.slice t.la t.ln t.lc) ∧ W.cell? ⟨n, 10, none⟩ = some (.slice t.ra t.rn t.rc) ∧ W.cell? ⟨n, 11, none⟩ = some (.slice t.ga t.gn t.gc) ∧ W.cell? ⟨n, 12, none⟩ = some (.int .i64 t.sx) ∧ W.cell? ⟨n, 13, none⟩ = some (.int .i64 t.sy) ∧ W.cell? ⟨n, 14, none⟩ = some (.int .u32 t.head) ∧ W.cell? ⟨n, 15, none⟩ = some (.int .i64 t.laps)
theorem PT.ke {w W : World} {B m : Nat} {t : Trk} (Q : PT w W B m t) : TKe m t W := Q.all
theorem lie_new1 (W : World) (x : Int) (T : TypeId) : Lie (W.alloc (.cells #[.int .i64 x] T)) (some ⟨W.heap.size, 0, none⟩) 1 (fun _ => x) := Lie.one (World.cell?_alloc_new _ _ _ 0) (by simp)
theorem lie_new2 (W : World) (x y : Int) (T : TypeId) : Lie (W.alloc (.cells #[.int .i64 x, .int .i64 y] T)) (some ⟨W.heap.size, 0, none⟩) 2 (fun i => if i = 0 then x else y) := Lie.two (World.cell?_alloc_new _ _ _ 0) (World.cell?_alloc_new _ _ _ 1) (by simp)
theorem lie_nums {B : Nat} {W : World} {s : Sl} (N : Nums B W s) (h : B ≤ W.heap.size) : Lie W s.a s.n s.v := fun h0 => by
 obtain ⟨b, off, e, hb, hc⟩ := N.at' h0
 exact ⟨b, off, e, by omega, hc⟩
set_option maxRecDepth 100000 in
set_option maxHeartbeats 8000000 in
theorem fInRange_any (t : Trk) (B : Nat) (w : World) (hB : B ≤ w.heap.size) (hcn : cntP t) (K : TrkM B w t) :
  Calls Tryz.prog 151 #[.agg #[.int .i64 t.rate, .int .i64 t.cell, .int .i64 t.cols, .int .i64 t.rows, .int .i64 t.cx, .int .i64 t.cy, .slice t.H.a t.H.n t.H.c, .slice t.G.a t.G.n t.G.c, .slice t.ka t.kn t.kc, .slice t.la t.ln t.lc, .slice t.ra t.rn t.rc, .slice t.ga t.gn t.gc, .int .i64 t.sx, .int .i64 t.sy, .int .u32 t.head, .int .i64 t.laps]] w fun e w' => e = .returned (.bool (decide (allP t))) ∧ Below w.heap.size w w' := by
 have Q0 := Lib.hid (PT.new 34 K hB)
 obtain ⟨q, hq⟩ : ∃ q, decide (allP t) = q := ⟨_, rfl⟩
 rw [hq]
 have NF := Lib.hid (fun (h : ¬ allP t) => (show false = q by rw [← hq]; exact (decide_eq_false h).symm))
 have NY := Lib.hid (fun (h : allP t) => (show true = q by rw [← hq]; exact (decide_eq_true h).symm))
 obtain ⟨⟨m1, m2⟩, hn, hg, k1, k8⟩ := hcn
 obtain ⟨C, hC⟩ : ∃ C : Nat, t.cols = (C : Int) := ⟨t.cols.toNat, by omega⟩
 obtain ⟨R, hR⟩ : ∃ C : Nat, t.rows = (C : Int) := ⟨t.rows.toNat, by omega⟩
 have g4 := mul_64 (a := t.cols) (b := t.rows) (by omega) (by omega) (by omega) (by omega)
 have h4 := mul_64 (a := t.cols + 1) (b := t.rows + 1) (by omega) (by omega) (by omega) (by omega)
 rw [← hg] at g4
 rw [← hn] at h4
 have hn' : t.H.n = (C + 1) * (R + 1) := by
  rw [hC, hR] at hn
  exact_mod_cast hn
 have eC : t.cols.toNat = C := by omega
 have eR : t.rows.toNat = R := by omega
 have DA := Lib.hid (dif_all t C R (by omega) hn' t.H.n (Nat.le_refl _))
 have HG := Lib.hid (show hgtP t ↔ (∀ i, i < t.H.n → inH (t.H.v i)) ∧ ∀ i, i < t.H.n → adjX t C i ∧ adjY t C R i by unfold hgtP; rw [eC, eR])
 have XD := Lib.hid (fun (W : World) (Q : PT w W B w.heap.size t) (ih : ∀ i, i < t.H.n → inH (t.H.v i)) => fDiff_any t C R B W Q.bz hC hR (by omega) (by omega) hn' ih Q.t)
 have XF := Lib.hid (fun (W : World) (Q : PT w W B w.heap.size t) => fFair_any t B W Q.bz (by omega) Q.t)
 obtain ⟨u2, u3⟩ := wrap_in' (n := (t.kn : Int) - 1) (by unfold In64; omega)
 have hHn : t.H.n ≤ 4225 := by omega
 have hGn : t.G.n ≤ 100000 := by omega
 clear hq K hB hC hR hn hg hn' eC eR g4 h4 m1 m2
 go_enter Tryz.func151, Tryz.ntmps151
 go_wp2_with fail
 refine wp_gen (S := fun W => PT w W B w.heap.size t) Q0.out (fun W1 hS => ?_)
 have Q1 := Lib.hid (hS.step ((Below.refl _ _).drew))
 clear hS Q0
 refine wp_region_held_drew (S := fun W => TKe w.heap.size t W) (by kernel_rfl) Q1.out.ke (fun hHeld => ?_)
 generalize World.drew _ = w1 at *
 refine tkD 0 3 (v := ?_) ?_ hHeld ?_
 rotate_left 1
 (intro W hSw; (try dsimp only [TKe] at hSw); go_simp; try with_reducible rfl)
 (try simp only [putA, putB, putC, putD])
 refine tkD 1 4 (v := ?_) ?_ hHeld ?_
 rotate_left 1
 (intro W hSw; (try dsimp only [TKe] at hSw); go_simp; try with_reducible rfl)
 (try simp only [putA, putB, putC, putD])
 refine onlD 2 (fun K hK => ?_)
 go_simp
 refine hK.out _ _ ((Q1.out.step ((Below.refl _ _).alloc (Nat.le_refl _) (.cells #[.int .i64 t.cell] 22))).ke) ?_
 clear hK K hHeld
 intro hHeld
 have L2 := Lib.hid (lie_new1 w1 t.cell 22)
 have Q2 := Lib.hid (Q1.out.step ((Below.refl _ _).alloc (Nat.le_refl _) (.cells #[.int .i64 t.cell] 22)))
 generalize w1.alloc (.cells #[.int .i64 t.cell] 22) = w2 at *
 generalize w1.heap.size = n2 at *
 clear Q1
 refine onlD 3 (fun K hK => ?_)
 go_simp
 refine (fWithinF_any _ 1 1 (fun _ => t.cell) 17179869184 274877906944 _ (by omega) L2.out).mono ?_
 rintro e x ⟨rfl, hx⟩
 obtain rfl := hx.symm
 clear hx
 rw [allW_one]
 by_cases s1 : 17179869184 ≤ t.cell ∧ t.cell ≤ 274877906944
 rotate_left
 ·skip
  rw [decide_eq_false s1]
  have E := Lib.hid (NF.out (fun k => s1 k.1.1))
  clear NF NY s1
  go_wp2_with fail
  refine hK.out _ _ (Q2.out.ke) ?_
  clear hK K hHeld
  intro hHeld
  refine tkD 4 7 (v := ?_) ?_ hHeld ?_
  rotate_left 1
  (intro W hSw; (try dsimp only [TKe] at hSw); go_simp; try with_reducible rfl)
  (try simp only [putA, putB, putC, putD])
  refine wpAnyH_skipD 5 8 (by kernel_rfl) (by kernel_rfl) (by kernel_rfl) (by kernel_rfl) (by rfl) (fun _ _ _ h => h) hHeld ?_
  (try simp only [putA, putB, putC, putD])
  refine wpAnyH_skipD 6 9 (by kernel_rfl) (by kernel_rfl) (by kernel_rfl) (by kernel_rfl) (by rfl) (fun _ _ _ h => h) hHeld ?_
  (try simp only [putA, putB, putC, putD])
  refine wpAnyH_skipD 7 10 (by kernel_rfl) (by kernel_rfl) (by kernel_rfl) (by kernel_rfl) (by rfl) (fun _ _ _ h => h) hHeld ?_
  (try simp only [putA, putB, putC, putD])
  refine wpAnyH_skipD 8 11 (by kernel_rfl) (by kernel_rfl) (by kernel_rfl) (by kernel_rfl) (by rfl) (fun _ _ _ h => h) hHeld ?_
  (try simp only [putA, putB, putC, putD])
  refine wpAnyH_skipD 9 12 (by kernel_rfl) (by kernel_rfl) (by kernel_rfl) (by kernel_rfl) (by rfl) (fun _ _ _ h => h) hHeld ?_
  (try simp only [putA, putB, putC, putD])
  refine wpAnyH_skipD 10 13 (by kernel_rfl) (by kernel_rfl) (by kernel_rfl) (by kernel_rfl) (by rfl) (fun _ _ _ h => h) hHeld ?_
  (try simp only [putA, putB, putC, putD])
  refine wpAnyH_skipD 11 14 (by kernel_rfl) (by kernel_rfl) (by kernel_rfl) (by kernel_rfl) (by rfl) (fun _ _ _ h => h) hHeld ?_
  (try simp only [putA, putB, putC, putD])
  refine wpAnyH_skipD 12 15 (by kernel_rfl) (by kernel_rfl) (by kernel_rfl) (by kernel_rfl) (by rfl) (fun _ _ _ h => h) hHeld ?_
  (try simp only [putA, putB, putC, putD])
  refine tkD 13 16 (v := ?_) ?_ hHeld ?_
  rotate_left 1
  (intro W hSw; (try dsimp only [TKe] at hSw); go_simp; try with_reducible rfl)
  (try simp only [putA, putB, putC, putD])
  refine tkD 14 17 (v := ?_) ?_ hHeld ?_
  rotate_left 1
  (intro W hSw; (try dsimp only [TKe] at hSw); go_simp; try with_reducible rfl)
  (try simp only [putA, putB, putC, putD])
  refine wpAnyH_skipD 15 18 (by kernel_rfl) (by kernel_rfl) (by kernel_rfl) (by kernel_rfl) (by rfl) (fun _ _ _ h => h) hHeld ?_
  (try simp only [putA, putB, putC, putD])
  refine wpAnyH_skipD 16 19 (by kernel_rfl) (by kernel_rfl) (by kernel_rfl) (by kernel_rfl) (by rfl) (fun _ _ _ h => h) hHeld ?_
  (try simp only [putA, putB, putC, putD])
  refine wpAnyH_skipD 17 20 (by kernel_rfl) (by kernel_rfl) (by kernel_rfl) (by kernel_rfl) (by rfl) (fun _ _ _ h => h) hHeld ?_
  (try simp only [putA, putB, putC, putD])
  refine tkD 18 21 (v := ?_) ?_ hHeld ?_
  rotate_left 1
  (intro W hSw; (try dsimp only [TKe] at hSw); go_simp; try with_reducible rfl)
  (try simp only [putA, putB, putC, putD])
  refine tkD 19 22 (v := ?_) ?_ hHeld ?_
  rotate_left 1
  (intro W hSw; (try dsimp only [TKe] at hSw); go_simp; try with_reducible rfl)
  (try simp only [putA, putB, putC, putD])
  refine wpAnyH_skipD 20 23 (by kernel_rfl) (by kernel_rfl) (by kernel_rfl) (by kernel_rfl) (by rfl) (fun _ _ _ h => h) hHeld ?_
  (try simp only [putA, putB, putC, putD])
  refine wpAnyH_skipD 21 24 (by kernel_rfl) (by kernel_rfl) (by kernel_rfl) (by kernel_rfl) (by rfl) (fun _ _ _ h => h) hHeld ?_
  (try simp only [putA, putB, putC, putD])
  refine wpAnyH_skipD 22 25 (by kernel_rfl) (by kernel_rfl) (by kernel_rfl) (by kernel_rfl) (by rfl) (fun _ _ _ h => h) hHeld ?_
  (try simp only [putA, putB, putC, putD])
  refine wpAnyH_skipD 23 26 (by kernel_rfl) (by kernel_rfl) (by kernel_rfl) (by kernel_rfl) (by rfl) (fun _ _ _ h => h) hHeld ?_
  (try simp only [putA, putB, putC, putD])
  refine wpAnyH_skipD 24 27 (by kernel_rfl) (by kernel_rfl) (by kernel_rfl) (by kernel_rfl) (by rfl) (fun _ _ _ h => h) hHeld ?_
  (try simp only [putA, putB, putC, putD])
  refine wpAnyH_skipD 25 28 (by kernel_rfl) (by kernel_rfl) (by kernel_rfl) (by kernel_rfl) (by rfl) (fun _ _ _ h => h) hHeld ?_
  (try simp only [putA, putB, putC, putD])
  refine wpAnyH_skipD 26 29 (by kernel_rfl) (by kernel_rfl) (by kernel_rfl) (by kernel_rfl) (by rfl) (fun _ _ _ h => h) hHeld ?_
  (try simp only [putA, putB, putC, putD])
  refine wpAnyH_skipD 27 30 (by kernel_rfl) (by kernel_rfl) (by kernel_rfl) (by kernel_rfl) (by rfl) (fun _ _ _ h => h) hHeld ?_
  (try simp only [putA, putB, putC, putD])
  refine tkD 28 31 (v := ?_) ?_ hHeld ?_
  rotate_left 1
  (intro W hSw; (try dsimp only [TKe] at hSw); go_simp; try with_reducible rfl)
  (try simp only [putA, putB, putC, putD])
  refine tkD 29 32 (v := ?_) ?_ hHeld ?_
  rotate_left 1
  (intro W hSw; (try dsimp only [TKe] at hSw); go_simp; try with_reducible rfl)
  (try simp only [putA, putB, putC, putD])
  refine wpAnyH_skipD 30 33 (by kernel_rfl) (by kernel_rfl) (by kernel_rfl) (by kernel_rfl) (by rfl) (fun _ _ _ h => h) hHeld ?_
  (try simp only [putA, putB, putC, putD])
  refine wpAnyH_skipD 31 34 (by kernel_rfl) (by kernel_rfl) (by kernel_rfl) (by kernel_rfl) (by rfl) (fun _ _ _ h => h) hHeld ?_
  (try simp only [putA, putB, putC, putD])
  refine wpAnyH_skipD 32 35 (by kernel_rfl) (by kernel_rfl) (by kernel_rfl) (by kernel_rfl) (by rfl) (fun _ _ _ h => h) hHeld ?_
  (try simp only [putA, putB, putC, putD])
  refine wpAnyH_skipD 33 36 (by kernel_rfl) (by kernel_rfl) (by kernel_rfl) (by kernel_rfl) (by rfl) (fun _ _ _ h => h) hHeld ?_
  (try simp only [putA, putB, putC, putD])
  refine wpAnyH_skipD 34 37 (by kernel_rfl) (by kernel_rfl) (by kernel_rfl) (by kernel_rfl) (by rfl) (fun _ _ _ h => h) hHeld ?_
  (try simp only [putA, putB, putC, putD])
  refine wpAnyH_skipD 35 38 (by kernel_rfl) (by kernel_rfl) (by kernel_rfl) (by kernel_rfl) (by rfl) (fun _ _ _ h => h) hHeld ?_
  (try simp only [putA, putB, putC, putD])
  refine wpAnyH_skipD 36 39 (by kernel_rfl) (by kernel_rfl) (by kernel_rfl) (by kernel_rfl) (by rfl) (fun _ _ _ h => h) hHeld ?_
  (try simp only [putA, putB, putC, putD])
  refine tkD 37 40 (v := ?_) ?_ hHeld ?_
  rotate_left 1
  (intro W hSw; (try dsimp only [TKe] at hSw); go_simp; try with_reducible rfl)
  (try simp only [putA, putB, putC, putD])
  refine tkD 38 41 (v := ?_) ?_ hHeld ?_
  rotate_left 1
  (intro W hSw; (try dsimp only [TKe] at hSw); go_simp; try with_reducible rfl)
  (try simp only [putA, putB, putC, putD])
  refine wpAnyH_skipD 39 42 (by kernel_rfl) (by kernel_rfl) (by kernel_rfl) (by kernel_rfl) (by rfl) (fun _ _ _ h => h) hHeld ?_
  (try simp only [putA, putB, putC, putD])
  refine wpAnyH_skipD 40 43 (by kernel_rfl) (by kernel_rfl) (by kernel_rfl) (by kernel_rfl) (by rfl) (fun _ _ _ h => h) hHeld ?_
  (try simp only [putA, putB, putC, putD])
  refine wpAnyH_skipD 41 44 (by kernel_rfl) (by kernel_rfl) (by kernel_rfl) (by kernel_rfl) (by rfl) (fun _ _ _ h => h) hHeld ?_
  (try simp only [putA, putB, putC, putD])
  refine tkD 42 45 (v := ?_) ?_ hHeld ?_
  rotate_left 1
  (intro W hSw; (try dsimp only [TKe] at hSw); go_simp; try with_reducible rfl)
  (try simp only [putA, putB, putC, putD])
  refine tkD 43 2 (v := ?_) ?_ hHeld ?_
  rotate_left 1
  (intro W hSw; (try dsimp only [TKe] at hSw); go_simp; try with_reducible rfl)
  (try simp only [putA, putB, putC, putD])
  refine wpAnyH_done (by kernel_rfl) ?_ _
  clear hHeld
  go_wp2
  go_ret
  exact ⟨by rw [← E.out]; rfl, Q2.out.l⟩
 rw [decide_eq_true s1]
 go_wp2_with fail
 refine hK.out _ _ (Q2.out.ke) ?_
 clear hK K hHeld
 intro hHeld
 obtain ⟨u0, u1⟩ := wrap_in' (n := -t.cell) (by unfold In64; omega)
 clear L2
 refine tkD 4 7 (v := ?_) ?_ hHeld ?_
 rotate_left 1
 (intro W hSw; (try dsimp only [TKe] at hSw); go_simp; try with_reducible rfl)
 (try simp only [putA, putB, putC, putD])
 refine tkD 5 8 (v := ?_) ?_ hHeld ?_
 rotate_left 1
 (intro W hSw; (try dsimp only [TKe] at hSw); go_simp; try with_reducible rfl)
 (try simp only [putA, putB, putC, putD])
 refine tkD 6 9 (v := ?_) ?_ hHeld ?_
 rotate_left 1
 (intro W hSw; (try dsimp only [TKe] at hSw); go_simp; try with_reducible rfl)
 (try simp only [putA, putB, putC, putD])
 refine tkD 7 10 (v := ?_) ?_ hHeld ?_
 rotate_left 1
 (intro W hSw; (try dsimp only [TKe] at hSw); go_simp; try with_reducible rfl)
 (try simp only [putA, putB, putC, putD])
 refine tkD 8 11 (v := ?_) ?_ hHeld ?_
 rotate_left 1
 (intro W hSw; (try dsimp only [TKe] at hSw); go_simp; try with_reducible rfl)
 (try simp only [putA, putB, putC, putD])
 refine tkD 9 12 (v := ?_) ?_ hHeld ?_
 rotate_left 1
 (intro W hSw; (try dsimp only [TKe] at hSw); go_simp; try with_reducible rfl)
 (try simp only [putA, putB, putC, putD])
 refine tkD 10 13 (v := ?_) ?_ hHeld ?_
 rotate_left 1
 (intro W hSw; (try dsimp only [TKe] at hSw); go_simp; try with_reducible rfl)
 (try simp only [putA, putB, putC, putD])
 refine onlD 11 (fun K hK => ?_)
 go_simp
 refine hK.out _ _ ((Q2.out.step ((Below.refl _ _).alloc (Nat.le_refl _) (.cells #[.int .i64 t.cx, .int .i64 t.cy] 22))).ke) ?_
 clear hK K hHeld
 intro hHeld
 have L3 := Lib.hid (lie_new2 w2 t.cx t.cy 22)
 have Q3 := Lib.hid (Q2.out.step ((Below.refl _ _).alloc (Nat.le_refl _) (.cells #[.int .i64 t.cx, .int .i64 t.cy] 22)))
 generalize w2.alloc (.cells #[.int .i64 t.cx, .int .i64 t.cy] 22) = w3 at *
 generalize w2.heap.size = n3 at *
 clear Q2
 refine onlD 12 (fun K hK => ?_)
 go_simp
 refine (fWithinF_any _ 2 2 (fun i => if i = 0 then t.cx else t.cy) (-140737488355328) 140737488355328 _ (by omega) L3.out).mono ?_
 rintro e x ⟨rfl, hx⟩
 obtain rfl := hx.symm
 clear hx
 rw [allW_two]
 by_cases s2 : (-140737488355328 ≤ t.cx ∧ t.cx ≤ 140737488355328) ∧ -140737488355328 ≤ t.cy ∧ t.cy ≤ 140737488355328
 rotate_left
 ·skip
  rw [decide_eq_false s2]
  have E := Lib.hid (NF.out (fun k => s2 ⟨k.1.2.1, k.1.2.2.1⟩))
  clear NF NY s2
  go_wp2_with fail
  refine hK.out _ _ (Q3.out.ke) ?_
  clear hK K hHeld
  intro hHeld
  refine tkD 13 16 (v := ?_) ?_ hHeld ?_
  rotate_left 1
  (intro W hSw; (try dsimp only [TKe] at hSw); go_simp; try with_reducible rfl)
  (try simp only [putA, putB, putC, putD])
  refine tkD 14 17 (v := ?_) ?_ hHeld ?_
  rotate_left 1
  (intro W hSw; (try dsimp only [TKe] at hSw); go_simp; try with_reducible rfl)
  (try simp only [putA, putB, putC, putD])
  refine wpAnyH_skipD 15 18 (by kernel_rfl) (by kernel_rfl) (by kernel_rfl) (by kernel_rfl) (by rfl) (fun _ _ _ h => h) hHeld ?_
  (try simp only [putA, putB, putC, putD])
  refine wpAnyH_skipD 16 19 (by kernel_rfl) (by kernel_rfl) (by kernel_rfl) (by kernel_rfl) (by rfl) (fun _ _ _ h => h) hHeld ?_
  (try simp only [putA, putB, putC, putD])
  refine wpAnyH_skipD 17 20 (by kernel_rfl) (by kernel_rfl) (by kernel_rfl) (by kernel_rfl) (by rfl) (fun _ _ _ h => h) hHeld ?_
  (try simp only [putA, putB, putC, putD])
  refine tkD 18 21 (v := ?_) ?_ hHeld ?_
  rotate_left 1
  (intro W hSw; (try dsimp only [TKe] at hSw); go_simp; try with_reducible rfl)
  (try simp only [putA, putB, putC, putD])
  refine tkD 19 22 (v := ?_) ?_ hHeld ?_
  rotate_left 1
  (intro W hSw; (try dsimp only [TKe] at hSw); go_simp; try with_reducible rfl)
  (try simp only [putA, putB, putC, putD])
  refine wpAnyH_skipD 20 23 (by kernel_rfl) (by kernel_rfl) (by kernel_rfl) (by kernel_rfl) (by rfl) (fun _ _ _ h => h) hHeld ?_
  (try simp only [putA, putB, putC, putD])
  refine wpAnyH_skipD 21 24 (by kernel_rfl) (by kernel_rfl) (by kernel_rfl) (by kernel_rfl) (by rfl) (fun _ _ _ h => h) hHeld ?_
  (try simp only [putA, putB, putC, putD])
  refine wpAnyH_skipD 22 25 (by kernel_rfl) (by kernel_rfl) (by kernel_rfl) (by kernel_rfl) (by rfl) (fun _ _ _ h => h) hHeld ?_
  (try simp only [putA, putB, putC, putD])
  refine wpAnyH_skipD 23 26 (by kernel_rfl) (by kernel_rfl) (by kernel_rfl) (by kernel_rfl) (by rfl) (fun _ _ _ h => h) hHeld ?_
  (try simp only [putA, putB, putC, putD])
  refine wpAnyH_skipD 24 27 (by kernel_rfl) (by kernel_rfl) (by kernel_rfl) (by kernel_rfl) (by rfl) (fun _ _ _ h => h) hHeld ?_
  (try simp only [putA, putB, putC, putD])
  refine wpAnyH_skipD 25 28 (by kernel_rfl) (by kernel_rfl) (by kernel_rfl) (by kernel_rfl) (by rfl) (fun _ _ _ h => h) hHeld ?_
  (try simp only [putA, putB, putC, putD])
  refine wpAnyH_skipD 26 29 (by kernel_rfl) (by kernel_rfl) (by kernel_rfl) (by kernel_rfl) (by rfl) (fun _ _ _ h => h) hHeld ?_
  (try simp only [putA, putB, putC, putD])
  refine wpAnyH_skipD 27 30 (by kernel_rfl) (by kernel_rfl) (by kernel_rfl) (by kernel_rfl) (by rfl) (fun _ _ _ h => h) hHeld ?_
  (try simp only [putA, putB, putC, putD])
  refine tkD 28 31 (v := ?_) ?_ hHeld ?_
  rotate_left 1
  (intro W hSw; (try dsimp only [TKe] at hSw); go_simp; try with_reducible rfl)
  (try simp only [putA, putB, putC, putD])
  refine tkD 29 32 (v := ?_) ?_ hHeld ?_
  rotate_left 1
  (intro W hSw; (try dsimp only [TKe] at hSw); go_simp; try with_reducible rfl)
  (try simp only [putA, putB, putC, putD])
  refine wpAnyH_skipD 30 33 (by kernel_rfl) (by kernel_rfl) (by kernel_rfl) (by kernel_rfl) (by rfl) (fun _ _ _ h => h) hHeld ?_
  (try simp only [putA, putB, putC, putD])
  refine wpAnyH_skipD 31 34 (by kernel_rfl) (by kernel_rfl) (by kernel_rfl) (by kernel_rfl) (by rfl) (fun _ _ _ h => h) hHeld ?_
  (try simp only [putA, putB, putC, putD])
  refine wpAnyH_skipD 32 35 (by kernel_rfl) (by kernel_rfl) (by kernel_rfl) (by kernel_rfl) (by rfl) (fun _ _ _ h => h) hHeld ?_
  (try simp only [putA, putB, putC, putD])
  refine wpAnyH_skipD 33 36 (by kernel_rfl) (by kernel_rfl) (by kernel_rfl) (by kernel_rfl) (by rfl) (fun _ _ _ h => h) hHeld ?_
  (try simp only [putA, putB, putC, putD])
  refine wpAnyH_skipD 34 37 (by kernel_rfl) (by kernel_rfl) (by kernel_rfl) (by kernel_rfl) (by rfl) (fun _ _ _ h => h) hHeld ?_
  (try simp only [putA, putB, putC, putD])
  refine wpAnyH_skipD 35 38 (by kernel_rfl) (by kernel_rfl) (by kernel_rfl) (by kernel_rfl) (by rfl) (fun _ _ _ h => h) hHeld ?_
  (try simp only [putA, putB, putC, putD])
  refine wpAnyH_skipD 36 39 (by kernel_rfl) (by kernel_rfl) (by kernel_rfl) (by kernel_rfl) (by rfl) (fun _ _ _ h => h) hHeld ?_
  (try simp only [putA, putB, putC, putD])
  refine tkD 37 40 (v := ?_) ?_ hHeld ?_
  rotate_left 1
  (intro W hSw; (try dsimp only [TKe] at hSw); go_simp; try with_reducible rfl)
  (try simp only [putA, putB, putC, putD])
  refine tkD 38 41 (v := ?_) ?_ hHeld ?_
  rotate_left 1
  (intro W hSw; (try dsimp only [TKe] at hSw); go_simp; try with_reducible rfl)
  (try simp only [putA, putB, putC, putD])
  refine wpAnyH_skipD 39 42 (by kernel_rfl) (by kernel_rfl) (by kernel_rfl) (by kernel_rfl) (by rfl) (fun _ _ _ h => h) hHeld ?_
  (try simp only [putA, putB, putC, putD])
  refine wpAnyH_skipD 40 43 (by kernel_rfl) (by kernel_rfl) (by kernel_rfl) (by kernel_rfl) (by rfl) (fun _ _ _ h => h) hHeld ?_
  (try simp only [putA, putB, putC, putD])
  refine wpAnyH_skipD 41 44 (by kernel_rfl) (by kernel_rfl) (by kernel_rfl) (by kernel_rfl) (by rfl) (fun _ _ _ h => h) hHeld ?_
  (try simp only [putA, putB, putC, putD])
  refine tkD 42 45 (v := ?_) ?_ hHeld ?_
  rotate_left 1
  (intro W hSw; (try dsimp only [TKe] at hSw); go_simp; try with_reducible rfl)
  (try simp only [putA, putB, putC, putD])
  refine tkD 43 2 (v := ?_) ?_ hHeld ?_
  rotate_left 1
  (intro W hSw; (try dsimp only [TKe] at hSw); go_simp; try with_reducible rfl)
  (try simp only [putA, putB, putC, putD])
  refine wpAnyH_done (by kernel_rfl) ?_ _
  clear hHeld
  go_wp2
  go_ret
  exact ⟨by rw [← E.out]; rfl, Q3.out.l⟩
 rw [decide_eq_true s2]
 go_wp2_with fail
 refine hK.out _ _ (Q3.out.ke) ?_
 clear hK K hHeld
 intro hHeld
 clear L3
 refine tkD 13 16 (v := ?_) ?_ hHeld ?_
 rotate_left 1
 (intro W hSw; (try dsimp only [TKe] at hSw); go_simp; try with_reducible rfl)
 (try simp only [putA, putB, putC, putD])
 refine tkD 14 17 (v := ?_) ?_ hHeld ?_
 rotate_left 1
 (intro W hSw; (try dsimp only [TKe] at hSw); go_simp; try with_reducible rfl)
 (try simp only [putA, putB, putC, putD])
 refine tkD 15 18 (v := ?_) ?_ hHeld ?_
 rotate_left 1
 (intro W hSw; (try dsimp only [TKe] at hSw); go_simp; try with_reducible rfl)
 (try simp only [putA, putB, putC, putD])
 refine tkD 16 19 (v := ?_) ?_ hHeld ?_
 rotate_left 1
 (intro W hSw; (try dsimp only [TKe] at hSw); go_simp; try with_reducible rfl)
 (try simp only [putA, putB, putC, putD])
 refine onlD 17 (fun K hK => ?_)
 go_simp
 refine (fWithinF_any t.H.a t.H.n t.H.c t.H.v (-2199023255552) 2199023255552 _ (by omega) (lie_nums Q3.out.t.H Q3.out.bz)).mono ?_
 rintro e x ⟨rfl, hx⟩
 obtain rfl := hx.symm
 clear hx
 by_cases s3 : allW t.H.v t.H.n (-2199023255552) 2199023255552
 rotate_left
 ·skip
  rw [decide_eq_false s3]
  have E := Lib.hid (NF.out (fun k => s3 ((HG.out.mp k.1.2.2.2).1)))
  clear NF NY s3
  go_wp2_with fail
  refine hK.out _ _ (Q3.out.ke) ?_
  clear hK K hHeld
  intro hHeld
  refine tkD 18 21 (v := ?_) ?_ hHeld ?_
  rotate_left 1
  (intro W hSw; (try dsimp only [TKe] at hSw); go_simp; try with_reducible rfl)
  (try simp only [putA, putB, putC, putD])
  refine tkD 19 22 (v := ?_) ?_ hHeld ?_
  rotate_left 1
  (intro W hSw; (try dsimp only [TKe] at hSw); go_simp; try with_reducible rfl)
  (try simp only [putA, putB, putC, putD])
  refine wpAnyH_skipD 20 23 (by kernel_rfl) (by kernel_rfl) (by kernel_rfl) (by kernel_rfl) (by rfl) (fun _ _ _ h => h) hHeld ?_
  (try simp only [putA, putB, putC, putD])
  refine wpAnyH_skipD 21 24 (by kernel_rfl) (by kernel_rfl) (by kernel_rfl) (by kernel_rfl) (by rfl) (fun _ _ _ h => h) hHeld ?_
  (try simp only [putA, putB, putC, putD])
  refine wpAnyH_skipD 22 25 (by kernel_rfl) (by kernel_rfl) (by kernel_rfl) (by kernel_rfl) (by rfl) (fun _ _ _ h => h) hHeld ?_
  (try simp only [putA, putB, putC, putD])
  refine wpAnyH_skipD 23 26 (by kernel_rfl) (by kernel_rfl) (by kernel_rfl) (by kernel_rfl) (by rfl) (fun _ _ _ h => h) hHeld ?_
  (try simp only [putA, putB, putC, putD])
  refine wpAnyH_skipD 24 27 (by kernel_rfl) (by kernel_rfl) (by kernel_rfl) (by kernel_rfl) (by rfl) (fun _ _ _ h => h) hHeld ?_
  (try simp only [putA, putB, putC, putD])
  refine wpAnyH_skipD 25 28 (by kernel_rfl) (by kernel_rfl) (by kernel_rfl) (by kernel_rfl) (by rfl) (fun _ _ _ h => h) hHeld ?_
  (try simp only [putA, putB, putC, putD])
  refine wpAnyH_skipD 26 29 (by kernel_rfl) (by kernel_rfl) (by kernel_rfl) (by kernel_rfl) (by rfl) (fun _ _ _ h => h) hHeld ?_
  (try simp only [putA, putB, putC, putD])
  refine wpAnyH_skipD 27 30 (by kernel_rfl) (by kernel_rfl) (by kernel_rfl) (by kernel_rfl) (by rfl) (fun _ _ _ h => h) hHeld ?_
  (try simp only [putA, putB, putC, putD])
  refine tkD 28 31 (v := ?_) ?_ hHeld ?_
  rotate_left 1
  (intro W hSw; (try dsimp only [TKe] at hSw); go_simp; try with_reducible rfl)
  (try simp only [putA, putB, putC, putD])
  refine tkD 29 32 (v := ?_) ?_ hHeld ?_
  rotate_left 1
  (intro W hSw; (try dsimp only [TKe] at hSw); go_simp; try with_reducible rfl)
  (try simp only [putA, putB, putC, putD])
  refine wpAnyH_skipD 30 33 (by kernel_rfl) (by kernel_rfl) (by kernel_rfl) (by kernel_rfl) (by rfl) (fun _ _ _ h => h) hHeld ?_
  (try simp only [putA, putB, putC, putD])
  refine wpAnyH_skipD 31 34 (by kernel_rfl) (by kernel_rfl) (by kernel_rfl) (by kernel_rfl) (by rfl) (fun _ _ _ h => h) hHeld ?_
  (try simp only [putA, putB, putC, putD])
  refine wpAnyH_skipD 32 35 (by kernel_rfl) (by kernel_rfl) (by kernel_rfl) (by kernel_rfl) (by rfl) (fun _ _ _ h => h) hHeld ?_
  (try simp only [putA, putB, putC, putD])
  refine wpAnyH_skipD 33 36 (by kernel_rfl) (by kernel_rfl) (by kernel_rfl) (by kernel_rfl) (by rfl) (fun _ _ _ h => h) hHeld ?_
  (try simp only [putA, putB, putC, putD])
  refine wpAnyH_skipD 34 37 (by kernel_rfl) (by kernel_rfl) (by kernel_rfl) (by kernel_rfl) (by rfl) (fun _ _ _ h => h) hHeld ?_
  (try simp only [putA, putB, putC, putD])
  refine wpAnyH_skipD 35 38 (by kernel_rfl) (by kernel_rfl) (by kernel_rfl) (by kernel_rfl) (by rfl) (fun _ _ _ h => h) hHeld ?_
  (try simp only [putA, putB, putC, putD])
  refine wpAnyH_skipD 36 39 (by kernel_rfl) (by kernel_rfl) (by kernel_rfl) (by kernel_rfl) (by rfl) (fun _ _ _ h => h) hHeld ?_
  (try simp only [putA, putB, putC, putD])
  refine tkD 37 40 (v := ?_) ?_ hHeld ?_
  rotate_left 1
  (intro W hSw; (try dsimp only [TKe] at hSw); go_simp; try with_reducible rfl)
  (try simp only [putA, putB, putC, putD])
  refine tkD 38 41 (v := ?_) ?_ hHeld ?_
  rotate_left 1
  (intro W hSw; (try dsimp only [TKe] at hSw); go_simp; try with_reducible rfl)
  (try simp only [putA, putB, putC, putD])
  refine wpAnyH_skipD 39 42 (by kernel_rfl) (by kernel_rfl) (by kernel_rfl) (by kernel_rfl) (by rfl) (fun _ _ _ h => h) hHeld ?_
  (try simp only [putA, putB, putC, putD])
  refine wpAnyH_skipD 40 43 (by kernel_rfl) (by kernel_rfl) (by kernel_rfl) (by kernel_rfl) (by rfl) (fun _ _ _ h => h) hHeld ?_
  (try simp only [putA, putB, putC, putD])
  refine wpAnyH_skipD 41 44 (by kernel_rfl) (by kernel_rfl) (by kernel_rfl) (by kernel_rfl) (by rfl) (fun _ _ _ h => h) hHeld ?_
  (try simp only [putA, putB, putC, putD])
  refine tkD 42 45 (v := ?_) ?_ hHeld ?_
  rotate_left 1
  (intro W hSw; (try dsimp only [TKe] at hSw); go_simp; try with_reducible rfl)
  (try simp only [putA, putB, putC, putD])
  refine tkD 43 2 (v := ?_) ?_ hHeld ?_
  rotate_left 1
  (intro W hSw; (try dsimp only [TKe] at hSw); go_simp; try with_reducible rfl)
  (try simp only [putA, putB, putC, putD])
  refine wpAnyH_done (by kernel_rfl) ?_ _
  clear hHeld
  go_wp2
  go_ret
  exact ⟨by rw [← E.out]; rfl, Q3.out.l⟩
 rw [decide_eq_true s3]
 go_wp2_with fail
 refine hK.out _ _ (Q3.out.ke) ?_
 clear hK K hHeld
 intro hHeld
 refine tkD 18 21 (v := ?_) ?_ hHeld ?_
 rotate_left 1
 (intro W hSw; (try dsimp only [TKe] at hSw); go_simp; try with_reducible rfl)
 (try simp only [putA, putB, putC, putD])
 refine tkD 19 22 (v := ?_) ?_ hHeld ?_
 rotate_left 1
 (intro W hSw; (try dsimp only [TKe] at hSw); go_simp; try with_reducible rfl)
 (try simp only [putA, putB, putC, putD])
 refine tkD 20 23 (v := ?_) ?_ hHeld ?_
 rotate_left 1
 (intro W hSw; (try dsimp only [TKe] at hSw); go_simp; try with_reducible rfl)
 (try simp only [putA, putB, putC, putD])
 refine tkD 21 24 (v := ?_) ?_ hHeld ?_
 rotate_left 1
 (intro W hSw; (try dsimp only [TKe] at hSw); go_simp; try with_reducible rfl)
 (try simp only [putA, putB, putC, putD])
 refine tkD 22 25 (v := ?_) ?_ hHeld ?_
 rotate_left 1
 (intro W hSw; (try dsimp only [TKe] at hSw); go_simp; try with_reducible rfl)
 (try simp only [putA, putB, putC, putD])
 refine tkD 23 26 (v := ?_) ?_ hHeld ?_
 rotate_left 1
 (intro W hSw; (try dsimp only [TKe] at hSw); go_simp; try with_reducible rfl)
 (try simp only [putA, putB, putC, putD])
 refine tkD 24 27 (v := ?_) ?_ hHeld ?_
 rotate_left 1
 (intro W hSw; (try dsimp only [TKe] at hSw); go_simp; try with_reducible rfl)
 (try simp only [putA, putB, putC, putD])
 refine tkD 25 28 (v := ?_) ?_ hHeld ?_
 rotate_left 1
 (intro W hSw; (try dsimp only [TKe] at hSw); go_simp; try with_reducible rfl)
 (try simp only [putA, putB, putC, putD])
 refine onlD 26 (fun K hK => ?_)
 go_simp
 refine (XD.out _ Q3.out s3).mono ?_
 rintro e w4 ⟨⟨v, rfl, ho⟩, h⟩
 have Q4 := Lib.hid (Q3.out.step h)
 obtain ⟨a, c, rfl, hl⟩ := lie_ob ho
 have L4 := Lib.hid hl
 go_wp2_with fail
 refine hK.out _ _ (Q4.out.ke) ?_
 clear hK K hHeld
 intro hHeld
 clear h Q3 hl ho XD
 have LL := difL_len t C t.H.n
 refine onlD 27 (fun K hK => ?_)
 go_simp
 refine (fWithinF_any a _ c _ (-t.cell) t.cell _ (by omega) L4.out).mono ?_
 rintro e x ⟨rfl, hx⟩
 obtain rfl := hx.symm
 clear hx
 clear LL L4
 by_cases s4 : allW (fun i => (difL t C t.H.n).getD i 0) (difL t C t.H.n).length (-t.cell) t.cell
 rotate_left
 ·skip
  rw [decide_eq_false s4]
  have E := Lib.hid (NF.out (fun k => s4 ((allW_list _ _ _).mpr (DA.out.mpr (HG.out.mp k.1.2.2.2).2))))
  clear NF NY s4
  go_wp2_with fail
  refine hK.out _ _ (Q4.out.ke) ?_
  clear hK K hHeld
  intro hHeld
  refine tkD 28 31 (v := ?_) ?_ hHeld ?_
  rotate_left 1
  (intro W hSw; (try dsimp only [TKe] at hSw); go_simp; try with_reducible rfl)
  (try simp only [putA, putB, putC, putD])
  refine tkD 29 32 (v := ?_) ?_ hHeld ?_
  rotate_left 1
  (intro W hSw; (try dsimp only [TKe] at hSw); go_simp; try with_reducible rfl)
  (try simp only [putA, putB, putC, putD])
  refine wpAnyH_skipD 30 33 (by kernel_rfl) (by kernel_rfl) (by kernel_rfl) (by kernel_rfl) (by rfl) (fun _ _ _ h => h) hHeld ?_
  (try simp only [putA, putB, putC, putD])
  refine wpAnyH_skipD 31 34 (by kernel_rfl) (by kernel_rfl) (by kernel_rfl) (by kernel_rfl) (by rfl) (fun _ _ _ h => h) hHeld ?_
  (try simp only [putA, putB, putC, putD])
  refine wpAnyH_skipD 32 35 (by kernel_rfl) (by kernel_rfl) (by kernel_rfl) (by kernel_rfl) (by rfl) (fun _ _ _ h => h) hHeld ?_
  (try simp only [putA, putB, putC, putD])
  refine wpAnyH_skipD 33 36 (by kernel_rfl) (by kernel_rfl) (by kernel_rfl) (by kernel_rfl) (by rfl) (fun _ _ _ h => h) hHeld ?_
  (try simp only [putA, putB, putC, putD])
  refine wpAnyH_skipD 34 37 (by kernel_rfl) (by kernel_rfl) (by kernel_rfl) (by kernel_rfl) (by rfl) (fun _ _ _ h => h) hHeld ?_
  (try simp only [putA, putB, putC, putD])
  refine wpAnyH_skipD 35 38 (by kernel_rfl) (by kernel_rfl) (by kernel_rfl) (by kernel_rfl) (by rfl) (fun _ _ _ h => h) hHeld ?_
  (try simp only [putA, putB, putC, putD])
  refine wpAnyH_skipD 36 39 (by kernel_rfl) (by kernel_rfl) (by kernel_rfl) (by kernel_rfl) (by rfl) (fun _ _ _ h => h) hHeld ?_
  (try simp only [putA, putB, putC, putD])
  refine tkD 37 40 (v := ?_) ?_ hHeld ?_
  rotate_left 1
  (intro W hSw; (try dsimp only [TKe] at hSw); go_simp; try with_reducible rfl)
  (try simp only [putA, putB, putC, putD])
  refine tkD 38 41 (v := ?_) ?_ hHeld ?_
  rotate_left 1
  (intro W hSw; (try dsimp only [TKe] at hSw); go_simp; try with_reducible rfl)
  (try simp only [putA, putB, putC, putD])
  refine wpAnyH_skipD 39 42 (by kernel_rfl) (by kernel_rfl) (by kernel_rfl) (by kernel_rfl) (by rfl) (fun _ _ _ h => h) hHeld ?_
  (try simp only [putA, putB, putC, putD])
  refine wpAnyH_skipD 40 43 (by kernel_rfl) (by kernel_rfl) (by kernel_rfl) (by kernel_rfl) (by rfl) (fun _ _ _ h => h) hHeld ?_
  (try simp only [putA, putB, putC, putD])
  refine wpAnyH_skipD 41 44 (by kernel_rfl) (by kernel_rfl) (by kernel_rfl) (by kernel_rfl) (by rfl) (fun _ _ _ h => h) hHeld ?_
  (try simp only [putA, putB, putC, putD])
  refine tkD 42 45 (v := ?_) ?_ hHeld ?_
  rotate_left 1
  (intro W hSw; (try dsimp only [TKe] at hSw); go_simp; try with_reducible rfl)
  (try simp only [putA, putB, putC, putD])
  refine tkD 43 2 (v := ?_) ?_ hHeld ?_
  rotate_left 1
  (intro W hSw; (try dsimp only [TKe] at hSw); go_simp; try with_reducible rfl)
  (try simp only [putA, putB, putC, putD])
  refine wpAnyH_done (by kernel_rfl) ?_ _
  clear hHeld
  go_wp2
  go_ret
  exact ⟨by rw [← E.out]; rfl, Q4.out.l⟩
 rw [decide_eq_true s4]
 go_wp2_with fail
 refine hK.out _ _ (Q4.out.ke) ?_
 clear hK K hHeld
 intro hHeld
 have FR := Lib.hid (show frP t from ⟨s1, s2.1, s2.2, HG.out.mpr ⟨s3, DA.out.mp ((allW_list _ _ _).mp s4)⟩⟩)
 clear s1 s2 s3 s4 DA HG
 refine tkD 28 31 (v := ?_) ?_ hHeld ?_
 rotate_left 1
 (intro W hSw; (try dsimp only [TKe] at hSw); go_simp; try with_reducible rfl)
 (try simp only [putA, putB, putC, putD])
 refine tkD 29 32 (v := ?_) ?_ hHeld ?_
 rotate_left 1
 (intro W hSw; (try dsimp only [TKe] at hSw); go_simp; try with_reducible rfl)
 (try simp only [putA, putB, putC, putD])
 refine tkD 30 33 (v := ?_) ?_ hHeld ?_
 rotate_left 1
 (intro W hSw; (try dsimp only [TKe] at hSw); go_simp; try with_reducible rfl)
 (try simp only [putA, putB, putC, putD])
 refine tkD 31 34 (v := ?_) ?_ hHeld ?_
 rotate_left 1
 (intro W hSw; (try dsimp only [TKe] at hSw); go_simp; try with_reducible rfl)
 (try simp only [putA, putB, putC, putD])
 refine tkD 32 35 (v := ?_) ?_ hHeld ?_
 rotate_left 1
 (intro W hSw; (try dsimp only [TKe] at hSw); go_simp; try with_reducible rfl)
 (try simp only [putA, putB, putC, putD])
 refine tkD 33 36 (v := ?_) ?_ hHeld ?_
 rotate_left 1
 (intro W hSw; (try dsimp only [TKe] at hSw); go_simp; try with_reducible rfl)
 (try simp only [putA, putB, putC, putD])
 refine tkD 34 37 (v := ?_) ?_ hHeld ?_
 rotate_left 1
 (intro W hSw; (try dsimp only [TKe] at hSw); go_simp; try with_reducible rfl)
 (try simp only [putA, putB, putC, putD])
 refine tkD 35 38 (v := ?_) ?_ hHeld ?_
 rotate_left 1
 (intro W hSw; (try dsimp only [TKe] at hSw); go_simp; try with_reducible rfl)
 (try simp only [putA, putB, putC, putD])
 refine onlD 36 (fun K hK => ?_)
 go_simp
 refine (fWithinI_any t.G.a t.G.n t.G.c t.G.v 0 ((t.kn : Int) - 1) _ hGn (lie_nums Q4.out.t.G Q4.out.bz)).mono ?_
 rintro e x ⟨rfl, hx⟩
 obtain rfl := hx.symm
 clear hx
 by_cases s5 : allW t.G.v t.G.n 0 ((t.kn : Int) - 1)
 rotate_left
 ·skip
  rw [decide_eq_false s5]
  have E := Lib.hid (NF.out (fun k => s5 (fun i hi => ⟨(k.2.1 i hi).1, by have := (k.2.1 i hi).2; omega⟩)))
  clear NF NY s5
  go_wp2_with fail
  refine hK.out _ _ (Q4.out.ke) ?_
  clear hK K hHeld
  intro hHeld
  refine tkD 37 40 (v := ?_) ?_ hHeld ?_
  rotate_left 1
  (intro W hSw; (try dsimp only [TKe] at hSw); go_simp; try with_reducible rfl)
  (try simp only [putA, putB, putC, putD])
  refine tkD 38 41 (v := ?_) ?_ hHeld ?_
  rotate_left 1
  (intro W hSw; (try dsimp only [TKe] at hSw); go_simp; try with_reducible rfl)
  (try simp only [putA, putB, putC, putD])
  refine wpAnyH_skipD 39 42 (by kernel_rfl) (by kernel_rfl) (by kernel_rfl) (by kernel_rfl) (by rfl) (fun _ _ _ h => h) hHeld ?_
  (try simp only [putA, putB, putC, putD])
  refine wpAnyH_skipD 40 43 (by kernel_rfl) (by kernel_rfl) (by kernel_rfl) (by kernel_rfl) (by rfl) (fun _ _ _ h => h) hHeld ?_
  (try simp only [putA, putB, putC, putD])
  refine wpAnyH_skipD 41 44 (by kernel_rfl) (by kernel_rfl) (by kernel_rfl) (by kernel_rfl) (by rfl) (fun _ _ _ h => h) hHeld ?_
  (try simp only [putA, putB, putC, putD])
  refine tkD 42 45 (v := ?_) ?_ hHeld ?_
  rotate_left 1
  (intro W hSw; (try dsimp only [TKe] at hSw); go_simp; try with_reducible rfl)
  (try simp only [putA, putB, putC, putD])
  refine tkD 43 2 (v := ?_) ?_ hHeld ?_
  rotate_left 1
  (intro W hSw; (try dsimp only [TKe] at hSw); go_simp; try with_reducible rfl)
  (try simp only [putA, putB, putC, putD])
  refine wpAnyH_done (by kernel_rfl) ?_ _
  clear hHeld
  go_wp2
  go_ret
  exact ⟨by rw [← E.out]; rfl, Q4.out.l⟩
 rw [decide_eq_true s5]
 go_wp2_with fail
 refine hK.out _ _ (Q4.out.ke) ?_
 clear hK K hHeld
 intro hHeld
 have GR := Lib.hid (show ∀ i, i < t.G.n → grQ t i from fun i hi => ⟨(s5 i hi).1, by have := (s5 i hi).2; omega⟩)
 clear s5
 refine tkD 37 40 (v := ?_) ?_ hHeld ?_
 rotate_left 1
 (intro W hSw; (try dsimp only [TKe] at hSw); go_simp; try with_reducible rfl)
 (try simp only [putA, putB, putC, putD])
 refine tkD 38 41 (v := ?_) ?_ hHeld ?_
 rotate_left 1
 (intro W hSw; (try dsimp only [TKe] at hSw); go_simp; try with_reducible rfl)
 (try simp only [putA, putB, putC, putD])
 refine tkD 39 42 (v := ?_) ?_ hHeld ?_
 rotate_left 1
 (intro W hSw; (try dsimp only [TKe] at hSw); go_simp; try with_reducible rfl)
 (try simp only [putA, putB, putC, putD])
 refine tkD 40 43 (v := ?_) ?_ hHeld ?_
 rotate_left 1
 (intro W hSw; (try dsimp only [TKe] at hSw); go_simp; try with_reducible rfl)
 (try simp only [putA, putB, putC, putD])
 refine onlD 41 (fun K hK => ?_)
 go_simp
 refine (XF.out _ Q4.out).mono ?_
 rintro e w5 ⟨rfl, h⟩
 have Q5 := Lib.hid (Q4.out.step h)
 have E := Lib.hid (show decide (∀ i, i < t.kn → kdQ t i) = q by
  by_cases s6 : ∀ i, i < t.kn → kdQ t i
  ·rw [decide_eq_true s6]; exact NY.out ⟨FR.out, GR.out, s6⟩
  ·rw [decide_eq_false s6]; exact NF.out (fun k => s6 k.2.2))
 rw [E.out]
 go_wp2_with fail
 refine hK.out _ _ (Q5.out.ke) ?_
 clear hK K hHeld
 intro hHeld
 clear h Q4 XF NF NY FR GR
 refine tkD 42 45 (v := ?_) ?_ hHeld ?_
 rotate_left 1
 (intro W hSw; (try dsimp only [TKe] at hSw); go_simp; try with_reducible rfl)
 (try simp only [putA, putB, putC, putD])
 refine tkD 43 2 (v := ?_) ?_ hHeld ?_
 rotate_left 1
 (intro W hSw; (try dsimp only [TKe] at hSw); go_simp; try with_reducible rfl)
 (try simp only [putA, putB, putC, putD])
 refine wpAnyH_done (by kernel_rfl) ?_ _
 clear hHeld
 go_wp2
 go_ret
 exact ⟨rfl, Q5.out.l⟩
end Go.Proofs.YtmdjnamkbekjkaaGreatDoor

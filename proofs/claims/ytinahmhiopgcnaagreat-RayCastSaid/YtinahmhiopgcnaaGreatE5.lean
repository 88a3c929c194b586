/- The program's field in memory: has, first, along, Where, Base, Kind. -/
import Derived.Test.YtinahmhiopgcnaaGreatBd
import Derived.Test.YtinahmhiopgcnaaGreatBx
import Derived.Test.YtinahmhiopgcnaaGreatBp
import Derived.Test.YtinahmhiopgcnaaGreatE4
import Derived.Deep.QuietTactic
import Derived.BigQuiet
namespace Go.Proofs.YtinahmhiopgcnaaGreat
open Go.RowKit
set_option linter.unusedVariables false
set_option linter.unusedSimpArgs false

/-- the program's field: its own cells in block f, its heights in block hb, its ground in block gb -/
structure FX (lo top : Nat) (W : World) (f hb gb hc gc : Nat) (t : Trk) : Prop where
  b : BW W f [.int .i64 t.cell, .int .i64 t.cols, .int .i64 t.rows, .int .i64 t.cx, .int .i64 t.cy, .slice (some ⟨hb, 0, none⟩) t.H.n hc, .slice (some ⟨gb, 0, none⟩) t.G.n gc]
  l : lo ≤ f ∧ f < top ∧ top ≤ W.heap.size
  lh : lo ≤ hb ∧ hb < top
  lg : lo ≤ gb ∧ gb < top
  h : ∀ i, i < t.H.n → W.cell? ⟨hb, i, none⟩ = some (.int .i64 (t.H.v i))
  g : ∀ i, i < t.G.n → W.cell? ⟨gb, i, none⟩ = some (.int .i64 (t.G.v i))
  r : cntP t ∧ frP t
theorem FX.keep {lo top : Nat} {W W' : World} {f hb gb hc gc : Nat} {t : Trk} (F : FX lo top W f hb gb hc gc t) (hs : W.heap.size ≤ W'.heap.size) (k : ∀ j, lo ≤ j → j < top → W'.heap[j]? = W.heap[j]?) : FX lo top W' f hb gb hc gc t :=
  ⟨⟨fun i v e => (World.cell?_of_block (w := W) (a := ⟨f, i, none⟩) (k f F.l.1 F.l.2.1)).trans (F.b.c i v e), fun j => (World.frozen?_of_block (w := W) (a := ⟨f, j, none⟩) (k f F.l.1 F.l.2.1)).trans (F.b.f j), by have := F.b.lt; omega⟩,
   ⟨F.l.1, F.l.2.1, by have := F.l.2.2; omega⟩, F.lh, F.lg,
   fun i hi => (World.cell?_of_block (w := W) (a := ⟨hb, i, none⟩) (k hb F.lh.1 F.lh.2)).trans (F.h i hi),
   fun i hi => (World.cell?_of_block (w := W) (a := ⟨gb, i, none⟩) (k gb F.lg.1 F.lg.2)).trans (F.g i hi), F.r⟩
theorem FX.step {lo top : Nat} {W W' : World} {f hb gb hc gc : Nat} {t : Trk} (F : FX lo top W f hb gb hc gc t) (h : Below W.heap.size W W') : FX lo top W' f hb gb hc gc t :=
  F.keep h.size (fun j _ h2 => h.block j (by have := F.l.2.2; omega))
theorem FX.dn {lo top : Nat} {W : World} {f hb gb hc gc : Nat} {t : Trk} (F : FX lo top W f hb gb hc gc t) (n : Nat) : FX lo top (W.drewN n) f hb gb hc gc t := F.step (below_drewN (Below.refl _ _) n)
theorem FX.fx {lo top : Nat} {W W' : World} {f hb gb hc gc b k : Nat} {q : Bool} {t : Trk} (F : FX lo top W f hb gb hc gc t) (h : FxW W.heap.size W b k q W') (e : b < lo ∨ top ≤ b) : FX lo top W' f hb gb hc gc t :=
  F.keep h.size (fun j h1 h2 => (fx_grown h).block j (by have := F.l.2.2; omega) (fun c => by injection c with c; omega))
theorem FX.cs {lo top : Nat} {W : World} {f hb gb hc gc : Nat} {t : Trk} (F : FX lo top W f hb gb hc gc t) : W.cell? ⟨f, 0, none⟩ = some (.int .i64 t.cell) ∧ W.cell? ⟨f, 1, none⟩ = some (.int .i64 t.cols) ∧ W.cell? ⟨f, 2, none⟩ = some (.int .i64 t.rows) ∧ W.cell? ⟨f, 3, none⟩ = some (.int .i64 t.cx) ∧ W.cell? ⟨f, 4, none⟩ = some (.int .i64 t.cy) ∧
    W.cell? ⟨f, 5, none⟩ = some (.slice (some ⟨hb, 0, none⟩) t.H.n hc) ∧ W.cell? ⟨f, 6, none⟩ = some (.slice (some ⟨gb, 0, none⟩) t.G.n gc) :=
  ⟨F.b.c 0 _ rfl, F.b.c 1 _ rfl, F.b.c 2 _ rfl, F.b.c 3 _ rfl, F.b.c 4 _ rfl, F.b.c 5 _ rfl, F.b.c 6 _ rfl⟩
/-- the field, and all below as it was -/
structure FS (w : World) (lo top : Nat) (W : World) (f hb gb hc gc : Nat) (t : Trk) : Prop where
  p : FX lo top W f hb gb hc gc t
  l : Below w.heap.size w W
theorem FS.step {w W W' : World} {lo top f hb gb hc gc : Nat} {t : Trk} (S : FS w lo top W f hb gb hc gc t) (h : Below W.heap.size W W') : FS w lo top W' f hb gb hc gc t :=
  ⟨S.p.step h, S.l.trans (h.mono S.l.size)⟩
set_option maxHeartbeats 2000000 in
theorem fHas_any (t : Trk) (c r : Int) (lo top f hb gb hc gc : Nat) (w : World) (P : FX lo top w f hb gb hc gc t) :
    Calls Tryz.prog 67 #[.pointer (some ⟨f, 0, none⟩), .int .i64 c, .int .i64 r] w fun e w' => e = .returned (.bool (decide (okC t c r))) ∧ Below w.heap.size w w' := by
  have S0 := Lib.hid (FS.mk (w := w) P (Below.refl _ _))
  obtain ⟨q, hq⟩ : ∃ q, decide (okC t c r) = q := ⟨_, rfl⟩
  rw [hq]
  have NF := Lib.hid (fun (h : ¬ okC t c r) => (show false = q by rw [← hq]; exact (decide_eq_false h).symm))
  have NY := Lib.hid (fun (h : okC t c r) => (show true = q by rw [← hq]; exact (decide_eq_true h).symm))
  obtain ⟨⟨⟨m1, m2⟩, m3, m4⟩, -⟩ := P.r.1
  obtain ⟨u1, v1⟩ := wrap_in' (n := t.cols - 1) (by unfold In64; omega)
  obtain ⟨u2, v2⟩ := wrap_in' (n := t.rows - 1) (by unfold In64; omega)
  obtain ⟨-, c1, -, -, -, -, -⟩ := P.cs
  clear hq P
  go_enter Tryz.func67, Tryz.ntmps67
  go_wp2_with fail
  refine calls_gen (S := fun W => FS w lo top W f hb gb hc gc t ∧ W.cell? ⟨w.heap.size, 0, none⟩ = some (.int .i64 c) ∧ w.heap.size < W.heap.size) ⟨S0.out.step ((Below.refl _ _).alloc (Nat.le_refl _) _), World.cell?_alloc_new _ _ _ 0, by simp⟩ (fun W1 hS => ?_)
  have S1 := Lib.hid hS.1
  refine (fWithinI_any _ 1 1 (fun _ => c) 0 (t.cols - 1) _ (by omega) (Lie.one hS.2.1 hS.2.2)).mono ?_
  rintro e v1 ⟨rfl, rfl⟩
  rw [allW_one]
  clear hS S0
  by_cases k1 : 0 ≤ c ∧ c ≤ t.cols - 1
  rotate_left
  · rw [decide_eq_false k1]
    have E := Lib.hid (NF.out (fun k => k1 ⟨k.1.1, by have := k.1.2; omega⟩))
    clear NF NY k1
    go_wp2
    go_ret
    exact ⟨by rw [← E.out]; rfl, S1.out.l⟩
  rw [decide_eq_true k1]
  obtain ⟨-, -, c2, -, -, -, -⟩ := S1.out.p.cs
  clear c1
  go_wp2_with fail
  refine calls_gen (S := fun W => FS w lo top W f hb gb hc gc t ∧ W.cell? ⟨v1.heap.size, 0, none⟩ = some (.int .i64 r) ∧ v1.heap.size < W.heap.size) ⟨S1.out.step ((Below.refl _ _).alloc (Nat.le_refl _) _), World.cell?_alloc_new _ _ _ 0, by simp⟩ (fun W2 hS => ?_)
  have S2 := Lib.hid hS.1
  refine (fWithinI_any _ 1 1 (fun _ => r) 0 (t.rows - 1) _ (by omega) (Lie.one hS.2.1 hS.2.2)).mono ?_
  rintro e v2 ⟨rfl, rfl⟩
  rw [allW_one]
  clear hS S1
  by_cases k2 : 0 ≤ r ∧ r ≤ t.rows - 1
  rotate_left
  · rw [decide_eq_false k2]
    have E := Lib.hid (NF.out (fun k => k2 ⟨k.2.1, by have := k.2.2; omega⟩))
    clear NF NY k1 k2
    go_wp2
    go_ret
    exact ⟨by rw [← E.out]; rfl, S2.out.l⟩
  rw [decide_eq_true k2]
  have E := Lib.hid (NY.out ⟨⟨k1.1, by omega⟩, k2.1, by omega⟩)
  clear NF NY k1 k2
  go_wp2
  go_ret
  exact ⟨by rw [← E.out]; rfl, S2.out.l⟩
set_option maxHeartbeats 1000000 in
theorem fFirst_any (t : Trk) (c r : Int) (lo top f hb gb hc gc : Nat) (w : World) (P : FX lo top w f hb gb hc gc t) (ok : okC t c r) :
    Calls Tryz.prog 68 #[.pointer (some ⟨f, 0, none⟩), .int .i64 c, .int .i64 r] w fun e w' => e = .returned (.int .i64 (atC t c r)) ∧ w' = w := by
  obtain ⟨hp, hN, hl, h4⟩ := at_is P.r.1 ok
  obtain ⟨⟨⟨m1, m2⟩, m3, m4⟩, -⟩ := P.r.1
  obtain ⟨⟨k1, k2⟩, k3, k4⟩ := ok
  obtain ⟨-, c1, -, -, -, -, -⟩ := P.cs
  generalize atC t c r = N at *
  obtain ⟨Q, hQ⟩ : ∃ P, r * (t.cols + 1) = P := ⟨_, rfl⟩
  rw [hQ] at hp hN
  obtain ⟨u0, v0⟩ := wrap_in' (n := t.cols + 1) (by unfold In64; omega)
  obtain ⟨u1, v1⟩ := wrap_in' (n := Q) (by unfold In64; omega)
  obtain ⟨u2, v2⟩ := wrap_in' (n := Q + c) (by unfold In64; omega)
  clear P
  go_enter Tryz.func68, Tryz.ntmps68
  go_wp2
  go_ret
  exact ⟨by first | rfl | (rw [← hN]; rfl) | (simp [hN]), rfl⟩
/-- the cell that Go's quotient tells, limited -/
theorem clamp_ax {d cell : Int} {many : Nat} (hc : 0 < cell) (hm : 0 < many) : clampF (Int.tdiv d cell) 0 ((many : Int) - 1) = (axK d cell many : Int) := by
  unfold axK clampF
  by_cases h : d < 0
  · rw [if_pos h]
    have e : Int.tdiv d cell = -(Int.tdiv (-d) cell) := by rw [Int.neg_tdiv]; omega
    have p : 0 ≤ Int.tdiv (-d) cell := Int.tdiv_nonneg (by omega) (by omega)
    by_cases q : Int.tdiv d cell < 0
    · rw [if_pos q]; rfl
    · rw [if_neg q, if_neg (by omega)]
      have : Int.tdiv d cell = 0 := by omega
      rw [this]; rfl
  · rw [if_neg h, Int.tdiv_eq_ediv_of_nonneg (by omega)]
    have p := Int.ediv_nonneg (show 0 ≤ d by omega) (show 0 ≤ cell by omega)
    rw [if_neg (by omega)]
    by_cases q : (many : Int) - 1 < d / cell
    · rw [if_pos q]; omega
    · rw [if_neg q]; omega
theorem ax_num {d cell : Int} {many : Nat} (hd : -422212465065984 ≤ d ∧ d ≤ 422212465065984) (hc : 17179869184 ≤ cell ∧ cell ≤ 274877906944) (hm : 1 ≤ many ∧ many ≤ 64) : (-422212465065984 ≤ Int.tdiv d cell ∧ Int.tdiv d cell ≤ 422212465065984) ∧ (0 ≤ (axK d cell many : Int) * cell ∧ (axK d cell many : Int) * cell ≤ 17592186044416) := by
  have a1 := axK_lt (d := d) (cell := cell) (many := many) (by omega)
  have a2 := Int.mul_nonneg (show 0 ≤ (axK d cell many : Int) by omega) (show 0 ≤ cell by omega)
  have a3 := Int.mul_le_mul (show (axK d cell many : Int) ≤ 64 by omega) hc.2 (by omega) (by omega)
  refine ⟨?_, a2, by omega⟩
  have h1 := Int.natAbs_tdiv_le_natAbs d cell
  omega
set_option maxHeartbeats 2000000 in
theorem fAlong_any (t : Trk) (at_ begins : Int) (many : Nat) (lo top f hb gb hc gc : Nat) (w : World) (hb' : -140737488355328 ≤ begins ∧ begins ≤ 140737488355328) (hm : 1 ≤ many ∧ many ≤ 64) (P : FX lo top w f hb gb hc gc t) :
    Calls Tryz.prog 54 #[.pointer (some ⟨f, 0, none⟩), .int .i64 at_, .int .i64 begins, .int .i64 many] w fun e w' => e = .returned (.tuple #[.int .i64 (axK (axF at_ begins) t.cell many), .int .i64 (axD (axF at_ begins) t.cell many)]) ∧ ∃ n, w' = w.drewN n := by
  have FI := axF_in (n := at_) hb'
  have hcell := P.r.2.1
  have V1 := Lib.hid (fun (W : World) => fxClamp_any at_ (-281474976710656) 281474976710656 W)
  obtain ⟨c0, -, -, -, -, -, -⟩ := P.cs
  clear P
  have u1 : IntKind.i64.wrap (clampF at_ (-281474976710656) 281474976710656 - begins) = axF at_ begins := IntWalk.i64_in _ (by unfold axF at FI; omega)
  have u2 : wrap64 (clampF at_ (-281474976710656) 281474976710656 - begins) = axF at_ begins := by unfold wrap64; unfold axF at *; omega
  obtain ⟨d, hd⟩ : ∃ d, axF at_ begins = d := ⟨_, rfl⟩
  rw [hd] at FI u1 u2 ⊢
  generalize clampF at_ (-281474976710656) 281474976710656 = q at *
  clear hd hb'
  have CA := clamp_ax (d := d) (cell := t.cell) (many := many) (by omega) (by omega)
  obtain ⟨⟨n1, n2⟩, n3, n4⟩ := ax_num FI hcell hm
  have DF := Lib.hid (show axD d t.cell many = d - (axK d t.cell many : Int) * t.cell from rfl)
  have KL := axK_lt (d := d) (cell := t.cell) (many := many) (by omega)
  have hmo := wrap_in' (n := (many : Int) - 1) (by unfold In64; omega)
  obtain ⟨T, hT⟩ : ∃ T, Int.tdiv d t.cell = T := ⟨_, rfl⟩
  rw [hT] at CA n1 n2
  have V2 := Lib.hid (fun (W : World) => fxClamp_any T 0 ((many : Int) - 1) W)
  rw [CA] at V2
  generalize axK d t.cell many = K at *
  obtain ⟨M, hM⟩ : ∃ M, (K : Int) * t.cell = M := ⟨_, rfl⟩
  rw [hM] at n3 n4
  have wT := Lib.hid (wrap_in' (n := T) (by unfold In64; omega))
  have wM := Lib.hid (wrap_in' (n := M) (by unfold In64; omega))
  have wD := Lib.hid (wrap_in' (n := d - M) (by unfold In64; omega))
  have zc : ¬ t.cell = 0 := by omega
  have HM := Lib.hid hM
  have HT := Lib.hid hT
  obtain ⟨y1, y2⟩ := hmo
  clear hM hT CA
  go_enter Tryz.func54, Tryz.ntmps54
  go_wp2_with fail
  refine (V1.out _).mono ?_
  rintro e w1 ⟨rfl, rfl⟩
  clear V1
  have hT := HT.out
  obtain ⟨y3, y4⟩ := wT.out
  go_wp2_with fail
  refine (V2.out _).mono ?_
  rintro e w1 ⟨rfl, rfl⟩
  clear V2 hT y3 y4 u1 u2 y1 y2
  have hM := HM.out
  obtain ⟨y3, y4⟩ := wM.out
  obtain ⟨y5, y6⟩ := wD.out
  go_wp2
  go_quiet (fail)
  go_wp2
  exact bodyPost_ret (v := .tuple #[.int .i64 K, .int .i64 (d - M)]) (by simp [results, Tryz.results54, go_sem]) rfl ⟨by rw [DF.out, HM.out], _, rfl⟩
set_option maxHeartbeats 2000000 in
theorem fWhere_any (t : Trk) (x y : Int) (lo top f hb gb hc gc : Nat) (w : World) (P : FX lo top w f hb gb hc gc t) :
    Calls Tryz.prog 35 #[.pointer (some ⟨f, 0, none⟩), .int .i64 x, .int .i64 y] w fun e w' => e = .returned (.tuple #[.int .i64 (whK t x), .int .i64 (whR t y), .int .i64 (whX t x), .int .i64 (whY t y)]) ∧ Below w.heap.size w w' := by
  have S0 := Lib.hid (FS.mk (w := w) P (Below.refl _ _))
  obtain ⟨⟨m1, m2⟩, -⟩ := P.r.1
  obtain ⟨-, f1, f2, -⟩ := P.r.2
  have V1 := Lib.hid (fun (W : World) (Q : FX lo top W f hb gb hc gc t) => fAlong_any t x t.cx t.cols.toNat lo top f hb gb hc gc W f1 (by omega) Q)
  have V2 := Lib.hid (fun (W : World) (Q : FX lo top W f hb gb hc gc t) => fAlong_any t y t.cy t.rows.toNat lo top f hb gb hc gc W f2 (by omega) Q)
  rw [Int.toNat_of_nonneg (by omega)] at V1 V2
  unfold whK whR whX whY
  generalize axK (axF x t.cx) t.cell t.cols.toNat = k1 at *
  generalize axD (axF x t.cx) t.cell t.cols.toNat = d1 at *
  generalize axK (axF y t.cy) t.cell t.rows.toNat = k2 at *
  generalize axD (axF y t.cy) t.cell t.rows.toNat = d2 at *
  obtain ⟨-, c1, -, c3, -, -, -⟩ := P.cs
  clear P m1 m2 f1 f2
  go_enter Tryz.func35, Tryz.ntmps35
  go_wp2
  go_quiet ((go_at_call 54; exact Calls.quiet_of (V1.out _ (S0.out.p.dn _))))
  go_wp2
  refine wp_gen (S := fun W => FS w lo top W f hb gb hc gc t) (S0.out.step (below_drewN (Below.refl _ _) _)) (fun W1 hS => ?_)
  have S1 := Lib.hid hS
  obtain ⟨-, -, c2, -, c4, -, -⟩ := hS.p.cs
  clear hS S0 c1 c3
  go_quiet ((go_at_call 54; exact Calls.quiet_of (V2.out _ (S1.out.p.dn _))))
  go_wp2
  exact bodyPost_ret (v := .tuple #[.int .i64 k1, .int .i64 k2, .int .i64 d1, .int .i64 d2]) (by simp [results, Tryz.results35, go_sem]) rfl ⟨rfl, below_drewN S1.out.l _⟩
set_option maxHeartbeats 2000000 in
theorem fBase_any (t : Trk) (c r : Int) (lo top f hb gb hc gc : Nat) (w : World) (P : FX lo top w f hb gb hc gc t) :
    Calls Tryz.prog 60 #[.pointer (some ⟨f, 0, none⟩), .int .i64 c, .int .i64 r] w fun e w' => e = .returned (.int .i64 (baseFd t c r)) ∧ Below w.heap.size w w' := by
  have S0 := Lib.hid (FS.mk (w := w) P (Below.refl _ _))
  have VH := Lib.hid (fun (W : World) (Q : FX lo top W f hb gb hc gc t) => fHas_any t c r lo top f hb gb hc gc W Q)
  obtain ⟨q, hq⟩ : ∃ q, baseFd t c r = q := ⟨_, rfl⟩
  rw [hq]
  have HQ := Lib.hid hq
  have HR := Lib.hid P.r.1
  clear hq P
  by_cases ok : okC t c r
  rotate_left
  · have E := Lib.hid (show 0 = q by rw [← HQ.out]; unfold baseFd; rw [if_neg ok])
    rw [decide_eq_false ok] at VH
    clear HQ HR ok
    go_enter Tryz.func60, Tryz.ntmps60
    go_wp2_with fail
    refine (VH.out _ S0.out.p).mono ?_
    rintro e w1 ⟨rfl, h⟩
    have S1 := Lib.hid (S0.out.step h)
    clear h S0 VH
    go_wp2
    go_ret
    exact ⟨retI E.out, S1.out.l⟩
  have E := Lib.hid (show t.H.v (atC t c r) = q by rw [← HQ.out]; unfold baseFd; rw [if_pos ok])
  have VF := Lib.hid (fun (W : World) (Q : FX lo top W f hb gb hc gc t) => fFirst_any t c r lo top f hb gb hc gc W Q ok)
  rw [decide_eq_true ok] at VH
  obtain ⟨-, -, hl, h4⟩ := at_is HR.out ok
  obtain ⟨⟨⟨m1, -⟩, -⟩, -⟩ := HR.out
  generalize atC t c r = N at *
  clear HQ HR ok
  go_enter Tryz.func60, Tryz.ntmps60
  go_wp2_with fail
  refine (VH.out _ S0.out.p).mono ?_
  rintro e w1 ⟨rfl, h⟩
  have S1 := Lib.hid (S0.out.step h)
  clear h S0 VH
  obtain ⟨-, -, -, -, -, c5, -⟩ := S1.out.p.cs
  have d0 := S1.out.p.h N (by omega)
  have z0 : (0 : Int) ≤ (N : Int) := by omega
  have z1 : (N : Int) < (t.H.n : Int) := by omega
  go_wp2
  go_quiet ((go_at_call 68; exact Calls.quiet_of_same (VF.out _ (S1.out.p.dn _))))
  go_wp2
  go_ret
  exact ⟨retI E.out, below_drewN S1.out.l _⟩
set_option maxHeartbeats 2000000 in
theorem fKind_any (t : Trk) (x y : Int) (lo top f hb gb hc gc : Nat) (w : World) (P : FX lo top w f hb gb hc gc t) :
    Calls Tryz.prog 22 #[.pointer (some ⟨f, 0, none⟩), .int .i64 x, .int .i64 y] w fun e w' => e = .returned (.int .i64 (kindFd t x y)) ∧ Below w.heap.size w w' := by
  have S0 := Lib.hid (FS.mk (w := w) P (Below.refl _ _))
  have VW := Lib.hid (fun (W : World) (Q : FX lo top W f hb gb hc gc t) => fWhere_any t x y lo top f hb gb hc gc W Q)
  have ok := wh_ok P.r.1 x y
  obtain ⟨hp, hN, hl, h4⟩ := kd_is P.r.1 ok
  obtain ⟨⟨⟨m10, m11⟩, -⟩, -, -, -, -⟩ := P.r.1
  obtain ⟨hp0, hp1⟩ := hp
  obtain ⟨⟨o0, o1⟩, o2, o3⟩ := ok
  unfold kindFd
  generalize whK t x = c at *
  generalize whR t y = r at *
  obtain ⟨N, hNN⟩ : ∃ N, ((r : Int) * t.cols + (c : Int)).toNat = N := ⟨_, rfl⟩
  rw [hNN] at hN hl ⊢
  obtain ⟨Q, hQ⟩ : ∃ P, (r : Int) * t.cols = P := ⟨_, rfl⟩
  rw [hQ] at hN hp0 hp1
  clear hNN P
  have hlN : N < t.G.n := by omega
  have z0 : (0 : Int) ≤ (N : Int) := by omega
  obtain ⟨u1, v1⟩ := wrap_in' (n := Q) (by unfold In64; omega)
  obtain ⟨u2, v2⟩ := wrap_in' (n := (N : Int)) (by unfold In64; omega)
  go_enter Tryz.func22, Tryz.ntmps22
  go_wp2_with fail
  refine (VW.out _ S0.out.p).mono ?_
  rintro e w1 ⟨rfl, h⟩
  have S1 := Lib.hid (S0.out.step h)
  clear h S0 VW
  obtain ⟨-, c1, -, -, -, -, c6⟩ := S1.out.p.cs
  have d0 := S1.out.p.g N hlN
  go_wp2
  go_quiet (fail)
  go_wp2
  go_ret
  exact ⟨rfl, below_drewN S1.out.l _⟩
end Go.Proofs.YtinahmhiopgcnaaGreat

/- The program's ray: newBeam, reach, span. -/
import Derived.Test.YtinahmhiopgcnaaA5
namespace Go.Proofs.Ytinahmhiopgcnaa
open Go.RowKit
set_option linter.unusedVariables false
set_option linter.unusedSimpArgs false

/-- a complex number is stored -/
theorem st_cx (P : Program) (w : World) (a : Addr) (m : Mode) (k : FloatKind) (x y : Nat) : (store a (.complex k x y) m).run P w = stored P w a (.complex k x y) m := run_store P w a _ m rfl
attribute [local go_sem] st_cx
theorem vw_far10 {W : World} {n r : Nat} {x y z : Int} (k : VW W n x y z) (e : r ≠ n) (u0 u1 u2 u3 u4 u5 u6 u7 u8 u9 : Value) : VW ((((((((((W.setCell ⟨r, 0, none⟩ u0).setCell ⟨r, 1, none⟩ u1).setCell ⟨r, 2, none⟩ u2).setCell ⟨r, 3, none⟩ u3).setCell ⟨r, 4, none⟩ u4).setCell ⟨r, 5, none⟩ u5).setCell ⟨r, 6, none⟩ u6).setCell ⟨r, 7, none⟩ u7).setCell ⟨r, 8, none⟩ u8).setCell ⟨r, 9, none⟩ u9) n x y z :=
  (((((((((k.far e 0 u0).far e 1 u1).far e 2 u2).far e 3 u3).far e 4 u4).far e 5 u5).far e 6 u6).far e 7 u7).far e 8 u8).far e 9 u9
theorem below_put10 {B r : Nat} {w W : World} (t : Below B w W) (h : B ≤ r) (u0 u1 u2 u3 u4 u5 u6 u7 u8 u9 : Value) : Below B w ((((((((((W.setCell ⟨r, 0, none⟩ u0).setCell ⟨r, 1, none⟩ u1).setCell ⟨r, 2, none⟩ u2).setCell ⟨r, 3, none⟩ u3).setCell ⟨r, 4, none⟩ u4).setCell ⟨r, 5, none⟩ u5).setCell ⟨r, 6, none⟩ u6).setCell ⟨r, 7, none⟩ u7).setCell ⟨r, 8, none⟩ u8).setCell ⟨r, 9, none⟩ u9) :=
  (((((((((t.setCell (p := ⟨r, 0, none⟩) h u0).setCell (p := ⟨r, 1, none⟩) h u1).setCell (p := ⟨r, 2, none⟩) h u2).setCell (p := ⟨r, 3, none⟩) h u3).setCell (p := ⟨r, 4, none⟩) h u4).setCell (p := ⟨r, 5, none⟩) h u5).setCell (p := ⟨r, 6, none⟩) h u6).setCell (p := ⟨r, 7, none⟩) h u7).setCell (p := ⟨r, 8, none⟩) h u8).setCell (p := ⟨r, 9, none⟩) h u9
set_option maxRecDepth 100000 in
set_option maxHeartbeats 4000000 in
theorem yBeam_any (t : Trk) (a : Ry) (lo top f hb gb hc gc : Nat) (w : World) (P : FX lo top w f hb gb hc gc t) :
    Calls Try.prog 42 #[.pointer (some ⟨f, 0, none⟩), a.o, a.d] w fun e w' => e = .returned (bmW f a (fz (whK t a.ox)) (fz (whR t a.oy)) (whX t a.ox) (whY t a.oy)) ∧ Below w.heap.size w w' := by
  have S0 := Lib.hid (FS.mk (w := w) P (Below.refl _ _))
  have WH := Lib.hid (fun (W : World) (Q : FX lo top W f hb gb hc gc t) => fWhere_any t a.ox a.oy lo top f hb gb hc gc W Q)
  generalize whK t a.ox = j at *
  generalize whR t a.oy = V at *
  generalize whX t a.ox = p at *
  generalize whY t a.oy = q at *
  clear P
  go_enter Try.func42, Try.ntmps42
  go_wp2_with fail
  refine calls_gen (S := fun W => FS w lo top W f hb gb hc gc t ∧ (RB w W w.heap.size a ∧ BW W (w.heap.size + 1 + 1) [.pointer none, .int .i64 0, .int .i64 0, .int .i64 0, .int .i64 0, .int .i64 0, .int .i64 0, .complex .f64 0 0, .int .i64 0, .int .i64 0])) ⟨S0.out.step (by repeat (first | exact Below.refl _ _ | assumption | refine Below.setCell ?_ (by first | omega | (simp; done) | (simp; omega)) _ | refine Below.alloc ?_ (by first | omega | (simp; done) | (simp; omega)) _ | refine below_drewN ?_ _ | refine Below.drew ?_ | refine Below.trans ?_ (Below.mono (by assumption) (by first | omega | (simp; done) | (simp; omega))))), ⟨((VW.new w w.heap.size a.ox a.oy a.oz _ rfl).alloc _).alloc _, (VW.new _ _ a.dx a.dy a.dz _ (by simp)).alloc _, by repeat (first | exact Below.refl _ _ | assumption | refine Below.setCell ?_ (by first | omega | (simp; done) | (simp; omega)) _ | refine Below.alloc ?_ (by first | omega | (simp; done) | (simp; omega)) _ | refine below_drewN ?_ _ | refine Below.drew ?_ | refine Below.trans ?_ (Below.mono (by assumption) (by first | omega | (simp; done) | (simp; omega))))⟩, BW.new _ _ [_, _, _, _, _, _, _, _, _, _] _ (by simp)⟩ (fun W1 hS => ?_)
  have G1 := Lib.hid hS.1
  have A1 := Lib.hid hS.2.1.o
  have B1 := Lib.hid hS.2.1.d
  have R1 := Lib.hid hS.2.2
  clear hS S0
  refine (WH.out _ G1.out.p).mono ?_
  rintro e w2 ⟨rfl, h⟩
  have G2 := Lib.hid ((G1.out.step h).step (Below.refl _ _).drew)
  have A2 := Lib.hid (A1.out.below h A1.out.lt).drew
  have B2 := Lib.hid (B1.out.below h B1.out.lt).drew
  have R2 := Lib.hid (R1.out.below h R1.out.lt).drew
  clear h G1 A1 B1 R1 WH
  go_wp2_with fail
  refine wp_region_held_drew (S := fun W => (W.cell? ⟨w.heap.size, 0, none⟩ = some (.int .i64 (a.ox)) ∧ W.cell? ⟨w.heap.size, 1, none⟩ = some (.int .i64 (a.oy)) ∧ W.cell? ⟨w.heap.size, 2, none⟩ = some (.int .i64 (a.oz))) ∧ (W.cell? ⟨w.heap.size + 1, 0, none⟩ = some (.int .i64 (a.dx)) ∧ W.cell? ⟨w.heap.size + 1, 1, none⟩ = some (.int .i64 (a.dy)) ∧ W.cell? ⟨w.heap.size + 1, 2, none⟩ = some (.int .i64 (a.dz)))) (by kernel_rfl) ⟨A2.out.held, B2.out.held⟩ (fun hHeld => ?_)
  generalize w2.drew = w3 at *
  refine wpAnyH_takeD 0 22 (v := ?_) (by kernel_rfl) (by kernel_rfl) (by kernel_rfl) (by kernel_rfl) (by rfl) (fun _ _ _ h => h) ?_ hHeld ?_
  rotate_left 1
  (intro o ho W hSw; simp only [List.getElem?_toArray, List.getElem?_cons_succ, List.getElem?_cons_zero, Option.some.injEq] at ho; subst ho; (try dsimp only at hSw); go_simp; try with_reducible rfl)
  (try simp only [Act.put, List.setIfInBounds_toArray, List.set_cons_zero, List.set_cons_succ])
  refine wpAnyH_takeD 1 23 (v := ?_) (by kernel_rfl) (by kernel_rfl) (by kernel_rfl) (by kernel_rfl) (by rfl) (fun _ _ _ h => h) ?_ hHeld ?_
  rotate_left 1
  (intro o ho W hSw; simp only [List.getElem?_toArray, List.getElem?_cons_succ, List.getElem?_cons_zero, Option.some.injEq] at ho; subst ho; (try dsimp only at hSw); go_simp; try with_reducible rfl)
  (try simp only [Act.put, List.setIfInBounds_toArray, List.set_cons_zero, List.set_cons_succ])
  refine wpAnyH_takeD 2 24 (v := ?_) (by kernel_rfl) (by kernel_rfl) (by kernel_rfl) (by kernel_rfl) (by rfl) (fun _ _ _ h => h) ?_ hHeld ?_
  rotate_left 1
  (intro o ho W hSw; simp only [List.getElem?_toArray, List.getElem?_cons_succ, List.getElem?_cons_zero, Option.some.injEq] at ho; subst ho; (try dsimp only at hSw); go_simp; try with_reducible rfl)
  (try simp only [Act.put, List.setIfInBounds_toArray, List.set_cons_zero, List.set_cons_succ])
  refine wpAnyH_takeD 3 25 (v := ?_) (by kernel_rfl) (by kernel_rfl) (by kernel_rfl) (by kernel_rfl) (by rfl) (fun _ _ _ h => h) ?_ hHeld ?_
  rotate_left 1
  (intro o ho W hSw; simp only [List.getElem?_toArray, List.getElem?_cons_succ, List.getElem?_cons_zero, Option.some.injEq] at ho; subst ho; (try dsimp only at hSw); go_simp; try with_reducible rfl)
  (try simp only [Act.put, List.setIfInBounds_toArray, List.set_cons_zero, List.set_cons_succ])
  refine wpAnyH_takeD 4 26 (v := ?_) (by kernel_rfl) (by kernel_rfl) (by kernel_rfl) (by kernel_rfl) (by rfl) (fun _ _ _ h => h) ?_ hHeld ?_
  rotate_left 1
  (intro o ho W hSw; simp only [List.getElem?_toArray, List.getElem?_cons_succ, List.getElem?_cons_zero, Option.some.injEq] at ho; subst ho; (try dsimp only at hSw); go_simp; try with_reducible rfl)
  (try simp only [Act.put, List.setIfInBounds_toArray, List.set_cons_zero, List.set_cons_succ])
  refine wpAnyH_takeD 6 28 (v := ?_) (by kernel_rfl) (by kernel_rfl) (by kernel_rfl) (by kernel_rfl) (by rfl) (fun _ _ _ h => h) ?_ hHeld ?_
  rotate_left 1
  (intro o ho W hSw; simp only [List.getElem?_toArray, List.getElem?_cons_succ, List.getElem?_cons_zero, Option.some.injEq] at ho; subst ho; (try dsimp only at hSw); go_simp; try with_reducible rfl)
  (try simp only [Act.put, List.setIfInBounds_toArray, List.set_cons_zero, List.set_cons_succ])
  refine wpAnyH_takeD 7 29 (v := ?_) (by kernel_rfl) (by kernel_rfl) (by kernel_rfl) (by kernel_rfl) (by rfl) (fun _ _ _ h => h) ?_ hHeld ?_
  rotate_left 1
  (intro o ho W hSw; simp only [List.getElem?_toArray, List.getElem?_cons_succ, List.getElem?_cons_zero, Option.some.injEq] at ho; subst ho; (try dsimp only at hSw); go_simp; try with_reducible rfl)
  (try simp only [Act.put, List.setIfInBounds_toArray, List.set_cons_zero, List.set_cons_succ])
  refine wpAnyH_onlyD 5 (by kernel_rfl) (fun o ho K hK => ?_) (by kernel_rfl)
  simp only [List.getElem?_toArray, List.getElem?_cons_succ, List.getElem?_cons_zero, Option.some.injEq] at ho
  subst ho
  go_simp
  refine (yCell_any j V _).mono ?_
  rintro e w4 ⟨rfl, hx⟩
  obtain rfl := hx.symm
  go_wp2_with fail
  refine hK.out _ _ (⟨A2.out.held, B2.out.held⟩) ?_
  clear hK K hHeld
  intro hHeld
  clear hx
  refine wpAnyH_takeD 8 30 (v := ?_) (by kernel_rfl) (by kernel_rfl) (by kernel_rfl) (by kernel_rfl) (by rfl) (fun _ _ _ h => h) ?_ hHeld ?_
  rotate_left 1
  (intro o ho W hSw; simp only [List.getElem?_toArray, List.getElem?_cons_succ, List.getElem?_cons_zero, Option.some.injEq] at ho; subst ho; (try dsimp only at hSw); go_simp; try with_reducible rfl)
  (try simp only [Act.put, List.setIfInBounds_toArray, List.set_cons_zero, List.set_cons_succ])
  have r0 := R2.out.c 0 _ rfl
  have r1 := R2.out.c 1 _ rfl
  have r2 := R2.out.c 2 _ rfl
  have r3 := R2.out.c 3 _ rfl
  have r4 := R2.out.c 4 _ rfl
  have r5 := R2.out.c 5 _ rfl
  have r6 := R2.out.c 6 _ rfl
  have r7 := R2.out.c 7 _ rfl
  have r8 := R2.out.c 8 _ rfl
  have r9 := R2.out.c 9 _ rfl
  have rf := R2.out.f
  have rl := R2.out.lt
  refine wpAnyH_onlyD 9 (by kernel_rfl) (fun o ho K hK => ?_) (by kernel_rfl)
  simp only [List.getElem?_toArray, List.getElem?_cons_succ, List.getElem?_cons_zero, Option.some.injEq] at ho
  subst ho
  go_simp
  refine hK.out _ _ (⟨(vw_far10 A2.out (by omega) _ _ _ _ _ _ _ _ _ _).held, (vw_far10 B2.out (by omega) _ _ _ _ _ _ _ _ _ _).held⟩) ?_
  clear hK K hHeld
  intro hHeld
  refine wpAnyH_done (by kernel_rfl) ?_ _
  clear hHeld
  go_wp2
  exact bodyPost_ret (v := bmW f a (fz j) (fz V) p q) (by simp [results, Try.results42, go_sem, r0, r1, r2, r3, r4, r5, r6, r7, r8, r9]) rfl ⟨rfl, below_put10 G2.out.l (by omega) _ _ _ _ _ _ _ _ _ _⟩
set_option maxRecDepth 100000 in
set_option maxHeartbeats 8000000 in
theorem yReach_any (t : Trk) (a : Ry) (c r : Nat) (up : Bool) (lo top f hb gb hc gc : Nat) (w : World) (P : FX lo top w f hb gb hc gc t) (ha : a.may) (hi : a.ins) (hcc : c < t.cols.toNat) (hrr : r < t.rows.toNat) :
    Calls Try.prog 71 #[bmW f a (fz (whK t a.ox)) (fz (whR t a.oy)) (whX t a.ox) (whY t a.oy), .complex .f64 (fz c) (fz r), .bool up] w fun e w' => e = .returned (.tuple #[.int .i64 (if stpF t c r up a < 0 then dstF t c r up a else 0), .bool (decide (stpF t c r up a < 0))]) ∧ Below w.heap.size w w' := by
  have S0 := Lib.hid (FS.mk (w := w) P (Below.refl _ _))
  obtain ⟨hcn, hf⟩ := P.r
  obtain ⟨⟨m1, m2⟩, -⟩ := id hcn
  have ok : okC t c r := ⟨⟨by omega, by omega⟩, by omega, by omega⟩
  have VS := Lib.hid (fun (W : World) (Q : FX lo top W f hb gb hc gc t) => fSlopes_nil t c r up lo top f hb gb hc gc W Q ok)
  have VB := Lib.hid (fun (W : World) (Q : FX lo top W f hb gb hc gc t) => fBase_any t c r lo top f hb gb hc gc W Q)
  have VO := Lib.hid (fun (W : World) (Q : FX lo top W f hb gb hc gc t) => yOff_any t a c r lo top f hb gb hc gc W Q ha (by omega) (by omega))
  have SA := Lib.hid (sla_in t c r up)
  have SB := Lib.hid (slb_in t c r up)
  have BI := Lib.hid (base_in hcn hf ok)
  have HX := Lib.hid (rof_fit ha.1 hf.2.1 (c := c) (by omega) hf.1).2.2.2.1
  have HY := Lib.hid (rof_fit ha.2.1 hf.2.2.1 (c := r) (by omega) hf.1).2.2.2.1
  have hc1 : ∀ w, (convert 117 3 (.float .f64 (fz c))).run Try.prog w = .ok (.int .i64 c) w := fun w => fz_conv w (by omega) _ _ (by kernel_rfl) (by kernel_rfl)
  have hc2 : ∀ w, (convert 117 3 (.float .f64 (fz r))).run Try.prog w = .ok (.int .i64 r) w := fun w => fz_conv w (by omega) _ _ (by kernel_rfl) (by kernel_rfl)
  obtain ⟨ms, hms⟩ : ∃ q, (if stpF t c r up a < 0 then dstF t c r up a else 0) = q := ⟨_, rfl⟩
  obtain ⟨mm, hmm⟩ : ∃ q, decide (stpF t c r up a < 0) = q := ⟨_, rfl⟩
  have MN := Lib.hid (fun (h : ¬ stpF t c r up a < 0) => (show 0 = ms ∧ false = mm from ⟨by rw [← hms, if_neg h], by rw [← hmm, decide_eq_false h]⟩))
  have MY := Lib.hid (fun (h : stpF t c r up a < 0) => (show divF (if 0 < ovrF t c r up a then ovrF t c r up a else 0) (subF 0 (stpF t c r up a)) = ms ∧ true = mm from ⟨by rw [← hms, if_pos h, dst_max h], by rw [← hmm, decide_eq_true h]⟩))
  rw [hms, hmm]
  have EO : ovrF t c r up a = subF a.oz (addF (addF (baseFd t c r) (mulF (slaF t c r up) (rofX t c a))) (mulF (slbF t c r up) (rofY t r a))) := rfl
  have ES : stpF t c r up a = subF (subF a.dz (mulF (slaF t c r up) a.dx)) (mulF (slbF t c r up) a.dy) := rfl
  have FXe : a.ox - t.cx - c * t.cell = rofX t c a := rfl
  have FYe : a.oy - t.cy - r * t.cell = rofY t r a := rfl
  rw [FXe] at HX
  rw [FYe] at HY
  generalize slaF t c r up = sa at *
  generalize slbF t c r up = sb at *
  generalize baseFd t c r = bs at *
  generalize rofX t c a = X at *
  generalize rofY t r a = Y at *
  generalize fz (whK t a.ox) = H at *
  generalize fz (whR t a.oy) = V at *
  generalize whX t a.ox = p at *
  generalize whY t a.oy = q at *
  generalize fz c = C at *
  generalize fz r = R at *
  generalize ovrF t c r up a = ov at *
  generalize stpF t c r up a = st at *
  have HI := Lib.hid hi
  have HO := Lib.hid EO
  have HS := Lib.hid ES
  clear hms hmm EO ES FXe FYe hcn hf m1 m2 ok P ha hi hcc hrr
  go_enter Try.func71, Try.ntmps71
  go_wp2_with fail
  refine calls_gen (S := fun W => BS w W lo top f hb gb hc gc t w.heap.size (bmL f a H V p q)) ⟨S0.out.step ((Below.refl _ _).alloc (Nat.le_refl _) _), BW.new _ _ [_, _, _, _, _, _, _, _, _, _] _ rfl⟩ (fun W1 hS => ?_)
  have B1 := Lib.hid hS
  clear hS S0
  refine (VS.out _ B1.out.s.p).mono ?_
  rintro e w2 ⟨rfl, h⟩
  have B2 := Lib.hid ((B1.out.step h).step (Below.refl _ _).drew)
  clear h B1 VS
  go_wp2_with fail
  as_aux_lemma =>
  refine wp_region_held_drew (S := fun W => W.cell? ⟨w.heap.size, 4, none⟩ = some (.int .i64 a.dx) ∧ W.cell? ⟨w.heap.size, 5, none⟩ = some (.int .i64 a.dy) ∧ W.cell? ⟨w.heap.size, 6, none⟩ = some (.int .i64 a.dz)) (by kernel_rfl) ⟨B2.out.b.c 4 _ rfl, B2.out.b.c 5 _ rfl, B2.out.b.c 6 _ rfl⟩ (fun hHeld => ?_)
  generalize w2.drew = w3 at *
  refine wpAnyH_takeD 0 34 (v := ?_) (by kernel_rfl) (by kernel_rfl) (by kernel_rfl) (by kernel_rfl) (by rfl) (fun _ _ _ h => h) ?_ hHeld ?_
  rotate_left 1
  (intro o ho W hSw; simp only [List.getElem?_toArray, List.getElem?_cons_succ, List.getElem?_cons_zero, Option.some.injEq] at ho; subst ho; (try dsimp only at hSw); go_simp; try with_reducible rfl)
  (try simp only [Act.put, List.setIfInBounds_toArray, List.set_cons_zero, List.set_cons_succ])
  refine wpAnyH_takeD 1 35 (v := ?_) (by kernel_rfl) (by kernel_rfl) (by kernel_rfl) (by kernel_rfl) (by rfl) (fun _ _ _ h => h) ?_ hHeld ?_
  rotate_left 1
  (intro o ho W hSw; simp only [List.getElem?_toArray, List.getElem?_cons_succ, List.getElem?_cons_zero, Option.some.injEq] at ho; subst ho; (try dsimp only at hSw); go_simp; try with_reducible rfl)
  (try simp only [Act.put, List.setIfInBounds_toArray, List.set_cons_zero, List.set_cons_succ])
  refine wpAnyH_takeD 2 36 (v := ?_) (by kernel_rfl) (by kernel_rfl) (by kernel_rfl) (by kernel_rfl) (by rfl) (fun _ _ _ h => h) ?_ hHeld ?_
  rotate_left 1
  (intro o ho W hSw; simp only [List.getElem?_toArray, List.getElem?_cons_succ, List.getElem?_cons_zero, Option.some.injEq] at ho; subst ho; (try dsimp only at hSw); go_simp; try with_reducible rfl)
  (try simp only [Act.put, List.setIfInBounds_toArray, List.set_cons_zero, List.set_cons_succ])
  refine wpAnyH_takeD 3 37 (v := ?_) (by kernel_rfl) (by kernel_rfl) (by kernel_rfl) (by kernel_rfl) (by rfl) (fun _ _ _ h => h) ?_ hHeld ?_
  rotate_left 1
  (intro o ho W hSw; simp only [List.getElem?_toArray, List.getElem?_cons_succ, List.getElem?_cons_zero, Option.some.injEq] at ho; subst ho; (try dsimp only at hSw); go_simp; try with_reducible rfl)
  (try simp only [Act.put, List.setIfInBounds_toArray, List.set_cons_zero, List.set_cons_succ])
  refine wpAnyH_takeD 4 38 (v := ?_) (by kernel_rfl) (by kernel_rfl) (by kernel_rfl) (by kernel_rfl) (by rfl) (fun _ _ _ h => h) ?_ hHeld ?_
  rotate_left 1
  (intro o ho W hSw; simp only [List.getElem?_toArray, List.getElem?_cons_succ, List.getElem?_cons_zero, Option.some.injEq] at ho; subst ho; (try dsimp only at hSw); go_simp; try with_reducible rfl)
  (try simp only [Act.put, List.setIfInBounds_toArray, List.set_cons_zero, List.set_cons_succ])
  refine wpAnyH_takeD 5 39 (v := ?_) (by kernel_rfl) (by kernel_rfl) (by kernel_rfl) (by kernel_rfl) (by rfl) (fun _ _ _ h => h) ?_ hHeld ?_
  rotate_left 1
  (intro o ho W hSw; simp only [List.getElem?_toArray, List.getElem?_cons_succ, List.getElem?_cons_zero, Option.some.injEq] at ho; subst ho; (try dsimp only at hSw); go_simp; try with_reducible rfl)
  (try simp only [Act.put, List.setIfInBounds_toArray, List.set_cons_zero, List.set_cons_succ])
  refine wpAnyH_takeD 6 40 (v := ?_) (by kernel_rfl) (by kernel_rfl) (by kernel_rfl) (by kernel_rfl) (by rfl) (fun _ _ _ h => h) ?_ hHeld ?_
  rotate_left 1
  (intro o ho W hSw; simp only [List.getElem?_toArray, List.getElem?_cons_succ, List.getElem?_cons_zero, Option.some.injEq] at ho; subst ho; (try dsimp only at hSw); go_simp; try with_reducible rfl)
  (try simp only [Act.put, List.setIfInBounds_toArray, List.set_cons_zero, List.set_cons_succ])
  refine wpAnyH_takeD 7 41 (v := ?_) (by kernel_rfl) (by kernel_rfl) (by kernel_rfl) (by kernel_rfl) (by rfl) (fun _ _ _ h => h) ?_ hHeld ?_
  rotate_left 1
  (intro o ho W hSw; simp only [List.getElem?_toArray, List.getElem?_cons_succ, List.getElem?_cons_zero, Option.some.injEq] at ho; subst ho; (try dsimp only at hSw); go_simp; try with_reducible rfl)
  (try simp only [Act.put, List.setIfInBounds_toArray, List.set_cons_zero, List.set_cons_succ])
  refine wpAnyH_takeD 8 42 (v := ?_) (by kernel_rfl) (by kernel_rfl) (by kernel_rfl) (by kernel_rfl) (by rfl) (fun _ _ _ h => h) ?_ hHeld ?_
  rotate_left 1
  (intro o ho W hSw; simp only [List.getElem?_toArray, List.getElem?_cons_succ, List.getElem?_cons_zero, Option.some.injEq] at ho; subst ho; (try dsimp only at hSw); go_simp; try with_reducible rfl)
  (try simp only [Act.put, List.setIfInBounds_toArray, List.set_cons_zero, List.set_cons_succ])
  refine wpAnyH_takeD 9 43 (v := ?_) (by kernel_rfl) (by kernel_rfl) (by kernel_rfl) (by kernel_rfl) (by rfl) (fun _ _ _ h => h) ?_ hHeld ?_
  rotate_left 1
  (intro o ho W hSw; simp only [List.getElem?_toArray, List.getElem?_cons_succ, List.getElem?_cons_zero, Option.some.injEq] at ho; subst ho; (try dsimp only at hSw); go_simp; try with_reducible rfl)
  (try simp only [Act.put, List.setIfInBounds_toArray, List.set_cons_zero, List.set_cons_succ])
  refine wpAnyH_takeD 12 46 (v := ?_) (by kernel_rfl) (by kernel_rfl) (by kernel_rfl) (by kernel_rfl) (by rfl) (fun _ _ _ h => h) ?_ hHeld ?_
  rotate_left 1
  (intro o ho W hSw; simp only [List.getElem?_toArray, List.getElem?_cons_succ, List.getElem?_cons_zero, Option.some.injEq] at ho; subst ho; (try dsimp only at hSw); go_simp; try with_reducible rfl)
  (try simp only [Act.put, List.setIfInBounds_toArray, List.set_cons_zero, List.set_cons_succ])
  refine wpAnyH_takeD 13 47 (v := ?_) (by kernel_rfl) (by kernel_rfl) (by kernel_rfl) (by kernel_rfl) (by rfl) (fun _ _ _ h => h) ?_ hHeld ?_
  rotate_left 1
  (intro o ho W hSw; simp only [List.getElem?_toArray, List.getElem?_cons_succ, List.getElem?_cons_zero, Option.some.injEq] at ho; subst ho; (try dsimp only at hSw); go_simp; try with_reducible rfl)
  (try simp only [Act.put, List.setIfInBounds_toArray, List.set_cons_zero, List.set_cons_succ])
  refine wpAnyH_takeD 14 48 (v := ?_) (by kernel_rfl) (by kernel_rfl) (by kernel_rfl) (by kernel_rfl) (by rfl) (fun _ _ _ h => h) ?_ hHeld ?_
  rotate_left 1
  (intro o ho W hSw; simp only [List.getElem?_toArray, List.getElem?_cons_succ, List.getElem?_cons_zero, Option.some.injEq] at ho; subst ho; (try dsimp only at hSw); go_simp; try with_reducible rfl)
  (try simp only [Act.put, List.setIfInBounds_toArray, List.set_cons_zero, List.set_cons_succ])
  refine wpAnyH_takeD 15 49 (v := ?_) (by kernel_rfl) (by kernel_rfl) (by kernel_rfl) (by kernel_rfl) (by rfl) (fun _ _ _ h => h) ?_ hHeld ?_
  rotate_left 1
  (intro o ho W hSw; simp only [List.getElem?_toArray, List.getElem?_cons_succ, List.getElem?_cons_zero, Option.some.injEq] at ho; subst ho; (try dsimp only at hSw); go_simp; try with_reducible rfl)
  (try simp only [Act.put, List.setIfInBounds_toArray, List.set_cons_zero, List.set_cons_succ])
  refine wpAnyH_takeD 16 50 (v := ?_) (by kernel_rfl) (by kernel_rfl) (by kernel_rfl) (by kernel_rfl) (by rfl) (fun _ _ _ h => h) ?_ hHeld ?_
  rotate_left 1
  (intro o ho W hSw; simp only [List.getElem?_toArray, List.getElem?_cons_succ, List.getElem?_cons_zero, Option.some.injEq] at ho; subst ho; (try dsimp only at hSw); go_simp; try with_reducible rfl)
  (try simp only [Act.put, List.setIfInBounds_toArray, List.set_cons_zero, List.set_cons_succ])
  refine wpAnyH_onlyD 10 (by kernel_rfl) (fun o ho K hK => ?_) (by kernel_rfl)
  simp only [List.getElem?_toArray, List.getElem?_cons_succ, List.getElem?_cons_zero, Option.some.injEq] at ho
  subst ho
  go_simp
  refine (fxMul_nil sa a.dx _ SA.out.1 SA.out.2 HI.out.d.x0 HI.out.d.x1).mono ?_
  rintro e w4 ⟨rfl, h⟩
  have B4 := Lib.hid (B2.out.step h)
  go_wp2_with fail
  refine hK.out _ _ (⟨B4.out.b.c 4 _ rfl, B4.out.b.c 5 _ rfl, B4.out.b.c 6 _ rfl⟩) ?_
  clear hK K hHeld
  intro hHeld
  clear h B2
  refine wpAnyH_onlyD 11 (by kernel_rfl) (fun o ho K hK => ?_) (by kernel_rfl)
  simp only [List.getElem?_toArray, List.getElem?_cons_succ, List.getElem?_cons_zero, Option.some.injEq] at ho
  subst ho
  go_simp
  refine (fxSub_nil a.dz (mulF sa a.dx) _ HI.out.d.z0 HI.out.d.z1 (mulF_in _ _).1 (mulF_in _ _).2).mono ?_
  rintro e w5 ⟨rfl, h⟩
  have B5 := Lib.hid (B4.out.step h)
  go_wp2_with fail
  refine hK.out _ _ (⟨B5.out.b.c 4 _ rfl, B5.out.b.c 5 _ rfl, B5.out.b.c 6 _ rfl⟩) ?_
  clear hK K hHeld
  intro hHeld
  clear h B4
  refine wpAnyH_onlyD 17 (by kernel_rfl) (fun o ho K hK => ?_) (by kernel_rfl)
  simp only [List.getElem?_toArray, List.getElem?_cons_succ, List.getElem?_cons_zero, Option.some.injEq] at ho
  subst ho
  go_simp
  refine (fxMul_nil sb a.dy _ SB.out.1 SB.out.2 HI.out.d.y0 HI.out.d.y1).mono ?_
  rintro e w6 ⟨rfl, h⟩
  have B6 := Lib.hid (B5.out.step h)
  go_wp2_with fail
  refine hK.out _ _ (⟨B6.out.b.c 4 _ rfl, B6.out.b.c 5 _ rfl, B6.out.b.c 6 _ rfl⟩) ?_
  clear hK K hHeld
  intro hHeld
  clear h B5
  refine wpAnyH_onlyD 18 (by kernel_rfl) (fun o ho K hK => ?_) (by kernel_rfl)
  simp only [List.getElem?_toArray, List.getElem?_cons_succ, List.getElem?_cons_zero, Option.some.injEq] at ho
  subst ho
  go_simp
  refine (fxSub_nil (subF a.dz (mulF sa a.dx)) (mulF sb a.dy) _ (subF_in _ _).1 (subF_in _ _).2 (mulF_in _ _).1 (mulF_in _ _).2).mono ?_
  rintro e w7 ⟨rfl, h⟩
  have B7 := Lib.hid (B6.out.step h)
  go_wp2_with fail
  refine hK.out _ _ (⟨B7.out.b.c 4 _ rfl, B7.out.b.c 5 _ rfl, B7.out.b.c 6 _ rfl⟩) ?_
  clear hK K hHeld
  intro hHeld
  clear h B6
  refine wpAnyH_takeD 19 13 (v := ?_) (by kernel_rfl) (by kernel_rfl) (by kernel_rfl) (by kernel_rfl) (by rfl) (fun _ _ _ h => h) ?_ hHeld ?_
  rotate_left 1
  (intro o ho W hSw; simp only [List.getElem?_toArray, List.getElem?_cons_succ, List.getElem?_cons_zero, Option.some.injEq] at ho; subst ho; (try dsimp only at hSw); go_simp; try with_reducible rfl)
  (try simp only [Act.put, List.setIfInBounds_toArray, List.set_cons_zero, List.set_cons_succ])
  refine wpAnyH_done (by kernel_rfl) ?_ _
  clear hHeld
  as_aux_lemma =>
  have IS := Lib.hid (show In64 st by rw [HS.out]; exact subF_in _ _)
  rw [← HS.out]
  clear HS
  by_cases s1 : st < 0
  rotate_left
  · have E := Lib.hid (MN.out (by omega))
    have s2 : 0 ≤ st := by omega
    clear MN MY VB VO HO hc1 hc2
    go_wp2
    go_ret2
    exact ⟨by rw [← E.out.1, ← E.out.2]; rfl, B7.out.s.l⟩
  have E := Lib.hid (MY.out (by omega))
  clear MN MY
  have b0 := B7.out.b.c 0 _ rfl
  have b1 := B7.out.b.c 1 _ rfl
  have b2 := B7.out.b.c 2 _ rfl
  have b3 := B7.out.b.c 3 _ rfl
  have b4 := B7.out.b.c 4 _ rfl
  have b5 := B7.out.b.c 5 _ rfl
  have b6 := B7.out.b.c 6 _ rfl
  have b7 := B7.out.b.c 7 _ rfl
  have b8 := B7.out.b.c 8 _ rfl
  have b9 := B7.out.b.c 9 _ rfl
  go_wp2_with fail
  refine (VO.out _ B7.out.s.p).mono ?_
  rintro e w8 ⟨rfl, h⟩
  have B8 := Lib.hid (B7.out.step h)
  clear h B7
  clear b0 b1 b2 b3 b4 b5 b6 b7 b8 b9 VO
  have b0 := B8.out.b.c 0 _ rfl
  go_wp2_with fail
  refine (VB.out _ B8.out.s.p).mono ?_
  rintro e w9 ⟨rfl, h⟩
  have B9 := Lib.hid (B8.out.step h)
  clear h B8
  clear b0 VB
  go_wp2_with fail
  refine (fxMul_nil sa X _ SA.out.1 SA.out.2 HX.out.1 HX.out.2).mono ?_
  rintro e w10 ⟨rfl, h⟩
  have B10 := Lib.hid (B9.out.step h)
  clear h B9
  go_wp2_with fail
  refine (fxAdd_nil bs (mulF sa X) _ BI.out.1 BI.out.2 (mulF_in _ _).1 (mulF_in _ _).2).mono ?_
  rintro e w11 ⟨rfl, h⟩
  have B11 := Lib.hid (B10.out.step h)
  clear h B10
  go_wp2_with fail
  refine (fxMul_nil sb Y _ SB.out.1 SB.out.2 HY.out.1 HY.out.2).mono ?_
  rintro e w12 ⟨rfl, h⟩
  have B12 := Lib.hid (B11.out.step h)
  clear h B11
  go_wp2_with fail
  refine (fxAdd_nil (addF bs (mulF sa X)) (mulF sb Y) _ (addF_in _ _).1 (addF_in _ _).2 (mulF_in _ _).1 (mulF_in _ _).2).mono ?_
  rintro e w13 ⟨rfl, h⟩
  have B13 := Lib.hid (B12.out.step h)
  clear h B12
  have b3 := B13.out.b.c 3 _ rfl
  go_wp2_with fail
  refine (fxSub_nil a.oz (addF (addF bs (mulF sa X)) (mulF sb Y)) _ HI.out.o.z0 HI.out.o.z1 (addF_in _ _).1 (addF_in _ _).2).mono ?_
  rintro e w14 ⟨rfl, h⟩
  have B14 := Lib.hid (B13.out.step h)
  clear h B13
  clear b3
  have IO := Lib.hid (show In64 ov by rw [HO.out]; exact subF_in _ _)
  rw [← HO.out]
  clear HO
  obtain ⟨mx, hx0⟩ : ∃ mx, (if 0 < ov then ov else 0) = mx := ⟨_, rfl⟩
  have hx1 : max ov 0 = mx := by rw [← hx0]; split <;> omega
  have hx2 : (if 0 > ov then 0 else ov) = mx := by rw [← hx0]; split <;> split <;> omega
  have hx3 : (if ov < 0 then 0 else ov) = mx := by rw [← hx0]; split <;> split <;> omega
  rw [hx0] at E
  have IM := Lib.hid (show In64 mx by rw [← hx0]; have := IO.out; unfold In64 at *; split <;> omega)
  clear hx0 IO
  go_wp2_with fail
  refine (fxNeg_nil st _ IS.out.1 IS.out.2).mono ?_
  rintro e w15 ⟨rfl, h⟩
  have B15 := Lib.hid (B14.out.step h)
  clear h B14
  go_wp2_with fail
  refine (fxDiv_nil mx (subF 0 st) _ IM.out.1 IM.out.2 (subF_in _ _).1 (subF_in _ _).2).mono ?_
  rintro e w16 ⟨rfl, h⟩
  have B16 := Lib.hid (B15.out.step h)
  clear h B15
  clear hx1 hx2 hx3
  go_wp2
  go_ret2
  exact ⟨by rw [← E.out.1, ← E.out.2]; rfl, B16.out.s.l⟩
set_option maxRecDepth 100000 in
set_option maxHeartbeats 4000000 in
theorem ySpan_any (t : Trk) (a : Ry) (H V : Nat) (p q s : Int) (lo top f hb gb hc gc : Nat) (w : World) (P : FX lo top w f hb gb hc gc t) (ha : a.ins) (hs : In64 s) (hH : H < 64) (hV : V < 64) :
    Calls Try.prog 70 #[bmW f a (fz H) (fz V) p q, .int .i64 s] w fun e w' => e = .returned (.tuple #[.complex .f64 (fz ((min H (whK t (pntF a.ox a.dx s)) : Nat))) (fz ((min V (whR t (pntF a.oy a.dy s)) : Nat))), .complex .f64 (fz ((max H (whK t (pntF a.ox a.dx s)) : Nat))) (fz ((max V (whR t (pntF a.oy a.dy s)) : Nat)))]) ∧ Below w.heap.size w w' := by
  have TR := Lib.hid (fun (W : World) (Q : FX lo top W f hb gb hc gc t) => yTri_any t a (fz H) (fz V) p q s lo top f hb gb hc gc W Q ha hs)
  have S0 := Lib.hid (FS.mk (w := w) P (Below.refl _ _))
  have ok := wh_ok P.r.1 (pntF a.ox a.dx s) (pntF a.oy a.dy s)
  obtain ⟨⟨⟨m1, m2⟩, -⟩, -⟩ := P.r
  obtain ⟨⟨-, k2⟩, -, k4⟩ := ok
  have n1 : ∀ ts t' w, (Builtin.min_ ts t' #[.float .f64 (fz H), .float .f64 (fz (whK t (pntF a.ox a.dx s)))]).run Try.prog w = .ok (.float .f64 (fz ((min H (whK t (pntF a.ox a.dx s)) : Nat)))) w := fun ts t' w => fz_min w (by omega) (by omega) ts t'
  have n2 : ∀ ts t' w, (Builtin.min_ ts t' #[.float .f64 (fz V), .float .f64 (fz (whR t (pntF a.oy a.dy s)))]).run Try.prog w = .ok (.float .f64 (fz ((min V (whR t (pntF a.oy a.dy s)) : Nat)))) w := fun ts t' w => fz_min w (by omega) (by omega) ts t'
  have n3 : ∀ ts t' w, (Builtin.max_ ts t' #[.float .f64 (fz H), .float .f64 (fz (whK t (pntF a.ox a.dx s)))]).run Try.prog w = .ok (.float .f64 (fz ((max H (whK t (pntF a.ox a.dx s)) : Nat)))) w := fun ts t' w => fz_max w (by omega) (by omega) ts t'
  have n4 : ∀ ts t' w, (Builtin.max_ ts t' #[.float .f64 (fz V), .float .f64 (fz (whR t (pntF a.oy a.dy s)))]).run Try.prog w = .ok (.float .f64 (fz ((max V (whR t (pntF a.oy a.dy s)) : Nat)))) w := fun ts t' w => fz_max w (by omega) (by omega) ts t'
  generalize pntF a.ox a.dx s = X at *
  generalize pntF a.oy a.dy s = Y at *
  generalize decide (whX t X < whY t Y) = dl at *
  generalize fz ((min H (whK t X) : Nat)) = z1 at *
  generalize fz ((min V (whR t Y) : Nat)) = z2 at *
  generalize fz ((max H (whK t X) : Nat)) = z3 at *
  generalize fz ((max V (whR t Y) : Nat)) = z4 at *
  generalize fz (whK t X) = E at *
  generalize fz (whR t Y) = F at *
  generalize fz H = H' at *
  generalize fz V = V' at *
  clear P ha hs m1 m2 k2 k4 hH hV
  go_enter Try.func70, Try.ntmps70
  go_wp2_with fail
  refine calls_gen (S := fun W => BS w W lo top f hb gb hc gc t w.heap.size (bmL f a H' V' p q)) ⟨S0.out.step ((Below.refl _ _).alloc (Nat.le_refl _) _), BW.new _ _ [_, _, _, _, _, _, _, _, _, _] _ rfl⟩ (fun W1 hS => ?_)
  have B1 := Lib.hid hS
  clear hS S0
  refine (TR.out _ B1.out.s.p).mono ?_
  rintro e w2 ⟨rfl, h⟩
  have B2 := Lib.hid (B1.out.step h)
  clear h B1 TR
  have b7 := B2.out.b.c 7 _ rfl
  go_wp2
  go_ret2
  exact ⟨rfl, B2.out.s.l⟩
end Go.Proofs.Ytinahmhiopgcnaa

/- The program's ray: within, valid, cellOf, Point, a beam's triangle, in, offset; newBeam. -/
import Derived.Test.YtinahmhiopgcnaaGreatAw
import Derived.Test.YtinahmhiopgcnaaGreatAx
namespace Go.Proofs.YtinahmhiopgcnaaGreat
open Go.RowKit
set_option linter.unusedVariables false
set_option linter.unusedSimpArgs false

theorem yWithin_any (m n : Int) (w : World) (hm : 0 ≤ m ∧ m ≤ 281474976710656) :
    Calls Tryz.prog 34 #[.int .i64 m, .int .i64 n] w fun e w' => e = .returned (.bool (decide (-m ≤ n ∧ n ≤ m))) ∧ w' = w := by
  obtain ⟨r, hr⟩ : ∃ r, decide (-m ≤ n ∧ n ≤ m) = r := ⟨_, rfl⟩
  rw [hr]
  have R := Lib.hid hr
  obtain ⟨u, v⟩ := wrap_in' (n := -m) (by unfold In64; omega)
  clear hr
  go_enter Tryz.func34, Tryz.ntmps34
  by_cases c : -m ≤ n
  · have E := Lib.hid (show decide (n ≤ m) = r by rw [← R.out, decide_eq_decide]; exact ⟨fun k => ⟨c, k⟩, fun k => k.2⟩)
    clear R
    go_wp2
    go_ret
    exact ⟨by rw [← E.out]; rfl, rfl⟩
  · have E := Lib.hid (show false = r by rw [← R.out]; symm; rw [decide_eq_false_iff_not]; exact fun k => c k.1)
    clear R
    go_wp2
    go_ret
    exact ⟨by rw [← E.out]; rfl, rfl⟩
set_option maxRecDepth 100000 in
set_option maxHeartbeats 4000000 in
theorem yValid_any (a : Ry) (w : World) :
    Calls Tryz.prog 17 #[a.o, a.d, .int .i64 a.long] w fun e w' => e = .returned (.bool (decide a.may)) ∧ Below w.heap.size w w' := by
  obtain ⟨q, hq⟩ : ∃ q, decide a.may = q := ⟨_, rfl⟩
  have E := hq
  rw [hq]
  rw [may_bools] at E
  have V1 := Lib.hid (fun (W : World) => yWithin_any 281474976710656 a.ox W (by omega))
  have V2 := Lib.hid (fun (W : World) => yWithin_any 281474976710656 a.oy W (by omega))
  have V3 := Lib.hid (fun (W : World) => yWithin_any 4398046511104 a.oz W (by omega))
  have V4 := Lib.hid (fun (W : World) => yWithin_any 4294967296 a.dx W (by omega))
  have V5 := Lib.hid (fun (W : World) => yWithin_any 4294967296 a.dy W (by omega))
  have V6 := Lib.hid (fun (W : World) => yWithin_any 4294967296 a.dz W (by omega))
  generalize decide (-281474976710656 ≤ a.ox ∧ a.ox ≤ 281474976710656) = q1 at *
  generalize decide (-281474976710656 ≤ a.oy ∧ a.oy ≤ 281474976710656) = q2 at *
  generalize decide (-4398046511104 ≤ a.oz ∧ a.oz ≤ 4398046511104) = q3 at *
  generalize decide (-4294967296 ≤ a.dx ∧ a.dx ≤ 4294967296) = q4 at *
  generalize decide (-4294967296 ≤ a.dy ∧ a.dy ≤ 4294967296) = q5 at *
  generalize decide (-4294967296 ≤ a.dz ∧ a.dz ≤ 4294967296) = q6 at *
  have HE := Lib.hid E
  clear E hq
  go_enter Tryz.func17, Tryz.ntmps17
  go_wp2_with fail
  refine (V1.out _).mono ?_
  rintro e w' ⟨rfl, rfl⟩
  cases q1
  · skip
    have E := Lib.hid (show false = q by have := HE.out; simpa using this)
    clear HE
    go_wp2
    go_ret
    exact ⟨by rw [← E.out]; rfl, by repeat (first | exact Below.refl _ _ | assumption | refine Below.setCell ?_ (by first | omega | (simp; done) | (simp; omega)) _ | refine Below.alloc ?_ (by first | omega | (simp; done) | (simp; omega)) _ | refine below_drewN ?_ _ | refine Below.drew ?_ | refine Below.trans ?_ (Below.mono (by assumption) (by first | omega | (simp; done) | (simp; omega))))⟩
  go_wp2_with fail
  refine (V2.out _).mono ?_
  rintro e w' ⟨rfl, rfl⟩
  cases q2
  · skip
    have E := Lib.hid (show false = q by have := HE.out; simpa using this)
    clear HE
    go_wp2
    go_ret
    exact ⟨by rw [← E.out]; rfl, by repeat (first | exact Below.refl _ _ | assumption | refine Below.setCell ?_ (by first | omega | (simp; done) | (simp; omega)) _ | refine Below.alloc ?_ (by first | omega | (simp; done) | (simp; omega)) _ | refine below_drewN ?_ _ | refine Below.drew ?_ | refine Below.trans ?_ (Below.mono (by assumption) (by first | omega | (simp; done) | (simp; omega))))⟩
  go_wp2_with fail
  refine (V3.out _).mono ?_
  rintro e w' ⟨rfl, rfl⟩
  cases q3
  · skip
    have E := Lib.hid (show false = q by have := HE.out; simpa using this)
    clear HE
    go_wp2
    go_ret
    exact ⟨by rw [← E.out]; rfl, by repeat (first | exact Below.refl _ _ | assumption | refine Below.setCell ?_ (by first | omega | (simp; done) | (simp; omega)) _ | refine Below.alloc ?_ (by first | omega | (simp; done) | (simp; omega)) _ | refine below_drewN ?_ _ | refine Below.drew ?_ | refine Below.trans ?_ (Below.mono (by assumption) (by first | omega | (simp; done) | (simp; omega))))⟩
  go_wp2_with fail
  refine (V4.out _).mono ?_
  rintro e w' ⟨rfl, rfl⟩
  cases q4
  · skip
    have E := Lib.hid (show false = q by have := HE.out; simpa using this)
    clear HE
    go_wp2
    go_ret
    exact ⟨by rw [← E.out]; rfl, by repeat (first | exact Below.refl _ _ | assumption | refine Below.setCell ?_ (by first | omega | (simp; done) | (simp; omega)) _ | refine Below.alloc ?_ (by first | omega | (simp; done) | (simp; omega)) _ | refine below_drewN ?_ _ | refine Below.drew ?_ | refine Below.trans ?_ (Below.mono (by assumption) (by first | omega | (simp; done) | (simp; omega))))⟩
  go_wp2_with fail
  refine (V5.out _).mono ?_
  rintro e w' ⟨rfl, rfl⟩
  cases q5
  · skip
    have E := Lib.hid (show false = q by have := HE.out; simpa using this)
    clear HE
    go_wp2
    go_ret
    exact ⟨by rw [← E.out]; rfl, by repeat (first | exact Below.refl _ _ | assumption | refine Below.setCell ?_ (by first | omega | (simp; done) | (simp; omega)) _ | refine Below.alloc ?_ (by first | omega | (simp; done) | (simp; omega)) _ | refine below_drewN ?_ _ | refine Below.drew ?_ | refine Below.trans ?_ (Below.mono (by assumption) (by first | omega | (simp; done) | (simp; omega))))⟩
  go_wp2_with fail
  refine (V6.out _).mono ?_
  rintro e w' ⟨rfl, rfl⟩
  cases q6
  · skip
    have E := Lib.hid (show false = q by have := HE.out; simpa using this)
    clear HE
    go_wp2
    go_ret
    exact ⟨by rw [← E.out]; rfl, by repeat (first | exact Below.refl _ _ | assumption | refine Below.setCell ?_ (by first | omega | (simp; done) | (simp; omega)) _ | refine Below.alloc ?_ (by first | omega | (simp; done) | (simp; omega)) _ | refine below_drewN ?_ _ | refine Below.drew ?_ | refine Below.trans ?_ (Below.mono (by assumption) (by first | omega | (simp; done) | (simp; omega))))⟩
  have F := Lib.hid (show decide (0 ≤ a.long ∧ a.long ≤ 274877906944) = q by have := HE.out; simpa using this)
  clear HE V1 V2 V3 V4 V5 V6
  by_cases c : 0 ≤ a.long
  · have E := Lib.hid (show decide (a.long ≤ 274877906944) = q by rw [← F.out, decide_eq_decide]; exact ⟨fun k => ⟨c, k⟩, fun k => k.2⟩)
    clear F
    go_wp2
    go_ret
    exact ⟨by rw [← E.out]; rfl, by repeat (first | exact Below.refl _ _ | assumption | refine Below.setCell ?_ (by first | omega | (simp; done) | (simp; omega)) _ | refine Below.alloc ?_ (by first | omega | (simp; done) | (simp; omega)) _ | refine below_drewN ?_ _ | refine Below.drew ?_ | refine Below.trans ?_ (Below.mono (by assumption) (by first | omega | (simp; done) | (simp; omega))))⟩
  · have E := Lib.hid (show false = q by rw [← F.out]; symm; rw [decide_eq_false_iff_not]; exact fun k => c k.1)
    clear F
    go_wp2
    go_ret
    exact ⟨by rw [← E.out]; rfl, by repeat (first | exact Below.refl _ _ | assumption | refine Below.setCell ?_ (by first | omega | (simp; done) | (simp; omega)) _ | refine Below.alloc ?_ (by first | omega | (simp; done) | (simp; omega)) _ | refine below_drewN ?_ _ | refine Below.drew ?_ | refine Below.trans ?_ (Below.mono (by assumption) (by first | omega | (simp; done) | (simp; omega))))⟩
theorem yCell_any (c r : Int) (w : World) :
    Calls Tryz.prog 36 #[.int .i64 c, .int .i64 r] w fun e w' => e = .returned (.complex .f64 (fz c) (fz r)) ∧ w' = w := by
  go_enter Tryz.func36, Tryz.ntmps36
  go_wp2
  go_ret
  exact ⟨rfl, rfl⟩
set_option maxRecDepth 100000 in
set_option maxHeartbeats 4000000 in
theorem yPoint_any (a : Ry) (s : Int) (b k : Nat) (o : Bool) (w : World) (ha : a.ins) (hs : In64 s) (m : MAt w b k o) :
    Calls Tryz.prog 20 #[.pointer (some ⟨b, k, none⟩), a.o, a.d, .int .i64 s] w fun e w' => e = .returned (.agg #[.int .i64 (pntF a.ox a.dx s), .int .i64 (pntF a.oy a.dy s), .int .i64 (pntF a.oz a.dz s)]) ∧ FxW w.heap.size w b k (o || pntO a s) w' := by
  have VS := Lib.hid (fun (W : World) (m : MAt W b k o) => VScale_any a.dx a.dy a.dz s b k o W ha.d hs.1 hs.2 m)
  have hi : In3 (mulF a.dx s) (mulF a.dy s) (mulF a.dz s) := ⟨(mulF_in _ _).1, (mulF_in _ _).2, (mulF_in _ _).1, (mulF_in _ _).2, (mulF_in _ _).1, (mulF_in _ _).2⟩
  have VA := Lib.hid (fun (W : World) (q : Bool) (m : MAt W b k q) => VAdd_any a.ox a.oy a.oz (mulF a.dx s) (mulF a.dy s) (mulF a.dz s) b k q W ha.o hi m)
  have E := Lib.hid (show ∀ o : Bool, (o || pntO a s) = ((o || mulO a.dx s || mulO a.dy s || mulO a.dz s) || addO a.ox (mulF a.dx s) || addO a.oy (mulF a.dy s) || addO a.oz (mulF a.dz s)) from fun o => by unfold pntO; simp only [Bool.or_assoc])
  rw [E.out]
  unfold pntF
  generalize mulO a.dx s = f1 at *
  generalize mulO a.dy s = f2 at *
  generalize mulO a.dz s = f3 at *
  generalize addO a.ox (mulF a.dx s) = f4 at *
  generalize addO a.oy (mulF a.dy s) = f5 at *
  generalize addO a.oz (mulF a.dz s) = f6 at *
  generalize addF a.ox (mulF a.dx s) = x at *
  generalize addF a.oy (mulF a.dy s) = y at *
  generalize addF a.oz (mulF a.dz s) = z at *
  generalize mulF a.dx s = s1 at *
  generalize mulF a.dy s = s2 at *
  generalize mulF a.dz s = s3 at *
  have hlt := m.lt
  have HM := Lib.hid m
  clear ha hs hi m E
  go_enter Tryz.func20, Tryz.ntmps20
  go_wp2_with fail
  refine wp_gen (S := fun W => (RB w W w.heap.size a ∧ VW W (w.heap.size + 1 + 1) 0 0 0) ∧ Flag w W b k o) ⟨⟨⟨((VW.new w w.heap.size a.ox a.oy a.oz _ rfl).alloc _).alloc _, (VW.new _ _ a.dx a.dy a.dz _ (by simp)).alloc _, by repeat (first | exact Below.refl _ _ | assumption | refine Below.setCell ?_ (by first | omega | (simp; done) | (simp; omega)) _ | refine Below.alloc ?_ (by first | omega | (simp; done) | (simp; omega)) _ | refine below_drewN ?_ _ | refine Below.drew ?_ | refine Below.trans ?_ (Below.mono (by assumption) (by first | omega | (simp; done) | (simp; omega))))⟩, VW.new _ _ 0 0 0 _ (by simp)⟩, Flag.start HM.out (by repeat (first | exact Below.refl _ _ | assumption | refine Below.setCell ?_ (by first | omega | (simp; done) | (simp; omega)) _ | refine Below.alloc ?_ (by first | omega | (simp; done) | (simp; omega)) _ | refine below_drewN ?_ _ | refine Below.drew ?_ | refine Below.trans ?_ (Below.mono (by assumption) (by first | omega | (simp; done) | (simp; omega)))))⟩ (fun W1 hS => ?_)
  have O0 := Lib.hid hS.1.1.o.drew
  have D0 := Lib.hid hS.1.1.d.drew
  have R0 := Lib.hid hS.1.2.drew
  have G0 := Lib.hid (hS.2.more (Below.refl _ _).drew)
  clear hS HM
  refine wp_region_held_drew (S := fun W => (W.cell? ⟨w.heap.size, 0, none⟩ = some (.int .i64 (a.ox)) ∧ W.cell? ⟨w.heap.size, 1, none⟩ = some (.int .i64 (a.oy)) ∧ W.cell? ⟨w.heap.size, 2, none⟩ = some (.int .i64 (a.oz))) ∧ (W.cell? ⟨w.heap.size + 1, 0, none⟩ = some (.int .i64 (a.dx)) ∧ W.cell? ⟨w.heap.size + 1, 1, none⟩ = some (.int .i64 (a.dy)) ∧ W.cell? ⟨w.heap.size + 1, 2, none⟩ = some (.int .i64 (a.dz)))) (by kernel_rfl) ⟨O0.out.held, D0.out.held⟩ (fun hHeld => ?_)
  generalize W1.drew = w0 at *
  refine wpAnyH_takeD 0 9 (v := ?_) (by kernel_rfl) (by kernel_rfl) (by kernel_rfl) (by kernel_rfl) (by rfl) (fun _ _ _ h => h) ?_ hHeld ?_
  rotate_left 1
  (intro o ho W hSw; simp only [List.getElem?_toArray, List.getElem?_cons_succ, List.getElem?_cons_zero, Option.some.injEq] at ho; subst ho; (try dsimp only at hSw); go_simp; try with_reducible rfl)
  (try simp only [Act.put, List.setIfInBounds_toArray, List.set_cons_zero, List.set_cons_succ])
  refine wpAnyH_takeD 1 10 (v := ?_) (by kernel_rfl) (by kernel_rfl) (by kernel_rfl) (by kernel_rfl) (by rfl) (fun _ _ _ h => h) ?_ hHeld ?_
  rotate_left 1
  (intro o ho W hSw; simp only [List.getElem?_toArray, List.getElem?_cons_succ, List.getElem?_cons_zero, Option.some.injEq] at ho; subst ho; (try dsimp only at hSw); go_simp; try with_reducible rfl)
  (try simp only [Act.put, List.setIfInBounds_toArray, List.set_cons_zero, List.set_cons_succ])
  refine wpAnyH_takeD 2 11 (v := ?_) (by kernel_rfl) (by kernel_rfl) (by kernel_rfl) (by kernel_rfl) (by rfl) (fun _ _ _ h => h) ?_ hHeld ?_
  rotate_left 1
  (intro o ho W hSw; simp only [List.getElem?_toArray, List.getElem?_cons_succ, List.getElem?_cons_zero, Option.some.injEq] at ho; subst ho; (try dsimp only at hSw); go_simp; try with_reducible rfl)
  (try simp only [Act.put, List.setIfInBounds_toArray, List.set_cons_zero, List.set_cons_succ])
  refine wpAnyH_takeD 3 12 (v := ?_) (by kernel_rfl) (by kernel_rfl) (by kernel_rfl) (by kernel_rfl) (by rfl) (fun _ _ _ h => h) ?_ hHeld ?_
  rotate_left 1
  (intro o ho W hSw; simp only [List.getElem?_toArray, List.getElem?_cons_succ, List.getElem?_cons_zero, Option.some.injEq] at ho; subst ho; (try dsimp only at hSw); go_simp; try with_reducible rfl)
  (try simp only [Act.put, List.setIfInBounds_toArray, List.set_cons_zero, List.set_cons_succ])
  refine wpAnyH_takeD 4 13 (v := ?_) (by kernel_rfl) (by kernel_rfl) (by kernel_rfl) (by kernel_rfl) (by rfl) (fun _ _ _ h => h) ?_ hHeld ?_
  rotate_left 1
  (intro o ho W hSw; simp only [List.getElem?_toArray, List.getElem?_cons_succ, List.getElem?_cons_zero, Option.some.injEq] at ho; subst ho; (try dsimp only at hSw); go_simp; try with_reducible rfl)
  (try simp only [Act.put, List.setIfInBounds_toArray, List.set_cons_zero, List.set_cons_succ])
  refine wpAnyH_onlyD 5 (by kernel_rfl) (fun o ho K hK => ?_) (by kernel_rfl)
  simp only [List.getElem?_toArray, List.getElem?_cons_succ, List.getElem?_cons_zero, Option.some.injEq] at ho
  subst ho
  go_simp
  refine (VS.out _ G0.out.m).mono ?_
  rintro e w1 ⟨rfl, h⟩
  have G1 := Lib.hid (G0.out.fx h)
  have O1 := Lib.hid (O0.out.fx h (by omega))
  have D1 := Lib.hid (D0.out.fx h (by omega))
  have R1 := Lib.hid (R0.out.fx h (by omega))
  go_wp2_with fail
  refine hK.out _ _ (⟨O1.out.held, D1.out.held⟩) ?_
  clear hK K hHeld
  intro hHeld
  clear h G0 O0 D0 R0
  refine wpAnyH_onlyD 6 (by kernel_rfl) (fun o ho K hK => ?_) (by kernel_rfl)
  simp only [List.getElem?_toArray, List.getElem?_cons_succ, List.getElem?_cons_zero, Option.some.injEq] at ho
  subst ho
  go_simp
  refine (VA.out _ _ G1.out.m).mono ?_
  rintro e w2 ⟨rfl, h⟩
  have G2 := Lib.hid (G1.out.fx h)
  have O2 := Lib.hid (O1.out.fx h (by omega))
  have D2 := Lib.hid (D1.out.fx h (by omega))
  have R2 := Lib.hid (R1.out.fx h (by omega))
  go_wp2_with fail
  refine hK.out _ _ (⟨O2.out.held, D2.out.held⟩) ?_
  clear hK K hHeld
  intro hHeld
  clear h G1 O1 D1 R1 VS VA
  have r0 := R2.out.c0
  have r1 := R2.out.c1
  have r2 := R2.out.c2
  have rf := R2.out.f
  refine wpAnyH_onlyD 7 (by kernel_rfl) (fun o ho K hK => ?_) (by kernel_rfl)
  simp only [List.getElem?_toArray, List.getElem?_cons_succ, List.getElem?_cons_zero, Option.some.injEq] at ho
  subst ho
  go_simp
  refine hK.out _ _ (⟨(((O2.out.far (by omega) _ _).far (by omega) _ _).far (by omega) _ _).held, (((D2.out.far (by omega) _ _).far (by omega) _ _).far (by omega) _ _).held⟩) ?_
  clear hK K hHeld
  intro hHeld
  refine wpAnyH_done (by kernel_rfl) ?_ _
  go_wp2
  exact bodyPost_ret (v := .agg #[.int .i64 x, .int .i64 y, .int .i64 z]) (by simp [results, Tryz.results20, go_sem, r0, r1, r2]) rfl ⟨rfl, G2.out.put3 (by omega) _ _ _⟩
set_option maxRecDepth 100000 in
set_option maxHeartbeats 4000000 in
theorem yPoint_nil (a : Ry) (s : Int) (w : World) (ha : a.ins) (hs : In64 s) :
    Calls Tryz.prog 20 #[.pointer none, a.o, a.d, .int .i64 s] w fun e w' => e = .returned (.agg #[.int .i64 (pntF a.ox a.dx s), .int .i64 (pntF a.oy a.dy s), .int .i64 (pntF a.oz a.dz s)]) ∧ Below w.heap.size w w' := by
  have VS := Lib.hid (fun (W : World) => VScale_nil a.dx a.dy a.dz s W ha.d hs.1 hs.2)
  have hi : In3 (mulF a.dx s) (mulF a.dy s) (mulF a.dz s) := ⟨(mulF_in _ _).1, (mulF_in _ _).2, (mulF_in _ _).1, (mulF_in _ _).2, (mulF_in _ _).1, (mulF_in _ _).2⟩
  have VA := Lib.hid (fun (W : World) => VAdd_nil a.ox a.oy a.oz (mulF a.dx s) (mulF a.dy s) (mulF a.dz s) W ha.o hi)
  unfold pntF
  generalize addF a.ox (mulF a.dx s) = x at *
  generalize addF a.oy (mulF a.dy s) = y at *
  generalize addF a.oz (mulF a.dz s) = z at *
  generalize mulF a.dx s = s1 at *
  generalize mulF a.dy s = s2 at *
  generalize mulF a.dz s = s3 at *
  clear ha hs hi
  go_enter Tryz.func20, Tryz.ntmps20
  go_wp2_with fail
  refine wp_gen (S := fun W => RB w W w.heap.size a ∧ VW W (w.heap.size + 1 + 1) 0 0 0) ⟨⟨((VW.new w w.heap.size a.ox a.oy a.oz _ rfl).alloc _).alloc _, (VW.new _ _ a.dx a.dy a.dz _ (by simp)).alloc _, by repeat (first | exact Below.refl _ _ | assumption | refine Below.setCell ?_ (by first | omega | (simp; done) | (simp; omega)) _ | refine Below.alloc ?_ (by first | omega | (simp; done) | (simp; omega)) _ | refine below_drewN ?_ _ | refine Below.drew ?_ | refine Below.trans ?_ (Below.mono (by assumption) (by first | omega | (simp; done) | (simp; omega))))⟩, VW.new _ _ 0 0 0 _ (by simp)⟩ (fun W1 hS => ?_)
  have A0 := Lib.hid hS.1.o.drew
  have B0 := Lib.hid hS.1.d.drew
  have R0 := Lib.hid hS.2.drew
  have G0 := Lib.hid hS.1.l.drew
  clear hS
  refine wp_region_held_drew (S := fun W => (W.cell? ⟨w.heap.size, 0, none⟩ = some (.int .i64 (a.ox)) ∧ W.cell? ⟨w.heap.size, 1, none⟩ = some (.int .i64 (a.oy)) ∧ W.cell? ⟨w.heap.size, 2, none⟩ = some (.int .i64 (a.oz))) ∧ (W.cell? ⟨w.heap.size + 1, 0, none⟩ = some (.int .i64 (a.dx)) ∧ W.cell? ⟨w.heap.size + 1, 1, none⟩ = some (.int .i64 (a.dy)) ∧ W.cell? ⟨w.heap.size + 1, 2, none⟩ = some (.int .i64 (a.dz)))) (by kernel_rfl) ⟨A0.out.held, B0.out.held⟩ (fun hHeld => ?_)
  generalize W1.drew = w0 at *
  refine wpAnyH_takeD 0 9 (v := ?_) (by kernel_rfl) (by kernel_rfl) (by kernel_rfl) (by kernel_rfl) (by rfl) (fun _ _ _ h => h) ?_ hHeld ?_
  rotate_left 1
  (intro o ho W hSw; simp only [List.getElem?_toArray, List.getElem?_cons_succ, List.getElem?_cons_zero, Option.some.injEq] at ho; subst ho; (try dsimp only at hSw); go_simp; try with_reducible rfl)
  (try simp only [Act.put, List.setIfInBounds_toArray, List.set_cons_zero, List.set_cons_succ])
  refine wpAnyH_takeD 1 10 (v := ?_) (by kernel_rfl) (by kernel_rfl) (by kernel_rfl) (by kernel_rfl) (by rfl) (fun _ _ _ h => h) ?_ hHeld ?_
  rotate_left 1
  (intro o ho W hSw; simp only [List.getElem?_toArray, List.getElem?_cons_succ, List.getElem?_cons_zero, Option.some.injEq] at ho; subst ho; (try dsimp only at hSw); go_simp; try with_reducible rfl)
  (try simp only [Act.put, List.setIfInBounds_toArray, List.set_cons_zero, List.set_cons_succ])
  refine wpAnyH_takeD 2 11 (v := ?_) (by kernel_rfl) (by kernel_rfl) (by kernel_rfl) (by kernel_rfl) (by rfl) (fun _ _ _ h => h) ?_ hHeld ?_
  rotate_left 1
  (intro o ho W hSw; simp only [List.getElem?_toArray, List.getElem?_cons_succ, List.getElem?_cons_zero, Option.some.injEq] at ho; subst ho; (try dsimp only at hSw); go_simp; try with_reducible rfl)
  (try simp only [Act.put, List.setIfInBounds_toArray, List.set_cons_zero, List.set_cons_succ])
  refine wpAnyH_takeD 3 12 (v := ?_) (by kernel_rfl) (by kernel_rfl) (by kernel_rfl) (by kernel_rfl) (by rfl) (fun _ _ _ h => h) ?_ hHeld ?_
  rotate_left 1
  (intro o ho W hSw; simp only [List.getElem?_toArray, List.getElem?_cons_succ, List.getElem?_cons_zero, Option.some.injEq] at ho; subst ho; (try dsimp only at hSw); go_simp; try with_reducible rfl)
  (try simp only [Act.put, List.setIfInBounds_toArray, List.set_cons_zero, List.set_cons_succ])
  refine wpAnyH_takeD 4 13 (v := ?_) (by kernel_rfl) (by kernel_rfl) (by kernel_rfl) (by kernel_rfl) (by rfl) (fun _ _ _ h => h) ?_ hHeld ?_
  rotate_left 1
  (intro o ho W hSw; simp only [List.getElem?_toArray, List.getElem?_cons_succ, List.getElem?_cons_zero, Option.some.injEq] at ho; subst ho; (try dsimp only at hSw); go_simp; try with_reducible rfl)
  (try simp only [Act.put, List.setIfInBounds_toArray, List.set_cons_zero, List.set_cons_succ])
  refine wpAnyH_onlyD 5 (by kernel_rfl) (fun o ho K hK => ?_) (by kernel_rfl)
  simp only [List.getElem?_toArray, List.getElem?_cons_succ, List.getElem?_cons_zero, Option.some.injEq] at ho
  subst ho
  go_simp
  refine (VS.out _).mono ?_
  rintro e w1 ⟨rfl, h⟩
  have G1 := Lib.hid (G0.out.trans (h.mono G0.out.size))
  have A1 := Lib.hid (A0.out.below h A0.out.lt)
  have B1 := Lib.hid (B0.out.below h B0.out.lt)
  have R1 := Lib.hid (R0.out.below h R0.out.lt)
  go_wp2_with fail
  refine hK.out _ _ (⟨A1.out.held, B1.out.held⟩) ?_
  clear hK K hHeld
  intro hHeld
  clear h G0 A0 B0 R0
  refine wpAnyH_onlyD 6 (by kernel_rfl) (fun o ho K hK => ?_) (by kernel_rfl)
  simp only [List.getElem?_toArray, List.getElem?_cons_succ, List.getElem?_cons_zero, Option.some.injEq] at ho
  subst ho
  go_simp
  refine (VA.out _).mono ?_
  rintro e w2 ⟨rfl, h⟩
  have G2 := Lib.hid (G1.out.trans (h.mono G1.out.size))
  have A2 := Lib.hid (A1.out.below h A1.out.lt)
  have B2 := Lib.hid (B1.out.below h B1.out.lt)
  have R2 := Lib.hid (R1.out.below h R1.out.lt)
  go_wp2_with fail
  refine hK.out _ _ (⟨A2.out.held, B2.out.held⟩) ?_
  clear hK K hHeld
  intro hHeld
  clear h G1 A1 B1 R1
  have r0 := R2.out.c0
  have r1 := R2.out.c1
  have r2 := R2.out.c2
  have rf := R2.out.f
  refine wpAnyH_onlyD 7 (by kernel_rfl) (fun o ho K hK => ?_) (by kernel_rfl)
  simp only [List.getElem?_toArray, List.getElem?_cons_succ, List.getElem?_cons_zero, Option.some.injEq] at ho
  subst ho
  go_simp
  refine hK.out _ _ (⟨(((A2.out.far (by omega) _ _).far (by omega) _ _).far (by omega) _ _).held, (((B2.out.far (by omega) _ _).far (by omega) _ _).far (by omega) _ _).held⟩) ?_
  clear hK K hHeld
  intro hHeld
  refine wpAnyH_done (by kernel_rfl) ?_ _
  go_wp2
  exact bodyPost_ret (v := .agg #[.int .i64 x, .int .i64 y, .int .i64 z]) (by simp [results, Tryz.results20, go_sem, r0, r1, r2]) rfl ⟨rfl, below_put3 G2.out (by omega) _ _ _⟩
/-- a beam: the cell of its place, how far it is in -/
abbrev bmW (f : Nat) (a : Ry) (H V : Nat) (p q : Int) : Value := .agg #[.pointer (some ⟨f, 0, none⟩), .int .i64 a.ox, .int .i64 a.oy, .int .i64 a.oz, .int .i64 a.dx, .int .i64 a.dy, .int .i64 a.dz, .complex .f64 H V, .int .i64 p, .int .i64 q]
abbrev bmL (f : Nat) (a : Ry) (H V : Nat) (p q : Int) : List Value := [.pointer (some ⟨f, 0, none⟩), .int .i64 a.ox, .int .i64 a.oy, .int .i64 a.oz, .int .i64 a.dx, .int .i64 a.dy, .int .i64 a.dz, .complex .f64 H V, .int .i64 p, .int .i64 q]
/-- the field, and a beam in a block -/
structure BS (w W : World) (lo top f hb gb hc gc : Nat) (t : Trk) (m : Nat) (L : List Value) : Prop where
  s : FS w lo top W f hb gb hc gc t
  b : BW W m L
theorem BS.step {w W W' : World} {lo top f hb gb hc gc m : Nat} {t : Trk} {L : List Value} (Q : BS w W lo top f hb gb hc gc t m L) (h : Below W.heap.size W W') : BS w W' lo top f hb gb hc gc t m L := ⟨Q.s.step h, Q.b.below h Q.b.lt⟩
set_option maxRecDepth 100000 in
set_option maxHeartbeats 4000000 in
theorem yTri_any (t : Trk) (a : Ry) (H V : Nat) (p q s : Int) (lo top f hb gb hc gc : Nat) (w : World) (P : FX lo top w f hb gb hc gc t) (ha : a.ins) (hs : In64 s) :
    Calls Tryz.prog 55 #[bmW f a H V p q, .int .i64 s] w fun e w' => e = .returned (.tuple #[.complex .f64 (fz (whK t (pntF a.ox a.dx s))) (fz (whR t (pntF a.oy a.dy s))), .bool (decide (whX t (pntF a.ox a.dx s) < whY t (pntF a.oy a.dy s)))]) ∧ Below w.heap.size w w' := by
  have PN := Lib.hid (fun (W : World) => yPoint_nil a s W ha hs)
  have WH := Lib.hid (fun (W : World) (Q : FX lo top W f hb gb hc gc t) => fWhere_any t (pntF a.ox a.dx s) (pntF a.oy a.dy s) lo top f hb gb hc gc W Q)
  have S0 := Lib.hid (FS.mk (w := w) P (Below.refl _ _))
  generalize pntF a.ox a.dx s = X at *
  generalize pntF a.oy a.dy s = Y at *
  generalize pntF a.oz a.dz s = Z at *
  generalize whK t X = K at *
  generalize whR t Y = R at *
  generalize whX t X = x at *
  generalize whY t Y = y at *
  clear P ha hs
  go_enter Tryz.func55, Tryz.ntmps55
  go_wp2_with fail
  refine calls_gen (S := fun W => BS w W lo top f hb gb hc gc t w.heap.size (bmL f a H V p q)) ⟨S0.out.step ((Below.refl _ _).alloc (Nat.le_refl _) _), BW.new _ _ [_, _, _, _, _, _, _, _, _, _] _ rfl⟩ (fun W1 hS => ?_)
  have B1 := Lib.hid hS
  clear hS S0
  refine (PN.out _).mono ?_
  rintro e w2 ⟨rfl, h⟩
  have B2 := Lib.hid (B1.out.step h)
  clear h B1 PN
  have b0 := B2.out.b.c 0 _ rfl
  have bl := B2.out.b.lt
  go_wp2_with fail
  refine calls_gen (S := fun W => BS w W lo top f hb gb hc gc t w.heap.size (bmL f a H V p q)) (B2.out.step ((Below.refl _ _).alloc (Nat.le_refl _) _)) (fun W3 hS => ?_)
  have B3 := Lib.hid hS
  clear hS B2 b0 bl
  refine (WH.out _ B3.out.s.p).mono ?_
  rintro e w4 ⟨rfl, h⟩
  have B4 := Lib.hid (B3.out.step h)
  clear h B3 WH
  go_wp2_with fail
  refine (yCell_any K R _).mono ?_
  rintro e w5 ⟨rfl, hx⟩
  obtain rfl := hx.symm
  go_wp2
  go_ret2
  exact ⟨rfl, B4.out.s.l⟩
set_option maxRecDepth 100000 in
set_option maxHeartbeats 4000000 in
theorem yIn_any (t : Trk) (a : Ry) (H V c r : Nat) (up : Bool) (p q s : Int) (lo top f hb gb hc gc : Nat) (w : World) (P : FX lo top w f hb gb hc gc t) (ha : a.ins) (hs : In64 s) (hc' : c < 65) (hr' : r < 65) :
    Calls Tryz.prog 39 #[bmW f a H V p q, .complex .f64 (fz c) (fz r), .bool up, .int .i64 s] w fun e w' => e = .returned (.bool (inTri t c r up (pntF a.ox a.dx s) (pntF a.oy a.dy s))) ∧ Below w.heap.size w w' := by
  have TR := Lib.hid (fun (W : World) (Q : FX lo top W f hb gb hc gc t) => yTri_any t a H V p q s lo top f hb gb hc gc W Q ha hs)
  have S0 := Lib.hid (FS.mk (w := w) P (Below.refl _ _))
  have ok := wh_ok P.r.1 (pntF a.ox a.dx s) (pntF a.oy a.dy s)
  obtain ⟨⟨⟨m1, m2⟩, -⟩, -⟩ := P.r
  obtain ⟨⟨-, k2⟩, -, k4⟩ := ok
  have e1 := fz_eq (a := whK t (pntF a.ox a.dx s)) (b := c) (by omega) (by omega)
  have e2 := fz_eq (a := whR t (pntF a.oy a.dy s)) (b := r) (by omega) (by omega)
  obtain ⟨z, hz⟩ : ∃ z, inTri t c r up (pntF a.ox a.dx s) (pntF a.oy a.dy s) = z := ⟨_, rfl⟩
  have Z := hz
  unfold inTri at Z
  rw [hz]
  clear hz P ha hs m1 m2 k2 k4
  generalize pntF a.ox a.dx s = X at *
  generalize pntF a.oy a.dy s = Y at *
  generalize decide (whX t X < whY t Y) = dl at *
  generalize whK t X = K at *
  generalize whR t Y = R at *
  have HZ := Lib.hid Z
  clear Z
  go_enter Tryz.func39, Tryz.ntmps39
  go_wp2_with fail
  refine calls_gen (S := fun W => FS w lo top W f hb gb hc gc t) (S0.out.step ((Below.refl _ _).alloc (Nat.le_refl _) _)) (fun W1 hS => ?_)
  have S1 := Lib.hid hS
  clear hS S0
  refine (TR.out _ S1.out.p).mono ?_
  rintro e w2 ⟨rfl, h⟩
  have S2 := Lib.hid (S1.out.step h)
  clear h S1 TR
  by_cases g1 : K = c
  rotate_left
  · rw [decide_eq_false g1] at e1
    have E := Lib.hid (show false = z by rw [← HZ.out, decide_eq_false (by omega)]; rfl)
    clear HZ
    go_wp2
    go_ret
    exact ⟨by rw [← E.out]; rfl, S2.out.l⟩
  rw [decide_eq_true g1] at e1
  by_cases g2 : R = r
  rotate_left
  · rw [decide_eq_false g2] at e2
    have E := Lib.hid (show false = z by rw [← HZ.out, decide_eq_false (show ¬ (R : Int) = (r : Int) by omega), Bool.and_false]; rfl)
    clear HZ
    go_wp2
    go_ret
    exact ⟨by rw [← E.out]; rfl, S2.out.l⟩
  rw [decide_eq_true g2] at e2
  have E := Lib.hid (show (dl == up) = z by rw [← HZ.out, decide_eq_true (show (K : Int) = (c : Int) by omega), decide_eq_true (show (R : Int) = (r : Int) by omega)]; rfl)
  clear HZ g1 g2
  go_wp2
  go_ret
  exact ⟨by rw [← E.out]; rfl, S2.out.l⟩
/-- how far the place of a ray is from a cell's beginning, through its own cell -/
theorem off_is {ox cx cell : Int} {H c : Nat} (h1 : Rg ox) (h2 : -140737488355328 ≤ cx ∧ cx ≤ 140737488355328) (h3 : H < 64) (h4 : c < 64) (h5 : 17179869184 ≤ cell ∧ cell ≤ 274877906944) :
    ox - cx - (H : Int) * cell + ((H : Int) - c) * cell = ox - cx - c * cell ∧ In64 (((H : Int) - c) * cell) ∧ In64 (ox - cx - c * cell) := by
  have p0 := Int.mul_nonneg (show (0 : Int) ≤ c by omega) (show 0 ≤ cell by omega)
  have p1 := Int.mul_le_mul (show (c : Int) ≤ 63 by omega) h5.2 (show 0 ≤ cell by omega) (show (0 : Int) ≤ 63 by omega)
  have q0 := Int.mul_nonneg (show (0 : Int) ≤ H by omega) (show 0 ≤ cell by omega)
  have q1 := Int.mul_le_mul (show (H : Int) ≤ 63 by omega) h5.2 (show 0 ≤ cell by omega) (show (0 : Int) ≤ 63 by omega)
  unfold Rg at h1
  rw [Int.sub_mul]
  unfold In64
  generalize (c : Int) * cell = y at *
  generalize (H : Int) * cell = x at *
  omega
set_option maxRecDepth 100000 in
set_option maxHeartbeats 4000000 in
theorem yOff_any (t : Trk) (a : Ry) (c r : Nat) (lo top f hb gb hc gc : Nat) (w : World) (P : FX lo top w f hb gb hc gc t) (ha : a.may) (hc' : c < 64) (hr' : r < 64) :
    Calls Tryz.prog 58 #[bmW f a (fz (whK t a.ox)) (fz (whR t a.oy)) (whX t a.ox) (whY t a.oy), .complex .f64 (fz c) (fz r)] w fun e w' => e = .returned (.tuple #[.int .i64 (rofX t c a), .int .i64 (rofY t r a)]) ∧ Below w.heap.size w w' := by
  have VS := Lib.hid (fun (W : World) (Q : FX lo top W f hb gb hc gc t) => fSide_any t lo top f hb gb hc gc W Q)
  have S0 := Lib.hid (FS.mk (w := w) P (Below.refl _ _))
  have ok := wh_ok P.r.1 a.ox a.oy
  obtain ⟨⟨⟨m1, m2⟩, -⟩, hf⟩ := P.r
  obtain ⟨⟨-, k2⟩, -, k4⟩ := ok
  obtain ⟨o1, o2, o3⟩ := off_is (c := c) (H := whK t a.ox) ha.1 hf.2.1 (by omega) hc' hf.1
  obtain ⟨o4, o5, o6⟩ := off_is (c := r) (H := whR t a.oy) ha.2.1 hf.2.2.1 (by omega) hr' hf.1
  have x1 : whX t a.ox = a.ox - t.cx - (whK t a.ox : Int) * t.cell := by
    have h1 := ha.1
    unfold Rg at h1
    unfold whX axD whK axF clampF
    rw [if_neg (by omega), if_neg (by omega)]
  have y1 : whY t a.oy = a.oy - t.cy - (whR t a.oy : Int) * t.cell := by
    have h1 := ha.2.1
    unfold Rg at h1
    unfold whY axD whR axF clampF
    rw [if_neg (by omega), if_neg (by omega)]
  have hs : ∀ w, (binOp .sub 64 (.complex .f64 (fz (whK t a.ox)) (fz (whR t a.oy))) (.complex .f64 (fz c) (fz r))).run Tryz.prog w = .ok (.complex .f64 (fz ((whK t a.ox : Int) - (c : Nat))) (fz ((whR t a.oy : Int) - (r : Nat)))) w := fun w => fz_csub w (by omega) (by omega) (by omega) (by omega) _
  have h1 : ∀ w, (convert 90 22 (.float .f64 (fz ((whK t a.ox : Int) - (c : Nat))))).run Tryz.prog w = .ok (.int .i64 ((whK t a.ox : Int) - (c : Nat))) w := fun w => fz_cdif w (by omega) (by omega) _ _ (by kernel_rfl) (by kernel_rfl)
  have h2 : ∀ w, (convert 90 22 (.float .f64 (fz ((whR t a.oy : Int) - (r : Nat))))).run Tryz.prog w = .ok (.int .i64 ((whR t a.oy : Int) - (r : Nat))) w := fun w => fz_cdif w (by omega) (by omega) _ _ (by kernel_rfl) (by kernel_rfl)
  have EX : rofX t c a = a.ox - t.cx - c * t.cell := rfl
  have EY : rofY t r a = a.oy - t.cy - r * t.cell := rfl
  rw [← x1, ← EX] at o1
  rw [← y1, ← EY] at o4
  rw [← EX] at o3
  rw [← EY] at o6
  clear EX EY x1 y1 P m1 m2 k2 k4 ha hf
  generalize rofX t c a = x at *
  generalize rofY t r a = y at *
  generalize whX t a.ox = p at *
  generalize whY t a.oy = q at *
  generalize fz ((whK t a.ox : Int) - (c : Nat)) = b1 at *
  generalize fz ((whR t a.oy : Int) - (r : Nat)) = b2 at *
  generalize (whK t a.ox : Int) - (c : Nat) = n1 at *
  generalize (whR t a.oy : Int) - (r : Nat) = n2 at *
  generalize fz (whK t a.ox) = H at *
  generalize fz (whR t a.oy) = V at *
  generalize fz c = C at *
  generalize fz r = R at *
  have X1 := Lib.hid (show IntKind.i64.wrap (p + IntKind.i64.wrap (n1 * t.cell)) = x by rw [(wrap_in' o2).1, o1, (wrap_in' o3).1])
  have X2 := Lib.hid (show IntKind.i64.wrap (q + IntKind.i64.wrap (n2 * t.cell)) = y by rw [(wrap_in' o5).1, o4, (wrap_in' o6).1])
  clear o1 o2 o3 o4 o5 o6
  go_enter Tryz.func58, Tryz.ntmps58
  go_wp2_with fail
  refine wp_gen (S := fun W => BS w W lo top f hb gb hc gc t w.heap.size (bmL f a H V p q)) ⟨S0.out.step ((Below.refl _ _).alloc (Nat.le_refl _) _), BW.new _ _ [_, _, _, _, _, _, _, _, _, _] _ rfl⟩ (fun W1 hS => ?_)
  have B1 := Lib.hid (hS.step (Below.refl _ _).drew)
  clear hS S0
  refine wp_region_held_drew (S := fun W => W.cell? ⟨w.heap.size, 0, none⟩ = some (.pointer (some ⟨f, 0, none⟩)) ∧ W.cell? ⟨w.heap.size, 7, none⟩ = some (.complex .f64 H V)) (by kernel_rfl) ⟨B1.out.b.c 0 _ rfl, B1.out.b.c 7 _ rfl⟩ (fun hHeld => ?_)
  generalize W1.drew = w1 at *
  refine wpAnyH_takeD 0 8 (v := ?_) (by kernel_rfl) (by kernel_rfl) (by kernel_rfl) (by kernel_rfl) (by rfl) (fun _ _ _ h => h) ?_ hHeld ?_
  rotate_left 1
  (intro o ho W hSw; simp only [List.getElem?_toArray, List.getElem?_cons_succ, List.getElem?_cons_zero, Option.some.injEq] at ho; subst ho; (try dsimp only at hSw); go_simp; try with_reducible rfl)
  (try simp only [Act.put, List.setIfInBounds_toArray, List.set_cons_zero, List.set_cons_succ])
  refine wpAnyH_takeD 1 9 (v := ?_) (by kernel_rfl) (by kernel_rfl) (by kernel_rfl) (by kernel_rfl) (by rfl) (fun _ _ _ h => h) ?_ hHeld ?_
  rotate_left 1
  (intro o ho W hSw; simp only [List.getElem?_toArray, List.getElem?_cons_succ, List.getElem?_cons_zero, Option.some.injEq] at ho; subst ho; (try dsimp only at hSw); go_simp; try with_reducible rfl)
  (try simp only [Act.put, List.setIfInBounds_toArray, List.set_cons_zero, List.set_cons_succ])
  refine wpAnyH_takeD 2 10 (v := ?_) (by kernel_rfl) (by kernel_rfl) (by kernel_rfl) (by kernel_rfl) (by rfl) (fun _ _ _ h => h) ?_ hHeld ?_
  rotate_left 1
  (intro o ho W hSw; simp only [List.getElem?_toArray, List.getElem?_cons_succ, List.getElem?_cons_zero, Option.some.injEq] at ho; subst ho; (try dsimp only at hSw); go_simp; try with_reducible rfl)
  (try simp only [Act.put, List.setIfInBounds_toArray, List.set_cons_zero, List.set_cons_succ])
  refine wpAnyH_takeD 3 11 (v := ?_) (by kernel_rfl) (by kernel_rfl) (by kernel_rfl) (by kernel_rfl) (by rfl) (fun _ _ _ h => h) ?_ hHeld ?_
  rotate_left 1
  (intro o ho W hSw; simp only [List.getElem?_toArray, List.getElem?_cons_succ, List.getElem?_cons_zero, Option.some.injEq] at ho; subst ho; (try dsimp only at hSw); go_simp; try with_reducible rfl)
  (try simp only [Act.put, List.setIfInBounds_toArray, List.set_cons_zero, List.set_cons_succ])
  refine wpAnyH_takeD 4 12 (v := ?_) (by kernel_rfl) (by kernel_rfl) (by kernel_rfl) (by kernel_rfl) (by rfl) (fun _ _ _ h => h) ?_ hHeld ?_
  rotate_left 1
  (intro o ho W hSw; simp only [List.getElem?_toArray, List.getElem?_cons_succ, List.getElem?_cons_zero, Option.some.injEq] at ho; subst ho; (try dsimp only at hSw); go_simp; try with_reducible rfl)
  (try simp only [Act.put, List.setIfInBounds_toArray, List.set_cons_zero, List.set_cons_succ])
  refine wpAnyH_takeD 5 13 (v := ?_) (by kernel_rfl) (by kernel_rfl) (by kernel_rfl) (by kernel_rfl) (by rfl) (fun _ _ _ h => h) ?_ hHeld ?_
  rotate_left 1
  (intro o ho W hSw; simp only [List.getElem?_toArray, List.getElem?_cons_succ, List.getElem?_cons_zero, Option.some.injEq] at ho; subst ho; (try dsimp only at hSw); go_simp; try with_reducible rfl)
  (try simp only [Act.put, List.setIfInBounds_toArray, List.set_cons_zero, List.set_cons_succ])
  refine wpAnyH_onlyD 6 (by kernel_rfl) (fun o ho K hK => ?_) (by kernel_rfl)
  simp only [List.getElem?_toArray, List.getElem?_cons_succ, List.getElem?_cons_zero, Option.some.injEq] at ho
  subst ho
  go_simp
  refine (VS.out _ B1.out.s.p).mono ?_
  rintro e w2 ⟨rfl, h⟩
  have B2 := Lib.hid (B1.out.step h)
  go_wp2_with fail
  refine hK.out _ _ (⟨B2.out.b.c 0 _ rfl, B2.out.b.c 7 _ rfl⟩) ?_
  clear hK K hHeld
  intro hHeld
  clear h B1 VS
  refine wpAnyH_takeD 7 6 (v := ?_) (by kernel_rfl) (by kernel_rfl) (by kernel_rfl) (by kernel_rfl) (by rfl) (fun _ _ _ h => h) ?_ hHeld ?_
  rotate_left 1
  (intro o ho W hSw; simp only [List.getElem?_toArray, List.getElem?_cons_succ, List.getElem?_cons_zero, Option.some.injEq] at ho; subst ho; (try dsimp only at hSw); go_simp; try with_reducible rfl)
  (try simp only [Act.put, List.setIfInBounds_toArray, List.set_cons_zero, List.set_cons_succ])
  refine wpAnyH_takeD 8 7 (v := ?_) (by kernel_rfl) (by kernel_rfl) (by kernel_rfl) (by kernel_rfl) (by rfl) (fun _ _ _ h => h) ?_ hHeld ?_
  rotate_left 1
  (intro o ho W hSw; simp only [List.getElem?_toArray, List.getElem?_cons_succ, List.getElem?_cons_zero, Option.some.injEq] at ho; subst ho; (try dsimp only at hSw); go_simp; try with_reducible rfl)
  (try simp only [Act.put, List.setIfInBounds_toArray, List.set_cons_zero, List.set_cons_succ])
  refine wpAnyH_done (by kernel_rfl) ?_ _
  clear hHeld
  go_wp2_with fail
  have B3 := Lib.hid (B2.out.step (Below.refl _ _).drew)
  clear B2
  refine wp_region_held_drew (S := fun W => W.cell? ⟨w.heap.size, 8, none⟩ = some (.int .i64 p) ∧ W.cell? ⟨w.heap.size, 9, none⟩ = some (.int .i64 q)) (by kernel_rfl) ⟨B3.out.b.c 8 _ rfl, B3.out.b.c 9 _ rfl⟩ (fun hHeld => ?_)
  generalize w2.drew = w3 at *
  refine wpAnyH_takeD 0 15 (v := ?_) (by kernel_rfl) (by kernel_rfl) (by kernel_rfl) (by kernel_rfl) (by rfl) (fun _ _ _ h => h) ?_ hHeld ?_
  rotate_left 1
  (intro o ho W hSw; simp only [List.getElem?_toArray, List.getElem?_cons_succ, List.getElem?_cons_zero, Option.some.injEq] at ho; subst ho; (try dsimp only at hSw); go_simp; try with_reducible rfl)
  (try simp only [Act.put, List.setIfInBounds_toArray, List.set_cons_zero, List.set_cons_succ])
  refine wpAnyH_takeD 1 16 (v := ?_) (by kernel_rfl) (by kernel_rfl) (by kernel_rfl) (by kernel_rfl) (by rfl) (fun _ _ _ h => h) ?_ hHeld ?_
  rotate_left 1
  (intro o ho W hSw; simp only [List.getElem?_toArray, List.getElem?_cons_succ, List.getElem?_cons_zero, Option.some.injEq] at ho; subst ho; (try dsimp only at hSw); go_simp; try with_reducible rfl)
  (try simp only [Act.put, List.setIfInBounds_toArray, List.set_cons_zero, List.set_cons_succ])
  refine wpAnyH_takeD 2 17 (v := ?_) (by kernel_rfl) (by kernel_rfl) (by kernel_rfl) (by kernel_rfl) (by rfl) (fun _ _ _ h => h) ?_ hHeld ?_
  rotate_left 1
  (intro o ho W hSw; simp only [List.getElem?_toArray, List.getElem?_cons_succ, List.getElem?_cons_zero, Option.some.injEq] at ho; subst ho; (try dsimp only at hSw); go_simp; try with_reducible rfl)
  (try simp only [Act.put, List.setIfInBounds_toArray, List.set_cons_zero, List.set_cons_succ])
  refine wpAnyH_takeD 3 18 (v := ?_) (by kernel_rfl) (by kernel_rfl) (by kernel_rfl) (by kernel_rfl) (by rfl) (fun _ _ _ h => h) ?_ hHeld ?_
  rotate_left 1
  (intro o ho W hSw; simp only [List.getElem?_toArray, List.getElem?_cons_succ, List.getElem?_cons_zero, Option.some.injEq] at ho; subst ho; (try dsimp only at hSw); go_simp; try with_reducible rfl)
  (try simp only [Act.put, List.setIfInBounds_toArray, List.set_cons_zero, List.set_cons_succ])
  refine wpAnyH_takeD 4 19 (v := ?_) (by kernel_rfl) (by kernel_rfl) (by kernel_rfl) (by kernel_rfl) (by rfl) (fun _ _ _ h => h) ?_ hHeld ?_
  rotate_left 1
  (intro o ho W hSw; simp only [List.getElem?_toArray, List.getElem?_cons_succ, List.getElem?_cons_zero, Option.some.injEq] at ho; subst ho; (try dsimp only at hSw); go_simp; try with_reducible rfl)
  (try simp only [Act.put, List.setIfInBounds_toArray, List.set_cons_zero, List.set_cons_succ])
  refine wpAnyH_takeD 5 20 (v := ?_) (by kernel_rfl) (by kernel_rfl) (by kernel_rfl) (by kernel_rfl) (by rfl) (fun _ _ _ h => h) ?_ hHeld ?_
  rotate_left 1
  (intro o ho W hSw; simp only [List.getElem?_toArray, List.getElem?_cons_succ, List.getElem?_cons_zero, Option.some.injEq] at ho; subst ho; (try dsimp only at hSw); go_simp; try with_reducible rfl)
  (try simp only [Act.put, List.setIfInBounds_toArray, List.set_cons_zero, List.set_cons_succ])
  refine wpAnyH_takeD 6 21 (v := ?_) (by kernel_rfl) (by kernel_rfl) (by kernel_rfl) (by kernel_rfl) (by rfl) (fun _ _ _ h => h) ?_ hHeld ?_
  rotate_left 1
  (intro o ho W hSw; simp only [List.getElem?_toArray, List.getElem?_cons_succ, List.getElem?_cons_zero, Option.some.injEq] at ho; subst ho; (try dsimp only at hSw); go_simp; try with_reducible rfl)
  (try simp only [Act.put, List.setIfInBounds_toArray, List.set_cons_zero, List.set_cons_succ])
  refine wpAnyH_takeD 7 22 (v := ?_) (by kernel_rfl) (by kernel_rfl) (by kernel_rfl) (by kernel_rfl) (by rfl) (fun _ _ _ h => h) ?_ hHeld ?_
  rotate_left 1
  (intro o ho W hSw; simp only [List.getElem?_toArray, List.getElem?_cons_succ, List.getElem?_cons_zero, Option.some.injEq] at ho; subst ho; (try dsimp only at hSw); go_simp; try with_reducible rfl)
  (try simp only [Act.put, List.setIfInBounds_toArray, List.set_cons_zero, List.set_cons_succ])
  refine wpAnyH_takeD 8 23 (v := ?_) (by kernel_rfl) (by kernel_rfl) (by kernel_rfl) (by kernel_rfl) (by rfl) (fun _ _ _ h => h) ?_ hHeld ?_
  rotate_left 1
  (intro o ho W hSw; simp only [List.getElem?_toArray, List.getElem?_cons_succ, List.getElem?_cons_zero, Option.some.injEq] at ho; subst ho; (try dsimp only at hSw); go_simp; try with_reducible rfl)
  (try simp only [Act.put, List.setIfInBounds_toArray, List.set_cons_zero, List.set_cons_succ])
  refine wpAnyH_takeD 9 24 (v := ?_) (by kernel_rfl) (by kernel_rfl) (by kernel_rfl) (by kernel_rfl) (by rfl) (fun _ _ _ h => h) ?_ hHeld ?_
  rotate_left 1
  (intro o ho W hSw; simp only [List.getElem?_toArray, List.getElem?_cons_succ, List.getElem?_cons_zero, Option.some.injEq] at ho; subst ho; (try dsimp only at hSw); go_simp; try with_reducible rfl)
  (try simp only [Act.put, List.setIfInBounds_toArray, List.set_cons_zero, List.set_cons_succ])
  refine wpAnyH_takeD 10 25 (v := ?_) (by kernel_rfl) (by kernel_rfl) (by kernel_rfl) (by kernel_rfl) (by rfl) (fun _ _ _ h => h) ?_ hHeld ?_
  rotate_left 1
  (intro o ho W hSw; simp only [List.getElem?_toArray, List.getElem?_cons_succ, List.getElem?_cons_zero, Option.some.injEq] at ho; subst ho; (try dsimp only at hSw); go_simp; try with_reducible rfl)
  (try simp only [Act.put, List.setIfInBounds_toArray, List.set_cons_zero, List.set_cons_succ])
  refine wpAnyH_takeD 11 26 (v := ?_) (by kernel_rfl) (by kernel_rfl) (by kernel_rfl) (by kernel_rfl) (by rfl) (fun _ _ _ h => h) ?_ hHeld ?_
  rotate_left 1
  (intro o ho W hSw; simp only [List.getElem?_toArray, List.getElem?_cons_succ, List.getElem?_cons_zero, Option.some.injEq] at ho; subst ho; (try dsimp only at hSw); go_simp; try with_reducible rfl)
  (try simp only [Act.put, List.setIfInBounds_toArray, List.set_cons_zero, List.set_cons_succ])
  refine wpAnyH_takeD 12 27 (v := ?_) (by kernel_rfl) (by kernel_rfl) (by kernel_rfl) (by kernel_rfl) (by rfl) (fun _ _ _ h => h) ?_ hHeld ?_
  rotate_left 1
  (intro o ho W hSw; simp only [List.getElem?_toArray, List.getElem?_cons_succ, List.getElem?_cons_zero, Option.some.injEq] at ho; subst ho; (try dsimp only at hSw); go_simp; try with_reducible rfl)
  (try simp only [Act.put, List.setIfInBounds_toArray, List.set_cons_zero, List.set_cons_succ])
  refine wpAnyH_takeD 13 28 (v := ?_) (by kernel_rfl) (by kernel_rfl) (by kernel_rfl) (by kernel_rfl) (by rfl) (fun _ _ _ h => h) ?_ hHeld ?_
  rotate_left 1
  (intro o ho W hSw; simp only [List.getElem?_toArray, List.getElem?_cons_succ, List.getElem?_cons_zero, Option.some.injEq] at ho; subst ho; (try dsimp only at hSw); go_simp; try with_reducible rfl)
  (try simp only [Act.put, List.setIfInBounds_toArray, List.set_cons_zero, List.set_cons_succ])
  refine wpAnyH_takeD 14 29 (v := ?_) (by kernel_rfl) (by kernel_rfl) (by kernel_rfl) (by kernel_rfl) (by rfl) (fun _ _ _ h => h) ?_ hHeld ?_
  rotate_left 1
  (intro o ho W hSw; simp only [List.getElem?_toArray, List.getElem?_cons_succ, List.getElem?_cons_zero, Option.some.injEq] at ho; subst ho; (try dsimp only at hSw); go_simp; try with_reducible rfl)
  (try simp only [Act.put, List.setIfInBounds_toArray, List.set_cons_zero, List.set_cons_succ])
  refine wpAnyH_takeD 15 30 (v := ?_) (by kernel_rfl) (by kernel_rfl) (by kernel_rfl) (by kernel_rfl) (by rfl) (fun _ _ _ h => h) ?_ hHeld ?_
  rotate_left 1
  (intro o ho W hSw; simp only [List.getElem?_toArray, List.getElem?_cons_succ, List.getElem?_cons_zero, Option.some.injEq] at ho; subst ho; (try dsimp only at hSw); go_simp; try with_reducible rfl)
  (try simp only [Act.put, List.setIfInBounds_toArray, List.set_cons_zero, List.set_cons_succ])
  refine wpAnyH_takeD 16 4 (v := ?_) (by kernel_rfl) (by kernel_rfl) (by kernel_rfl) (by kernel_rfl) (by rfl) (fun _ _ _ h => h) ?_ hHeld ?_
  rotate_left 1
  (intro o ho W hSw; simp only [List.getElem?_toArray, List.getElem?_cons_succ, List.getElem?_cons_zero, Option.some.injEq] at ho; subst ho; (try dsimp only at hSw); go_simp; try with_reducible rfl)
  (try simp only [Act.put, List.setIfInBounds_toArray, List.set_cons_zero, List.set_cons_succ])
  refine wpAnyH_takeD 17 5 (v := ?_) (by kernel_rfl) (by kernel_rfl) (by kernel_rfl) (by kernel_rfl) (by rfl) (fun _ _ _ h => h) ?_ hHeld ?_
  rotate_left 1
  (intro o ho W hSw; simp only [List.getElem?_toArray, List.getElem?_cons_succ, List.getElem?_cons_zero, Option.some.injEq] at ho; subst ho; (try dsimp only at hSw); go_simp; try with_reducible rfl)
  (try simp only [Act.put, List.setIfInBounds_toArray, List.set_cons_zero, List.set_cons_succ])
  refine wpAnyH_done (by kernel_rfl) ?_ _
  clear hHeld
  go_wp2
  go_ret2
  exact ⟨by show Ending.returned (.tuple #[.int .i64 (IntKind.i64.wrap (p + IntKind.i64.wrap (n1 * t.cell))), .int .i64 (IntKind.i64.wrap (q + IntKind.i64.wrap (n2 * t.cell)))]) = _; rw [X1.out, X2.out], B3.out.s.l⟩
end Go.Proofs.YtinahmhiopgcnaaGreat
namespace Go.Proofs.YtinahmhiopgcnaaGreat
open Go.RowKit
set_option linter.unusedVariables false
set_option linter.unusedSimpArgs false

/-- a complex number is stored -/
theorem st_cx (P : Program) (w : World) (a : Addr) (m : Mode) (k : FloatKind) (x y : Nat) : (store a (.complex k x y) m).run P w = stored P w a (.complex k x y) m := run_store P w a _ m rfl
attribute [local go_sem] st_cx
theorem vw_far10 {W : World} {n r : Nat} {x y z : Int} (k : VW W n x y z) (e : r ≠ n) (u0 u1 u2 u3 u4 u5 u6 u7 u8 u9 : Value) : VW ((((((((((W.setCell ⟨r, 0, none⟩ u0).setCell ⟨r, 1, none⟩ u1).setCell ⟨r, 2, none⟩ u2).setCell ⟨r, 3, none⟩ u3).setCell ⟨r, 4, none⟩ u4).setCell ⟨r, 5, none⟩ u5).setCell ⟨r, 6, none⟩ u6).setCell ⟨r, 7, none⟩ u7).setCell ⟨r, 8, none⟩ u8).setCell ⟨r, 9, none⟩ u9) n x y z :=
  (((((((((k.far e 0 u0).far e 1 u1).far e 2 u2).far e 3 u3).far e 4 u4).far e 5 u5).far e 6 u6).far e 7 u7).far e 8 u8).far e 9 u9
theorem below_put10 {B r : Nat} {w W : World} (t : Below B w W) (h : B ≤ r) (u0 u1 u2 u3 u4 u5 u6 u7 u8 u9 : Value) : Below B w ((((((((((W.setCell ⟨r, 0, none⟩ u0).setCell ⟨r, 1, none⟩ u1).setCell ⟨r, 2, none⟩ u2).setCell ⟨r, 3, none⟩ u3).setCell ⟨r, 4, none⟩ u4).setCell ⟨r, 5, none⟩ u5).setCell ⟨r, 6, none⟩ u6).setCell ⟨r, 7, none⟩ u7).setCell ⟨r, 8, none⟩ u8).setCell ⟨r, 9, none⟩ u9) :=
  (((((((((t.setCell (p := ⟨r, 0, none⟩) h u0).setCell (p := ⟨r, 1, none⟩) h u1).setCell (p := ⟨r, 2, none⟩) h u2).setCell (p := ⟨r, 3, none⟩) h u3).setCell (p := ⟨r, 4, none⟩) h u4).setCell (p := ⟨r, 5, none⟩) h u5).setCell (p := ⟨r, 6, none⟩) h u6).setCell (p := ⟨r, 7, none⟩) h u7).setCell (p := ⟨r, 8, none⟩) h u8).setCell (p := ⟨r, 9, none⟩) h u9
set_option maxRecDepth 100000 in
set_option maxHeartbeats 4000000 in
theorem yBeam_any (t : Trk) (a : Ry) (lo top f hb gb hc gc : Nat) (w : World) (P : FX lo top w f hb gb hc gc t) :
    Calls Tryz.prog 18 #[.pointer (some ⟨f, 0, none⟩), a.o, a.d] w fun e w' => e = .returned (bmW f a (fz (whK t a.ox)) (fz (whR t a.oy)) (whX t a.ox) (whY t a.oy)) ∧ Below w.heap.size w w' := by
  have S0 := Lib.hid (FS.mk (w := w) P (Below.refl _ _))
  have WH := Lib.hid (fun (W : World) (Q : FX lo top W f hb gb hc gc t) => fWhere_any t a.ox a.oy lo top f hb gb hc gc W Q)
  generalize whK t a.ox = j at *
  generalize whR t a.oy = V at *
  generalize whX t a.ox = p at *
  generalize whY t a.oy = q at *
  clear P
  go_enter Tryz.func18, Tryz.ntmps18
  go_wp2_with fail
  refine calls_gen (S := fun W => FS w lo top W f hb gb hc gc t ∧ (RB w W w.heap.size a ∧ BW W (w.heap.size + 1 + 1) [.pointer none, .int .i64 0, .int .i64 0, .int .i64 0, .int .i64 0, .int .i64 0, .int .i64 0, .complex .f64 0 0, .int .i64 0, .int .i64 0])) ⟨S0.out.step (by repeat (first | exact Below.refl _ _ | assumption | refine Below.setCell ?_ (by first | omega | (simp; done) | (simp; omega)) _ | refine Below.alloc ?_ (by first | omega | (simp; done) | (simp; omega)) _ | refine below_drewN ?_ _ | refine Below.drew ?_ | refine Below.trans ?_ (Below.mono (by assumption) (by first | omega | (simp; done) | (simp; omega))))), ⟨((VW.new w w.heap.size a.ox a.oy a.oz _ rfl).alloc _).alloc _, (VW.new _ _ a.dx a.dy a.dz _ (by simp)).alloc _, by repeat (first | exact Below.refl _ _ | assumption | refine Below.setCell ?_ (by first | omega | (simp; done) | (simp; omega)) _ | refine Below.alloc ?_ (by first | omega | (simp; done) | (simp; omega)) _ | refine below_drewN ?_ _ | refine Below.drew ?_ | refine Below.trans ?_ (Below.mono (by assumption) (by first | omega | (simp; done) | (simp; omega))))⟩, BW.new _ _ [_, _, _, _, _, _, _, _, _, _] _ (by simp)⟩ (fun W1 hS => ?_)
  have G1 := Lib.hid hS.1
  have A1 := Lib.hid hS.2.1.o
  have B1 := Lib.hid hS.2.1.d
  have R1 := Lib.hid hS.2.2
  clear hS S0
  refine (WH.out _ G1.out.p).mono ?_
  rintro e w2 ⟨rfl, h⟩
  have G2 := Lib.hid ((G1.out.step h).step (Below.refl _ _).drew)
  have A2 := Lib.hid (A1.out.below h A1.out.lt).drew
  have B2 := Lib.hid (B1.out.below h B1.out.lt).drew
  have R2 := Lib.hid (R1.out.below h R1.out.lt).drew
  clear h G1 A1 B1 R1 WH
  go_wp2_with fail
  refine wp_region_held_drew (S := fun W => (W.cell? ⟨w.heap.size, 0, none⟩ = some (.int .i64 (a.ox)) ∧ W.cell? ⟨w.heap.size, 1, none⟩ = some (.int .i64 (a.oy)) ∧ W.cell? ⟨w.heap.size, 2, none⟩ = some (.int .i64 (a.oz))) ∧ (W.cell? ⟨w.heap.size + 1, 0, none⟩ = some (.int .i64 (a.dx)) ∧ W.cell? ⟨w.heap.size + 1, 1, none⟩ = some (.int .i64 (a.dy)) ∧ W.cell? ⟨w.heap.size + 1, 2, none⟩ = some (.int .i64 (a.dz)))) (by kernel_rfl) ⟨A2.out.held, B2.out.held⟩ (fun hHeld => ?_)
  generalize w2.drew = w3 at *
  refine wpAnyH_takeD 0 22 (v := ?_) (by kernel_rfl) (by kernel_rfl) (by kernel_rfl) (by kernel_rfl) (by rfl) (fun _ _ _ h => h) ?_ hHeld ?_
  rotate_left 1
  (intro o ho W hSw; simp only [List.getElem?_toArray, List.getElem?_cons_succ, List.getElem?_cons_zero, Option.some.injEq] at ho; subst ho; (try dsimp only at hSw); go_simp; try with_reducible rfl)
  (try simp only [Act.put, List.setIfInBounds_toArray, List.set_cons_zero, List.set_cons_succ])
  refine wpAnyH_takeD 1 23 (v := ?_) (by kernel_rfl) (by kernel_rfl) (by kernel_rfl) (by kernel_rfl) (by rfl) (fun _ _ _ h => h) ?_ hHeld ?_
  rotate_left 1
  (intro o ho W hSw; simp only [List.getElem?_toArray, List.getElem?_cons_succ, List.getElem?_cons_zero, Option.some.injEq] at ho; subst ho; (try dsimp only at hSw); go_simp; try with_reducible rfl)
  (try simp only [Act.put, List.setIfInBounds_toArray, List.set_cons_zero, List.set_cons_succ])
  refine wpAnyH_takeD 2 24 (v := ?_) (by kernel_rfl) (by kernel_rfl) (by kernel_rfl) (by kernel_rfl) (by rfl) (fun _ _ _ h => h) ?_ hHeld ?_
  rotate_left 1
  (intro o ho W hSw; simp only [List.getElem?_toArray, List.getElem?_cons_succ, List.getElem?_cons_zero, Option.some.injEq] at ho; subst ho; (try dsimp only at hSw); go_simp; try with_reducible rfl)
  (try simp only [Act.put, List.setIfInBounds_toArray, List.set_cons_zero, List.set_cons_succ])
  refine wpAnyH_takeD 3 25 (v := ?_) (by kernel_rfl) (by kernel_rfl) (by kernel_rfl) (by kernel_rfl) (by rfl) (fun _ _ _ h => h) ?_ hHeld ?_
  rotate_left 1
  (intro o ho W hSw; simp only [List.getElem?_toArray, List.getElem?_cons_succ, List.getElem?_cons_zero, Option.some.injEq] at ho; subst ho; (try dsimp only at hSw); go_simp; try with_reducible rfl)
  (try simp only [Act.put, List.setIfInBounds_toArray, List.set_cons_zero, List.set_cons_succ])
  refine wpAnyH_takeD 4 26 (v := ?_) (by kernel_rfl) (by kernel_rfl) (by kernel_rfl) (by kernel_rfl) (by rfl) (fun _ _ _ h => h) ?_ hHeld ?_
  rotate_left 1
  (intro o ho W hSw; simp only [List.getElem?_toArray, List.getElem?_cons_succ, List.getElem?_cons_zero, Option.some.injEq] at ho; subst ho; (try dsimp only at hSw); go_simp; try with_reducible rfl)
  (try simp only [Act.put, List.setIfInBounds_toArray, List.set_cons_zero, List.set_cons_succ])
  refine wpAnyH_takeD 6 28 (v := ?_) (by kernel_rfl) (by kernel_rfl) (by kernel_rfl) (by kernel_rfl) (by rfl) (fun _ _ _ h => h) ?_ hHeld ?_
  rotate_left 1
  (intro o ho W hSw; simp only [List.getElem?_toArray, List.getElem?_cons_succ, List.getElem?_cons_zero, Option.some.injEq] at ho; subst ho; (try dsimp only at hSw); go_simp; try with_reducible rfl)
  (try simp only [Act.put, List.setIfInBounds_toArray, List.set_cons_zero, List.set_cons_succ])
  refine wpAnyH_takeD 7 29 (v := ?_) (by kernel_rfl) (by kernel_rfl) (by kernel_rfl) (by kernel_rfl) (by rfl) (fun _ _ _ h => h) ?_ hHeld ?_
  rotate_left 1
  (intro o ho W hSw; simp only [List.getElem?_toArray, List.getElem?_cons_succ, List.getElem?_cons_zero, Option.some.injEq] at ho; subst ho; (try dsimp only at hSw); go_simp; try with_reducible rfl)
  (try simp only [Act.put, List.setIfInBounds_toArray, List.set_cons_zero, List.set_cons_succ])
  refine wpAnyH_onlyD 5 (by kernel_rfl) (fun o ho K hK => ?_) (by kernel_rfl)
  simp only [List.getElem?_toArray, List.getElem?_cons_succ, List.getElem?_cons_zero, Option.some.injEq] at ho
  subst ho
  go_simp
  refine (yCell_any j V _).mono ?_
  rintro e w4 ⟨rfl, hx⟩
  obtain rfl := hx.symm
  go_wp2_with fail
  refine hK.out _ _ (⟨A2.out.held, B2.out.held⟩) ?_
  clear hK K hHeld
  intro hHeld
  clear hx
  refine wpAnyH_takeD 8 30 (v := ?_) (by kernel_rfl) (by kernel_rfl) (by kernel_rfl) (by kernel_rfl) (by rfl) (fun _ _ _ h => h) ?_ hHeld ?_
  rotate_left 1
  (intro o ho W hSw; simp only [List.getElem?_toArray, List.getElem?_cons_succ, List.getElem?_cons_zero, Option.some.injEq] at ho; subst ho; (try dsimp only at hSw); go_simp; try with_reducible rfl)
  (try simp only [Act.put, List.setIfInBounds_toArray, List.set_cons_zero, List.set_cons_succ])
  have r0 := R2.out.c 0 _ rfl
  have r1 := R2.out.c 1 _ rfl
  have r2 := R2.out.c 2 _ rfl
  have r3 := R2.out.c 3 _ rfl
  have r4 := R2.out.c 4 _ rfl
  have r5 := R2.out.c 5 _ rfl
  have r6 := R2.out.c 6 _ rfl
  have r7 := R2.out.c 7 _ rfl
  have r8 := R2.out.c 8 _ rfl
  have r9 := R2.out.c 9 _ rfl
  have rf := R2.out.f
  have rl := R2.out.lt
  refine wpAnyH_onlyD 9 (by kernel_rfl) (fun o ho K hK => ?_) (by kernel_rfl)
  simp only [List.getElem?_toArray, List.getElem?_cons_succ, List.getElem?_cons_zero, Option.some.injEq] at ho
  subst ho
  go_simp
  refine hK.out _ _ (⟨(vw_far10 A2.out (by omega) _ _ _ _ _ _ _ _ _ _).held, (vw_far10 B2.out (by omega) _ _ _ _ _ _ _ _ _ _).held⟩) ?_
  clear hK K hHeld
  intro hHeld
  refine wpAnyH_done (by kernel_rfl) ?_ _
  clear hHeld
  go_wp2
  exact bodyPost_ret (v := bmW f a (fz j) (fz V) p q) (by simp [results, Tryz.results18, go_sem, r0, r1, r2, r3, r4, r5, r6, r7, r8, r9]) rfl ⟨rfl, below_put10 G2.out.l (by omega) _ _ _ _ _ _ _ _ _ _⟩
set_option maxRecDepth 100000 in
set_option maxHeartbeats 8000000 in
theorem yReach_any (t : Trk) (a : Ry) (c r : Nat) (up : Bool) (lo top f hb gb hc gc : Nat) (w : World) (P : FX lo top w f hb gb hc gc t) (ha : a.may) (hi : a.ins) (hcc : c < t.cols.toNat) (hrr : r < t.rows.toNat) :
    Calls Tryz.prog 38 #[bmW f a (fz (whK t a.ox)) (fz (whR t a.oy)) (whX t a.ox) (whY t a.oy), .complex .f64 (fz c) (fz r), .bool up] w fun e w' => e = .returned (.tuple #[.int .i64 (if stpF t c r up a < 0 then dstF t c r up a else 0), .bool (decide (stpF t c r up a < 0))]) ∧ Below w.heap.size w w' := by
  have S0 := Lib.hid (FS.mk (w := w) P (Below.refl _ _))
  obtain ⟨hcn, hf⟩ := P.r
  obtain ⟨⟨m1, m2⟩, -⟩ := id hcn
  have ok : okC t c r := ⟨⟨by omega, by omega⟩, by omega, by omega⟩
  have VS := Lib.hid (fun (W : World) (Q : FX lo top W f hb gb hc gc t) => fSlopes_nil t c r up lo top f hb gb hc gc W Q ok)
  have VB := Lib.hid (fun (W : World) (Q : FX lo top W f hb gb hc gc t) => fBase_any t c r lo top f hb gb hc gc W Q)
  have VO := Lib.hid (fun (W : World) (Q : FX lo top W f hb gb hc gc t) => yOff_any t a c r lo top f hb gb hc gc W Q ha (by omega) (by omega))
  have SA := Lib.hid (sla_in t c r up)
  have SB := Lib.hid (slb_in t c r up)
  have BI := Lib.hid (base_in hcn hf ok)
  have HX := Lib.hid (rof_fit ha.1 hf.2.1 (c := c) (by omega) hf.1).2.2.2.1
  have HY := Lib.hid (rof_fit ha.2.1 hf.2.2.1 (c := r) (by omega) hf.1).2.2.2.1
  have hc1 : ∀ w, (convert 90 3 (.float .f64 (fz c))).run Tryz.prog w = .ok (.int .i64 c) w := fun w => fz_conv w (by omega) _ _ (by kernel_rfl) (by kernel_rfl)
  have hc2 : ∀ w, (convert 90 3 (.float .f64 (fz r))).run Tryz.prog w = .ok (.int .i64 r) w := fun w => fz_conv w (by omega) _ _ (by kernel_rfl) (by kernel_rfl)
  obtain ⟨ms, hms⟩ : ∃ q, (if stpF t c r up a < 0 then dstF t c r up a else 0) = q := ⟨_, rfl⟩
  obtain ⟨mm, hmm⟩ : ∃ q, decide (stpF t c r up a < 0) = q := ⟨_, rfl⟩
  have MN := Lib.hid (fun (h : ¬ stpF t c r up a < 0) => (show 0 = ms ∧ false = mm from ⟨by rw [← hms, if_neg h], by rw [← hmm, decide_eq_false h]⟩))
  have MY := Lib.hid (fun (h : stpF t c r up a < 0) => (show divF (if 0 < ovrF t c r up a then ovrF t c r up a else 0) (subF 0 (stpF t c r up a)) = ms ∧ true = mm from ⟨by rw [← hms, if_pos h, dst_max h], by rw [← hmm, decide_eq_true h]⟩))
  rw [hms, hmm]
  have EO : ovrF t c r up a = subF a.oz (addF (addF (baseFd t c r) (mulF (slaF t c r up) (rofX t c a))) (mulF (slbF t c r up) (rofY t r a))) := rfl
  have ES : stpF t c r up a = subF (subF a.dz (mulF (slaF t c r up) a.dx)) (mulF (slbF t c r up) a.dy) := rfl
  have FXe : a.ox - t.cx - c * t.cell = rofX t c a := rfl
  have FYe : a.oy - t.cy - r * t.cell = rofY t r a := rfl
  rw [FXe] at HX
  rw [FYe] at HY
  generalize slaF t c r up = sa at *
  generalize slbF t c r up = sb at *
  generalize baseFd t c r = bs at *
  generalize rofX t c a = X at *
  generalize rofY t r a = Y at *
  generalize fz (whK t a.ox) = H at *
  generalize fz (whR t a.oy) = V at *
  generalize whX t a.ox = p at *
  generalize whY t a.oy = q at *
  generalize fz c = C at *
  generalize fz r = R at *
  generalize ovrF t c r up a = ov at *
  generalize stpF t c r up a = st at *
  have HI := Lib.hid hi
  have HO := Lib.hid EO
  have HS := Lib.hid ES
  clear hms hmm EO ES FXe FYe hcn hf m1 m2 ok P ha hi hcc hrr
  go_enter Tryz.func38, Tryz.ntmps38
  go_wp2_with fail
  refine calls_gen (S := fun W => BS w W lo top f hb gb hc gc t w.heap.size (bmL f a H V p q)) ⟨S0.out.step ((Below.refl _ _).alloc (Nat.le_refl _) _), BW.new _ _ [_, _, _, _, _, _, _, _, _, _] _ rfl⟩ (fun W1 hS => ?_)
  have B1 := Lib.hid hS
  clear hS S0
  refine (VS.out _ B1.out.s.p).mono ?_
  rintro e w2 ⟨rfl, h⟩
  have B2 := Lib.hid ((B1.out.step h).step (Below.refl _ _).drew)
  clear h B1 VS
  go_wp2_with fail
  as_aux_lemma =>
  refine wp_region_held_drew (S := fun W => W.cell? ⟨w.heap.size, 4, none⟩ = some (.int .i64 a.dx) ∧ W.cell? ⟨w.heap.size, 5, none⟩ = some (.int .i64 a.dy) ∧ W.cell? ⟨w.heap.size, 6, none⟩ = some (.int .i64 a.dz)) (by kernel_rfl) ⟨B2.out.b.c 4 _ rfl, B2.out.b.c 5 _ rfl, B2.out.b.c 6 _ rfl⟩ (fun hHeld => ?_)
  generalize w2.drew = w3 at *
  refine wpAnyH_takeD 0 34 (v := ?_) (by kernel_rfl) (by kernel_rfl) (by kernel_rfl) (by kernel_rfl) (by rfl) (fun _ _ _ h => h) ?_ hHeld ?_
  rotate_left 1
  (intro o ho W hSw; simp only [List.getElem?_toArray, List.getElem?_cons_succ, List.getElem?_cons_zero, Option.some.injEq] at ho; subst ho; (try dsimp only at hSw); go_simp; try with_reducible rfl)
  (try simp only [Act.put, List.setIfInBounds_toArray, List.set_cons_zero, List.set_cons_succ])
  refine wpAnyH_takeD 1 35 (v := ?_) (by kernel_rfl) (by kernel_rfl) (by kernel_rfl) (by kernel_rfl) (by rfl) (fun _ _ _ h => h) ?_ hHeld ?_
  rotate_left 1
  (intro o ho W hSw; simp only [List.getElem?_toArray, List.getElem?_cons_succ, List.getElem?_cons_zero, Option.some.injEq] at ho; subst ho; (try dsimp only at hSw); go_simp; try with_reducible rfl)
  (try simp only [Act.put, List.setIfInBounds_toArray, List.set_cons_zero, List.set_cons_succ])
  refine wpAnyH_takeD 2 36 (v := ?_) (by kernel_rfl) (by kernel_rfl) (by kernel_rfl) (by kernel_rfl) (by rfl) (fun _ _ _ h => h) ?_ hHeld ?_
  rotate_left 1
  (intro o ho W hSw; simp only [List.getElem?_toArray, List.getElem?_cons_succ, List.getElem?_cons_zero, Option.some.injEq] at ho; subst ho; (try dsimp only at hSw); go_simp; try with_reducible rfl)
  (try simp only [Act.put, List.setIfInBounds_toArray, List.set_cons_zero, List.set_cons_succ])
  refine wpAnyH_takeD 3 37 (v := ?_) (by kernel_rfl) (by kernel_rfl) (by kernel_rfl) (by kernel_rfl) (by rfl) (fun _ _ _ h => h) ?_ hHeld ?_
  rotate_left 1
  (intro o ho W hSw; simp only [List.getElem?_toArray, List.getElem?_cons_succ, List.getElem?_cons_zero, Option.some.injEq] at ho; subst ho; (try dsimp only at hSw); go_simp; try with_reducible rfl)
  (try simp only [Act.put, List.setIfInBounds_toArray, List.set_cons_zero, List.set_cons_succ])
  refine wpAnyH_takeD 4 38 (v := ?_) (by kernel_rfl) (by kernel_rfl) (by kernel_rfl) (by kernel_rfl) (by rfl) (fun _ _ _ h => h) ?_ hHeld ?_
  rotate_left 1
  (intro o ho W hSw; simp only [List.getElem?_toArray, List.getElem?_cons_succ, List.getElem?_cons_zero, Option.some.injEq] at ho; subst ho; (try dsimp only at hSw); go_simp; try with_reducible rfl)
  (try simp only [Act.put, List.setIfInBounds_toArray, List.set_cons_zero, List.set_cons_succ])
  refine wpAnyH_takeD 5 39 (v := ?_) (by kernel_rfl) (by kernel_rfl) (by kernel_rfl) (by kernel_rfl) (by rfl) (fun _ _ _ h => h) ?_ hHeld ?_
  rotate_left 1
  (intro o ho W hSw; simp only [List.getElem?_toArray, List.getElem?_cons_succ, List.getElem?_cons_zero, Option.some.injEq] at ho; subst ho; (try dsimp only at hSw); go_simp; try with_reducible rfl)
  (try simp only [Act.put, List.setIfInBounds_toArray, List.set_cons_zero, List.set_cons_succ])
  refine wpAnyH_takeD 6 40 (v := ?_) (by kernel_rfl) (by kernel_rfl) (by kernel_rfl) (by kernel_rfl) (by rfl) (fun _ _ _ h => h) ?_ hHeld ?_
  rotate_left 1
  (intro o ho W hSw; simp only [List.getElem?_toArray, List.getElem?_cons_succ, List.getElem?_cons_zero, Option.some.injEq] at ho; subst ho; (try dsimp only at hSw); go_simp; try with_reducible rfl)
  (try simp only [Act.put, List.setIfInBounds_toArray, List.set_cons_zero, List.set_cons_succ])
  refine wpAnyH_takeD 7 41 (v := ?_) (by kernel_rfl) (by kernel_rfl) (by kernel_rfl) (by kernel_rfl) (by rfl) (fun _ _ _ h => h) ?_ hHeld ?_
  rotate_left 1
  (intro o ho W hSw; simp only [List.getElem?_toArray, List.getElem?_cons_succ, List.getElem?_cons_zero, Option.some.injEq] at ho; subst ho; (try dsimp only at hSw); go_simp; try with_reducible rfl)
  (try simp only [Act.put, List.setIfInBounds_toArray, List.set_cons_zero, List.set_cons_succ])
  refine wpAnyH_takeD 8 42 (v := ?_) (by kernel_rfl) (by kernel_rfl) (by kernel_rfl) (by kernel_rfl) (by rfl) (fun _ _ _ h => h) ?_ hHeld ?_
  rotate_left 1
  (intro o ho W hSw; simp only [List.getElem?_toArray, List.getElem?_cons_succ, List.getElem?_cons_zero, Option.some.injEq] at ho; subst ho; (try dsimp only at hSw); go_simp; try with_reducible rfl)
  (try simp only [Act.put, List.setIfInBounds_toArray, List.set_cons_zero, List.set_cons_succ])
  refine wpAnyH_takeD 9 43 (v := ?_) (by kernel_rfl) (by kernel_rfl) (by kernel_rfl) (by kernel_rfl) (by rfl) (fun _ _ _ h => h) ?_ hHeld ?_
  rotate_left 1
  (intro o ho W hSw; simp only [List.getElem?_toArray, List.getElem?_cons_succ, List.getElem?_cons_zero, Option.some.injEq] at ho; subst ho; (try dsimp only at hSw); go_simp; try with_reducible rfl)
  (try simp only [Act.put, List.setIfInBounds_toArray, List.set_cons_zero, List.set_cons_succ])
  refine wpAnyH_takeD 12 46 (v := ?_) (by kernel_rfl) (by kernel_rfl) (by kernel_rfl) (by kernel_rfl) (by rfl) (fun _ _ _ h => h) ?_ hHeld ?_
  rotate_left 1
  (intro o ho W hSw; simp only [List.getElem?_toArray, List.getElem?_cons_succ, List.getElem?_cons_zero, Option.some.injEq] at ho; subst ho; (try dsimp only at hSw); go_simp; try with_reducible rfl)
  (try simp only [Act.put, List.setIfInBounds_toArray, List.set_cons_zero, List.set_cons_succ])
  refine wpAnyH_takeD 13 47 (v := ?_) (by kernel_rfl) (by kernel_rfl) (by kernel_rfl) (by kernel_rfl) (by rfl) (fun _ _ _ h => h) ?_ hHeld ?_
  rotate_left 1
  (intro o ho W hSw; simp only [List.getElem?_toArray, List.getElem?_cons_succ, List.getElem?_cons_zero, Option.some.injEq] at ho; subst ho; (try dsimp only at hSw); go_simp; try with_reducible rfl)
  (try simp only [Act.put, List.setIfInBounds_toArray, List.set_cons_zero, List.set_cons_succ])
  refine wpAnyH_takeD 14 48 (v := ?_) (by kernel_rfl) (by kernel_rfl) (by kernel_rfl) (by kernel_rfl) (by rfl) (fun _ _ _ h => h) ?_ hHeld ?_
  rotate_left 1
  (intro o ho W hSw; simp only [List.getElem?_toArray, List.getElem?_cons_succ, List.getElem?_cons_zero, Option.some.injEq] at ho; subst ho; (try dsimp only at hSw); go_simp; try with_reducible rfl)
  (try simp only [Act.put, List.setIfInBounds_toArray, List.set_cons_zero, List.set_cons_succ])
  refine wpAnyH_takeD 15 49 (v := ?_) (by kernel_rfl) (by kernel_rfl) (by kernel_rfl) (by kernel_rfl) (by rfl) (fun _ _ _ h => h) ?_ hHeld ?_
  rotate_left 1
  (intro o ho W hSw; simp only [List.getElem?_toArray, List.getElem?_cons_succ, List.getElem?_cons_zero, Option.some.injEq] at ho; subst ho; (try dsimp only at hSw); go_simp; try with_reducible rfl)
  (try simp only [Act.put, List.setIfInBounds_toArray, List.set_cons_zero, List.set_cons_succ])
  refine wpAnyH_takeD 16 50 (v := ?_) (by kernel_rfl) (by kernel_rfl) (by kernel_rfl) (by kernel_rfl) (by rfl) (fun _ _ _ h => h) ?_ hHeld ?_
  rotate_left 1
  (intro o ho W hSw; simp only [List.getElem?_toArray, List.getElem?_cons_succ, List.getElem?_cons_zero, Option.some.injEq] at ho; subst ho; (try dsimp only at hSw); go_simp; try with_reducible rfl)
  (try simp only [Act.put, List.setIfInBounds_toArray, List.set_cons_zero, List.set_cons_succ])
  refine wpAnyH_onlyD 10 (by kernel_rfl) (fun o ho K hK => ?_) (by kernel_rfl)
  simp only [List.getElem?_toArray, List.getElem?_cons_succ, List.getElem?_cons_zero, Option.some.injEq] at ho
  subst ho
  go_simp
  refine (fxMul_nil sa a.dx _ SA.out.1 SA.out.2 HI.out.d.x0 HI.out.d.x1).mono ?_
  rintro e w4 ⟨rfl, h⟩
  have B4 := Lib.hid (B2.out.step h)
  go_wp2_with fail
  refine hK.out _ _ (⟨B4.out.b.c 4 _ rfl, B4.out.b.c 5 _ rfl, B4.out.b.c 6 _ rfl⟩) ?_
  clear hK K hHeld
  intro hHeld
  clear h B2
  refine wpAnyH_onlyD 11 (by kernel_rfl) (fun o ho K hK => ?_) (by kernel_rfl)
  simp only [List.getElem?_toArray, List.getElem?_cons_succ, List.getElem?_cons_zero, Option.some.injEq] at ho
  subst ho
  go_simp
  refine (fxSub_nil a.dz (mulF sa a.dx) _ HI.out.d.z0 HI.out.d.z1 (mulF_in _ _).1 (mulF_in _ _).2).mono ?_
  rintro e w5 ⟨rfl, h⟩
  have B5 := Lib.hid (B4.out.step h)
  go_wp2_with fail
  refine hK.out _ _ (⟨B5.out.b.c 4 _ rfl, B5.out.b.c 5 _ rfl, B5.out.b.c 6 _ rfl⟩) ?_
  clear hK K hHeld
  intro hHeld
  clear h B4
  refine wpAnyH_onlyD 17 (by kernel_rfl) (fun o ho K hK => ?_) (by kernel_rfl)
  simp only [List.getElem?_toArray, List.getElem?_cons_succ, List.getElem?_cons_zero, Option.some.injEq] at ho
  subst ho
  go_simp
  refine (fxMul_nil sb a.dy _ SB.out.1 SB.out.2 HI.out.d.y0 HI.out.d.y1).mono ?_
  rintro e w6 ⟨rfl, h⟩
  have B6 := Lib.hid (B5.out.step h)
  go_wp2_with fail
  refine hK.out _ _ (⟨B6.out.b.c 4 _ rfl, B6.out.b.c 5 _ rfl, B6.out.b.c 6 _ rfl⟩) ?_
  clear hK K hHeld
  intro hHeld
  clear h B5
  refine wpAnyH_onlyD 18 (by kernel_rfl) (fun o ho K hK => ?_) (by kernel_rfl)
  simp only [List.getElem?_toArray, List.getElem?_cons_succ, List.getElem?_cons_zero, Option.some.injEq] at ho
  subst ho
  go_simp
  refine (fxSub_nil (subF a.dz (mulF sa a.dx)) (mulF sb a.dy) _ (subF_in _ _).1 (subF_in _ _).2 (mulF_in _ _).1 (mulF_in _ _).2).mono ?_
  rintro e w7 ⟨rfl, h⟩
  have B7 := Lib.hid (B6.out.step h)
  go_wp2_with fail
  refine hK.out _ _ (⟨B7.out.b.c 4 _ rfl, B7.out.b.c 5 _ rfl, B7.out.b.c 6 _ rfl⟩) ?_
  clear hK K hHeld
  intro hHeld
  clear h B6
  refine wpAnyH_takeD 19 13 (v := ?_) (by kernel_rfl) (by kernel_rfl) (by kernel_rfl) (by kernel_rfl) (by rfl) (fun _ _ _ h => h) ?_ hHeld ?_
  rotate_left 1
  (intro o ho W hSw; simp only [List.getElem?_toArray, List.getElem?_cons_succ, List.getElem?_cons_zero, Option.some.injEq] at ho; subst ho; (try dsimp only at hSw); go_simp; try with_reducible rfl)
  (try simp only [Act.put, List.setIfInBounds_toArray, List.set_cons_zero, List.set_cons_succ])
  refine wpAnyH_done (by kernel_rfl) ?_ _
  clear hHeld
  as_aux_lemma =>
  have IS := Lib.hid (show In64 st by rw [HS.out]; exact subF_in _ _)
  rw [← HS.out]
  clear HS
  by_cases s1 : st < 0
  rotate_left
  · have E := Lib.hid (MN.out (by omega))
    have s2 : 0 ≤ st := by omega
    clear MN MY VB VO HO hc1 hc2
    go_wp2
    go_ret2
    exact ⟨by rw [← E.out.1, ← E.out.2]; rfl, B7.out.s.l⟩
  have E := Lib.hid (MY.out (by omega))
  clear MN MY
  have b0 := B7.out.b.c 0 _ rfl
  have b1 := B7.out.b.c 1 _ rfl
  have b2 := B7.out.b.c 2 _ rfl
  have b3 := B7.out.b.c 3 _ rfl
  have b4 := B7.out.b.c 4 _ rfl
  have b5 := B7.out.b.c 5 _ rfl
  have b6 := B7.out.b.c 6 _ rfl
  have b7 := B7.out.b.c 7 _ rfl
  have b8 := B7.out.b.c 8 _ rfl
  have b9 := B7.out.b.c 9 _ rfl
  go_wp2_with fail
  refine (VO.out _ B7.out.s.p).mono ?_
  rintro e w8 ⟨rfl, h⟩
  have B8 := Lib.hid (B7.out.step h)
  clear h B7
  clear b0 b1 b2 b3 b4 b5 b6 b7 b8 b9 VO
  have b0 := B8.out.b.c 0 _ rfl
  go_wp2_with fail
  refine (VB.out _ B8.out.s.p).mono ?_
  rintro e w9 ⟨rfl, h⟩
  have B9 := Lib.hid (B8.out.step h)
  clear h B8
  clear b0 VB
  go_wp2_with fail
  refine (fxMul_nil sa X _ SA.out.1 SA.out.2 HX.out.1 HX.out.2).mono ?_
  rintro e w10 ⟨rfl, h⟩
  have B10 := Lib.hid (B9.out.step h)
  clear h B9
  go_wp2_with fail
  refine (fxAdd_nil bs (mulF sa X) _ BI.out.1 BI.out.2 (mulF_in _ _).1 (mulF_in _ _).2).mono ?_
  rintro e w11 ⟨rfl, h⟩
  have B11 := Lib.hid (B10.out.step h)
  clear h B10
  go_wp2_with fail
  refine (fxMul_nil sb Y _ SB.out.1 SB.out.2 HY.out.1 HY.out.2).mono ?_
  rintro e w12 ⟨rfl, h⟩
  have B12 := Lib.hid (B11.out.step h)
  clear h B11
  go_wp2_with fail
  refine (fxAdd_nil (addF bs (mulF sa X)) (mulF sb Y) _ (addF_in _ _).1 (addF_in _ _).2 (mulF_in _ _).1 (mulF_in _ _).2).mono ?_
  rintro e w13 ⟨rfl, h⟩
  have B13 := Lib.hid (B12.out.step h)
  clear h B12
  have b3 := B13.out.b.c 3 _ rfl
  go_wp2_with fail
  refine (fxSub_nil a.oz (addF (addF bs (mulF sa X)) (mulF sb Y)) _ HI.out.o.z0 HI.out.o.z1 (addF_in _ _).1 (addF_in _ _).2).mono ?_
  rintro e w14 ⟨rfl, h⟩
  have B14 := Lib.hid (B13.out.step h)
  clear h B13
  clear b3
  have IO := Lib.hid (show In64 ov by rw [HO.out]; exact subF_in _ _)
  rw [← HO.out]
  clear HO
  obtain ⟨mx, hx0⟩ : ∃ mx, (if 0 < ov then ov else 0) = mx := ⟨_, rfl⟩
  have hx1 : max ov 0 = mx := by rw [← hx0]; split <;> omega
  have hx2 : (if 0 > ov then 0 else ov) = mx := by rw [← hx0]; split <;> split <;> omega
  have hx3 : (if ov < 0 then 0 else ov) = mx := by rw [← hx0]; split <;> split <;> omega
  rw [hx0] at E
  have IM := Lib.hid (show In64 mx by rw [← hx0]; have := IO.out; unfold In64 at *; split <;> omega)
  clear hx0 IO
  go_wp2_with fail
  refine (fxNeg_nil st _ IS.out.1 IS.out.2).mono ?_
  rintro e w15 ⟨rfl, h⟩
  have B15 := Lib.hid (B14.out.step h)
  clear h B14
  go_wp2_with fail
  refine (fxDiv_nil mx (subF 0 st) _ IM.out.1 IM.out.2 (subF_in _ _).1 (subF_in _ _).2).mono ?_
  rintro e w16 ⟨rfl, h⟩
  have B16 := Lib.hid (B15.out.step h)
  clear h B15
  clear hx1 hx2 hx3
  go_wp2
  go_ret2
  exact ⟨by rw [← E.out.1, ← E.out.2]; rfl, B16.out.s.l⟩
set_option maxRecDepth 100000 in
set_option maxHeartbeats 4000000 in
theorem ySpan_any (t : Trk) (a : Ry) (H V : Nat) (p q s : Int) (lo top f hb gb hc gc : Nat) (w : World) (P : FX lo top w f hb gb hc gc t) (ha : a.ins) (hs : In64 s) (hH : H < 64) (hV : V < 64) :
    Calls Tryz.prog 37 #[bmW f a (fz H) (fz V) p q, .int .i64 s] w fun e w' => e = .returned (.tuple #[.complex .f64 (fz ((min H (whK t (pntF a.ox a.dx s)) : Nat))) (fz ((min V (whR t (pntF a.oy a.dy s)) : Nat))), .complex .f64 (fz ((max H (whK t (pntF a.ox a.dx s)) : Nat))) (fz ((max V (whR t (pntF a.oy a.dy s)) : Nat)))]) ∧ Below w.heap.size w w' := by
  have TR := Lib.hid (fun (W : World) (Q : FX lo top W f hb gb hc gc t) => yTri_any t a (fz H) (fz V) p q s lo top f hb gb hc gc W Q ha hs)
  have S0 := Lib.hid (FS.mk (w := w) P (Below.refl _ _))
  have ok := wh_ok P.r.1 (pntF a.ox a.dx s) (pntF a.oy a.dy s)
  obtain ⟨⟨⟨m1, m2⟩, -⟩, -⟩ := P.r
  obtain ⟨⟨-, k2⟩, -, k4⟩ := ok
  have n1 : ∀ ts t' w, (Builtin.min_ ts t' #[.float .f64 (fz H), .float .f64 (fz (whK t (pntF a.ox a.dx s)))]).run Tryz.prog w = .ok (.float .f64 (fz ((min H (whK t (pntF a.ox a.dx s)) : Nat)))) w := fun ts t' w => fz_min w (by omega) (by omega) ts t'
  have n2 : ∀ ts t' w, (Builtin.min_ ts t' #[.float .f64 (fz V), .float .f64 (fz (whR t (pntF a.oy a.dy s)))]).run Tryz.prog w = .ok (.float .f64 (fz ((min V (whR t (pntF a.oy a.dy s)) : Nat)))) w := fun ts t' w => fz_min w (by omega) (by omega) ts t'
  have n3 : ∀ ts t' w, (Builtin.max_ ts t' #[.float .f64 (fz H), .float .f64 (fz (whK t (pntF a.ox a.dx s)))]).run Tryz.prog w = .ok (.float .f64 (fz ((max H (whK t (pntF a.ox a.dx s)) : Nat)))) w := fun ts t' w => fz_max w (by omega) (by omega) ts t'
  have n4 : ∀ ts t' w, (Builtin.max_ ts t' #[.float .f64 (fz V), .float .f64 (fz (whR t (pntF a.oy a.dy s)))]).run Tryz.prog w = .ok (.float .f64 (fz ((max V (whR t (pntF a.oy a.dy s)) : Nat)))) w := fun ts t' w => fz_max w (by omega) (by omega) ts t'
  generalize pntF a.ox a.dx s = X at *
  generalize pntF a.oy a.dy s = Y at *
  generalize decide (whX t X < whY t Y) = dl at *
  generalize fz ((min H (whK t X) : Nat)) = z1 at *
  generalize fz ((min V (whR t Y) : Nat)) = z2 at *
  generalize fz ((max H (whK t X) : Nat)) = z3 at *
  generalize fz ((max V (whR t Y) : Nat)) = z4 at *
  generalize fz (whK t X) = E at *
  generalize fz (whR t Y) = F at *
  generalize fz H = H' at *
  generalize fz V = V' at *
  clear P ha hs m1 m2 k2 k4 hH hV
  go_enter Tryz.func37, Tryz.ntmps37
  go_wp2_with fail
  refine calls_gen (S := fun W => BS w W lo top f hb gb hc gc t w.heap.size (bmL f a H' V' p q)) ⟨S0.out.step ((Below.refl _ _).alloc (Nat.le_refl _) _), BW.new _ _ [_, _, _, _, _, _, _, _, _, _] _ rfl⟩ (fun W1 hS => ?_)
  have B1 := Lib.hid hS
  clear hS S0
  refine (TR.out _ B1.out.s.p).mono ?_
  rintro e w2 ⟨rfl, h⟩
  have B2 := Lib.hid (B1.out.step h)
  clear h B1 TR
  have b7 := B2.out.b.c 7 _ rfl
  go_wp2
  go_ret2
  exact ⟨rfl, B2.out.s.l⟩
end Go.Proofs.YtinahmhiopgcnaaGreat

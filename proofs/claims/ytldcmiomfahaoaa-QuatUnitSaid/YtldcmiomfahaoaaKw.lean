/- The contract of the program's Mul of attitudes. -/
import Derived.Test.YtldcmiomfahaoaaKv
import Derived.Test.YtldcmiomfahaoaaKe
namespace Go.Proofs.Ytldcmiomfahaoaa
open Go.RowKit
set_option linter.unusedVariables false
set_option linter.unusedSimpArgs false

/-- four terms in a block that has just been made -/
theorem TW.new4 (w : World) (n : Nat) (a1 b1 a2 b2 a3 b3 a4 b4 : Int) (c1 c2 c3 c4 : Bool) (t : TypeId) (e : n = w.heap.size) :
    TW (w.alloc (.cells #[.int .i64 a1, .int .i64 b1, .bool c1, .int .i64 a2, .int .i64 b2, .bool c2, .int .i64 a3, .int .i64 b3, .bool c3, .int .i64 a4, .int .i64 b4, .bool c4] t)) n [⟨a1, b1, c1⟩, ⟨a2, b2, c2⟩, ⟨a3, b3, c3⟩, ⟨a4, b4, c4⟩] := by
  subst e
  refine ⟨fun i t h => ?_, by simp⟩
  match i, h with
  | 0, h => simp at h; subst h; exact ⟨World.cell?_alloc_new w _ _ 0, World.cell?_alloc_new w _ _ 1, World.cell?_alloc_new w _ _ 2⟩
  | 1, h => simp at h; subst h; exact ⟨World.cell?_alloc_new w _ _ 3, World.cell?_alloc_new w _ _ 4, World.cell?_alloc_new w _ _ 5⟩
  | 2, h => simp at h; subst h; exact ⟨World.cell?_alloc_new w _ _ 6, World.cell?_alloc_new w _ _ 7, World.cell?_alloc_new w _ _ 8⟩
  | 3, h => simp at h; subst h; exact ⟨World.cell?_alloc_new w _ _ 9, World.cell?_alloc_new w _ _ 10, World.cell?_alloc_new w _ _ 11⟩
  | i + 4, h => simp at h
theorem in4t {a1 b1 a2 b2 a3 b3 a4 b4 : Int} {c1 c2 c3 c4 : Bool} (h1 : In64 a1 ∧ In64 b1) (h2 : In64 a2 ∧ In64 b2) (h3 : In64 a3 ∧ In64 b3) (h4 : In64 a4 ∧ In64 b4) :
    ∀ (i : Nat) (t : Tm), [(⟨a1, b1, c1⟩ : Tm), ⟨a2, b2, c2⟩, ⟨a3, b3, c3⟩, ⟨a4, b4, c4⟩][i]? = some t → In64 t.a ∧ In64 t.b := by
  intro i t h
  match i, h with
  | 0, h => simp at h; subst h; exact h1
  | 1, h => simp at h; subst h; exact h2
  | 2, h => simp at h; subst h; exact h3
  | 3, h => simp at h; subst h; exact h4
  | i + 4, h => simp at h
theorem add_0 {a : Int} (h : In64 a) : addF 0 a = a ∧ addO 0 a = false := by
  have h := h
  unfold addF addO clip64 out64; unfold In64 at h
  constructor
  · rw [Int.zero_add]; split <;> (try split) <;> omega
  · simp; omega
theorem rowW (pw px py pz qw qx qy qz : Int) : tmsF 0 [⟨pw, qw, false⟩, ⟨px, qx, true⟩, ⟨py, qy, true⟩, ⟨pz, qz, true⟩] = qW pw px py pz qw qx qy qz ∧ tmsO 0 [⟨pw, qw, false⟩, ⟨px, qx, true⟩, ⟨py, qy, true⟩, ⟨pz, qz, true⟩] = qWo pw px py pz qw qx qy qz := by
  simp only [tmsF, tmsO, tmS, tmO, (add_0 (mulF_in pw qw)).1, (add_0 (mulF_in pw qw)).2, qW, qWo, if_true, Bool.false_eq_true, if_false, Bool.or_false, ← Bool.or_assoc, and_self]
theorem combW_any (pw px py pz qw qx qy qz : Int) (n b k : Nat) (o : Bool) (w : World) (hp : In4 pw px py pz) (hq : In4 qw qx qy qz) (T : TW w n [⟨pw, qw, false⟩, ⟨px, qx, true⟩, ⟨py, qy, true⟩, ⟨pz, qz, true⟩]) (hne : b ≠ n) (m : MAt w b k o) :
    Calls Try.prog 30 #[.pointer (some ⟨b, k, none⟩), .slice (some ⟨n, 0, none⟩) 4 4] w fun e w' => e = .returned (.int .i64 (qW pw px py pz qw qx qy qz)) ∧ FxW w.heap.size w b k (o || qWo pw px py pz qw qx qy qz) w' := by
  rw [← (rowW pw px py pz qw qx qy qz).1, ← (rowW pw px py pz qw qx qy qz).2]
  exact combine_any _ 4 n b k o w rfl (by omega) (in4t ⟨hp.a, hq.a⟩ ⟨hp.b, hq.b⟩ ⟨hp.c, hq.c⟩ ⟨hp.d, hq.d⟩) T hne m
theorem rowX (pw px py pz qw qx qy qz : Int) : tmsF 0 [⟨pw, qx, false⟩, ⟨px, qw, false⟩, ⟨py, qz, false⟩, ⟨pz, qy, true⟩] = qX pw px py pz qw qx qy qz ∧ tmsO 0 [⟨pw, qx, false⟩, ⟨px, qw, false⟩, ⟨py, qz, false⟩, ⟨pz, qy, true⟩] = qXo pw px py pz qw qx qy qz := by
  simp only [tmsF, tmsO, tmS, tmO, (add_0 (mulF_in pw qx)).1, (add_0 (mulF_in pw qx)).2, qX, qXo, if_true, Bool.false_eq_true, if_false, Bool.or_false, ← Bool.or_assoc, and_self]
theorem combX_any (pw px py pz qw qx qy qz : Int) (n b k : Nat) (o : Bool) (w : World) (hp : In4 pw px py pz) (hq : In4 qw qx qy qz) (T : TW w n [⟨pw, qx, false⟩, ⟨px, qw, false⟩, ⟨py, qz, false⟩, ⟨pz, qy, true⟩]) (hne : b ≠ n) (m : MAt w b k o) :
    Calls Try.prog 30 #[.pointer (some ⟨b, k, none⟩), .slice (some ⟨n, 0, none⟩) 4 4] w fun e w' => e = .returned (.int .i64 (qX pw px py pz qw qx qy qz)) ∧ FxW w.heap.size w b k (o || qXo pw px py pz qw qx qy qz) w' := by
  rw [← (rowX pw px py pz qw qx qy qz).1, ← (rowX pw px py pz qw qx qy qz).2]
  exact combine_any _ 4 n b k o w rfl (by omega) (in4t ⟨hp.a, hq.b⟩ ⟨hp.b, hq.a⟩ ⟨hp.c, hq.d⟩ ⟨hp.d, hq.c⟩) T hne m
theorem rowY (pw px py pz qw qx qy qz : Int) : tmsF 0 [⟨pw, qy, false⟩, ⟨px, qz, true⟩, ⟨py, qw, false⟩, ⟨pz, qx, false⟩] = qY pw px py pz qw qx qy qz ∧ tmsO 0 [⟨pw, qy, false⟩, ⟨px, qz, true⟩, ⟨py, qw, false⟩, ⟨pz, qx, false⟩] = qYo pw px py pz qw qx qy qz := by
  simp only [tmsF, tmsO, tmS, tmO, (add_0 (mulF_in pw qy)).1, (add_0 (mulF_in pw qy)).2, qY, qYo, if_true, Bool.false_eq_true, if_false, Bool.or_false, ← Bool.or_assoc, and_self]
theorem combY_any (pw px py pz qw qx qy qz : Int) (n b k : Nat) (o : Bool) (w : World) (hp : In4 pw px py pz) (hq : In4 qw qx qy qz) (T : TW w n [⟨pw, qy, false⟩, ⟨px, qz, true⟩, ⟨py, qw, false⟩, ⟨pz, qx, false⟩]) (hne : b ≠ n) (m : MAt w b k o) :
    Calls Try.prog 30 #[.pointer (some ⟨b, k, none⟩), .slice (some ⟨n, 0, none⟩) 4 4] w fun e w' => e = .returned (.int .i64 (qY pw px py pz qw qx qy qz)) ∧ FxW w.heap.size w b k (o || qYo pw px py pz qw qx qy qz) w' := by
  rw [← (rowY pw px py pz qw qx qy qz).1, ← (rowY pw px py pz qw qx qy qz).2]
  exact combine_any _ 4 n b k o w rfl (by omega) (in4t ⟨hp.a, hq.c⟩ ⟨hp.b, hq.d⟩ ⟨hp.c, hq.a⟩ ⟨hp.d, hq.b⟩) T hne m
theorem rowZ (pw px py pz qw qx qy qz : Int) : tmsF 0 [⟨pw, qz, false⟩, ⟨px, qy, false⟩, ⟨py, qx, true⟩, ⟨pz, qw, false⟩] = qZ pw px py pz qw qx qy qz ∧ tmsO 0 [⟨pw, qz, false⟩, ⟨px, qy, false⟩, ⟨py, qx, true⟩, ⟨pz, qw, false⟩] = qZo pw px py pz qw qx qy qz := by
  simp only [tmsF, tmsO, tmS, tmO, (add_0 (mulF_in pw qz)).1, (add_0 (mulF_in pw qz)).2, qZ, qZo, if_true, Bool.false_eq_true, if_false, Bool.or_false, ← Bool.or_assoc, and_self]
theorem combZ_any (pw px py pz qw qx qy qz : Int) (n b k : Nat) (o : Bool) (w : World) (hp : In4 pw px py pz) (hq : In4 qw qx qy qz) (T : TW w n [⟨pw, qz, false⟩, ⟨px, qy, false⟩, ⟨py, qx, true⟩, ⟨pz, qw, false⟩]) (hne : b ≠ n) (m : MAt w b k o) :
    Calls Try.prog 30 #[.pointer (some ⟨b, k, none⟩), .slice (some ⟨n, 0, none⟩) 4 4] w fun e w' => e = .returned (.int .i64 (qZ pw px py pz qw qx qy qz)) ∧ FxW w.heap.size w b k (o || qZo pw px py pz qw qx qy qz) w' := by
  rw [← (rowZ pw px py pz qw qx qy qz).1, ← (rowZ pw px py pz qw qx qy qz).2]
  exact combine_any _ 4 n b k o w rfl (by omega) (in4t ⟨hp.a, hq.d⟩ ⟨hp.b, hq.c⟩ ⟨hp.c, hq.b⟩ ⟨hp.d, hq.a⟩) T hne m
set_option maxRecDepth 100000 in
set_option maxHeartbeats 8000000 in
theorem QMul_any (pw px py pz qw qx qy qz : Int) (b k : Nat) (o : Bool) (w : World) (hp : In4 pw px py pz) (hq : In4 qw qx qy qz) (m : MAt w b k o) :
    Calls Try.prog 9 #[.pointer (some ⟨b, k, none⟩), .agg #[.int .i64 pw, .int .i64 px, .int .i64 py, .int .i64 pz], .agg #[.int .i64 qw, .int .i64 qx, .int .i64 qy, .int .i64 qz]] w fun e w' => e = .returned (.agg #[.int .i64 (qW pw px py pz qw qx qy qz), .int .i64 (qX pw px py pz qw qx qy qz), .int .i64 (qY pw px py pz qw qx qy qz), .int .i64 (qZ pw px py pz qw qx qy qz)]) ∧ FxW w.heap.size w b k (o || qWo pw px py pz qw qx qy qz || qXo pw px py pz qw qx qy qz || qYo pw px py pz qw qx qy qz || qZo pw px py pz qw qx qy qz) w' := by
  have HP := Lib.hid hp
  have HQ := Lib.hid hq
  have HM := Lib.hid m
  have CW := Lib.hid (fun (n : Nat) (o : Bool) (W : World) (T : TW W n [⟨pw, qw, false⟩, ⟨px, qx, true⟩, ⟨py, qy, true⟩, ⟨pz, qz, true⟩]) (hne : b ≠ n) (m : MAt W b k o) => combW_any pw px py pz qw qx qy qz n b k o W hp hq T hne m)
  have CX := Lib.hid (fun (n : Nat) (o : Bool) (W : World) (T : TW W n [⟨pw, qx, false⟩, ⟨px, qw, false⟩, ⟨py, qz, false⟩, ⟨pz, qy, true⟩]) (hne : b ≠ n) (m : MAt W b k o) => combX_any pw px py pz qw qx qy qz n b k o W hp hq T hne m)
  have CY := Lib.hid (fun (n : Nat) (o : Bool) (W : World) (T : TW W n [⟨pw, qy, false⟩, ⟨px, qz, true⟩, ⟨py, qw, false⟩, ⟨pz, qx, false⟩]) (hne : b ≠ n) (m : MAt W b k o) => combY_any pw px py pz qw qx qy qz n b k o W hp hq T hne m)
  have CZ := Lib.hid (fun (n : Nat) (o : Bool) (W : World) (T : TW W n [⟨pw, qz, false⟩, ⟨px, qy, false⟩, ⟨py, qx, true⟩, ⟨pz, qw, false⟩]) (hne : b ≠ n) (m : MAt W b k o) => combZ_any pw px py pz qw qx qy qz n b k o W hp hq T hne m)
  generalize qW pw px py pz qw qx qy qz = rW at *
  generalize qX pw px py pz qw qx qy qz = rX at *
  generalize qY pw px py pz qw qx qy qz = rY at *
  generalize qZ pw px py pz qw qx qy qz = rZ at *
  clear hp hq m
  go_enter Try.func9, Try.ntmps9
  go_wp2_with fail
  refine wp_gen (S := fun W => BW W w.heap.size [.int .i64 pw, .int .i64 px, .int .i64 py, .int .i64 pz] ∧ BW W (w.heap.size + 1) [.int .i64 qw, .int .i64 qx, .int .i64 qy, .int .i64 qz] ∧ BW W (w.heap.size + 1 + 1) [.int .i64 0, .int .i64 0, .int .i64 0, .int .i64 0] ∧ Below w.heap.size w W)
    ⟨((BW.new w w.heap.size [_, _, _, _] _ rfl).alloc _).alloc _, (BW.new _ (w.heap.size + 1) [_, _, _, _] _ (by simp)).alloc _, BW.new _ _ [_, _, _, _] _ (by simp), by repeat (first | exact Below.refl _ _ | assumption | refine Below.setCell ?_ (by first | omega | (simp; done) | (simp; omega)) _ | refine Below.alloc ?_ (by first | omega | (simp; done) | (simp; omega)) _ | refine below_drewN ?_ _ | refine Below.drew ?_ | refine Below.trans ?_ (Below.mono (by assumption) (by first | omega | (simp; done) | (simp; omega))))⟩ (fun w0 hS => ?_)
  have A0 := Lib.hid hS.1.drew
  have B0 := Lib.hid hS.2.1.drew
  have R0 := Lib.hid hS.2.2.1.drew
  have G0 := Lib.hid ((Flag.start HM.out hS.2.2.2).more ((Below.refl _ _).drew))
  clear hS HM
  simp only [List.append_eq, List.cons_append, List.nil_append]
  refine wp_region_held_drew (S := fun W => (W.cell? ⟨w.heap.size, 0, none⟩ = some (.int .i64 pw) ∧ W.cell? ⟨w.heap.size, 1, none⟩ = some (.int .i64 px) ∧ W.cell? ⟨w.heap.size, 2, none⟩ = some (.int .i64 py) ∧ W.cell? ⟨w.heap.size, 3, none⟩ = some (.int .i64 pz)) ∧ (W.cell? ⟨w.heap.size + 1, 0, none⟩ = some (.int .i64 qw) ∧ W.cell? ⟨w.heap.size + 1, 1, none⟩ = some (.int .i64 qx) ∧ W.cell? ⟨w.heap.size + 1, 2, none⟩ = some (.int .i64 qy) ∧ W.cell? ⟨w.heap.size + 1, 3, none⟩ = some (.int .i64 qz))) (by kernel_rfl) ⟨A0.out.h4, B0.out.h4⟩ (fun hHeld => ?_)
  generalize w0.drew = W0 at *
  refine wpAnyH_takeD 0 7 (v := ?_) (by decide +kernel) (by decide +kernel) (by decide +kernel) (by decide +kernel) (by rfl) (fun _ _ _ h => h) ?_ hHeld ?_
  rotate_left 1
  (intro o ho W hSw; simp only [List.getElem?_toArray, List.getElem?_cons_succ, List.getElem?_cons_zero, Option.some.injEq] at ho; subst ho; (try dsimp only at hSw); go_simp; try with_reducible rfl)
  (try simp only [Act.put, List.setIfInBounds_toArray, List.set_cons_zero, List.set_cons_succ])
  refine wpAnyH_takeD 1 8 (v := ?_) (by decide +kernel) (by decide +kernel) (by decide +kernel) (by decide +kernel) (by rfl) (fun _ _ _ h => h) ?_ hHeld ?_
  rotate_left 1
  (intro o ho W hSw; simp only [List.getElem?_toArray, List.getElem?_cons_succ, List.getElem?_cons_zero, Option.some.injEq] at ho; subst ho; (try dsimp only at hSw); go_simp; try with_reducible rfl)
  (try simp only [Act.put, List.setIfInBounds_toArray, List.set_cons_zero, List.set_cons_succ])
  refine wpAnyH_takeD 2 9 (v := ?_) (by decide +kernel) (by decide +kernel) (by decide +kernel) (by decide +kernel) (by rfl) (fun _ _ _ h => h) ?_ hHeld ?_
  rotate_left 1
  (intro o ho W hSw; simp only [List.getElem?_toArray, List.getElem?_cons_succ, List.getElem?_cons_zero, Option.some.injEq] at ho; subst ho; (try dsimp only at hSw); go_simp; try with_reducible rfl)
  (try simp only [Act.put, List.setIfInBounds_toArray, List.set_cons_zero, List.set_cons_succ])
  refine wpAnyH_takeD 3 10 (v := ?_) (by decide +kernel) (by decide +kernel) (by decide +kernel) (by decide +kernel) (by rfl) (fun _ _ _ h => h) ?_ hHeld ?_
  rotate_left 1
  (intro o ho W hSw; simp only [List.getElem?_toArray, List.getElem?_cons_succ, List.getElem?_cons_zero, Option.some.injEq] at ho; subst ho; (try dsimp only at hSw); go_simp; try with_reducible rfl)
  (try simp only [Act.put, List.setIfInBounds_toArray, List.set_cons_zero, List.set_cons_succ])
  refine wpAnyH_takeD 4 11 (v := ?_) (by decide +kernel) (by decide +kernel) (by decide +kernel) (by decide +kernel) (by rfl) (fun _ _ _ h => h) ?_ hHeld ?_
  rotate_left 1
  (intro o ho W hSw; simp only [List.getElem?_toArray, List.getElem?_cons_succ, List.getElem?_cons_zero, Option.some.injEq] at ho; subst ho; (try dsimp only at hSw); go_simp; try with_reducible rfl)
  (try simp only [Act.put, List.setIfInBounds_toArray, List.set_cons_zero, List.set_cons_succ])
  refine wpAnyH_takeD 6 13 (v := ?_) (by decide +kernel) (by decide +kernel) (by decide +kernel) (by decide +kernel) (by rfl) (fun _ _ _ h => h) ?_ hHeld ?_
  rotate_left 1
  (intro o ho W hSw; simp only [List.getElem?_toArray, List.getElem?_cons_succ, List.getElem?_cons_zero, Option.some.injEq] at ho; subst ho; (try dsimp only at hSw); go_simp; try with_reducible rfl)
  (try simp only [Act.put, List.setIfInBounds_toArray, List.set_cons_zero, List.set_cons_succ])
  refine wpAnyH_takeD 7 14 (v := ?_) (by decide +kernel) (by decide +kernel) (by decide +kernel) (by decide +kernel) (by rfl) (fun _ _ _ h => h) ?_ hHeld ?_
  rotate_left 1
  (intro o ho W hSw; simp only [List.getElem?_toArray, List.getElem?_cons_succ, List.getElem?_cons_zero, Option.some.injEq] at ho; subst ho; (try dsimp only at hSw); go_simp; try with_reducible rfl)
  (try simp only [Act.put, List.setIfInBounds_toArray, List.set_cons_zero, List.set_cons_succ])
  refine wpAnyH_takeD 8 15 (v := ?_) (by decide +kernel) (by decide +kernel) (by decide +kernel) (by decide +kernel) (by rfl) (fun _ _ _ h => h) ?_ hHeld ?_
  rotate_left 1
  (intro o ho W hSw; simp only [List.getElem?_toArray, List.getElem?_cons_succ, List.getElem?_cons_zero, Option.some.injEq] at ho; subst ho; (try dsimp only at hSw); go_simp; try with_reducible rfl)
  (try simp only [Act.put, List.setIfInBounds_toArray, List.set_cons_zero, List.set_cons_succ])
  refine wpAnyH_takeD 9 16 (v := ?_) (by decide +kernel) (by decide +kernel) (by decide +kernel) (by decide +kernel) (by rfl) (fun _ _ _ h => h) ?_ hHeld ?_
  rotate_left 1
  (intro o ho W hSw; simp only [List.getElem?_toArray, List.getElem?_cons_succ, List.getElem?_cons_zero, Option.some.injEq] at ho; subst ho; (try dsimp only at hSw); go_simp; try with_reducible rfl)
  (try simp only [Act.put, List.setIfInBounds_toArray, List.set_cons_zero, List.set_cons_succ])
  refine wpAnyH_takeD 11 18 (v := ?_) (by decide +kernel) (by decide +kernel) (by decide +kernel) (by decide +kernel) (by rfl) (fun _ _ _ h => h) ?_ hHeld ?_
  rotate_left 1
  (intro o ho W hSw; simp only [List.getElem?_toArray, List.getElem?_cons_succ, List.getElem?_cons_zero, Option.some.injEq] at ho; subst ho; (try dsimp only at hSw); go_simp; try with_reducible rfl)
  (try simp only [Act.put, List.setIfInBounds_toArray, List.set_cons_zero, List.set_cons_succ])
  refine wpAnyH_takeD 12 19 (v := ?_) (by decide +kernel) (by decide +kernel) (by decide +kernel) (by decide +kernel) (by rfl) (fun _ _ _ h => h) ?_ hHeld ?_
  rotate_left 1
  (intro o ho W hSw; simp only [List.getElem?_toArray, List.getElem?_cons_succ, List.getElem?_cons_zero, Option.some.injEq] at ho; subst ho; (try dsimp only at hSw); go_simp; try with_reducible rfl)
  (try simp only [Act.put, List.setIfInBounds_toArray, List.set_cons_zero, List.set_cons_succ])
  refine wpAnyH_takeD 13 20 (v := ?_) (by decide +kernel) (by decide +kernel) (by decide +kernel) (by decide +kernel) (by rfl) (fun _ _ _ h => h) ?_ hHeld ?_
  rotate_left 1
  (intro o ho W hSw; simp only [List.getElem?_toArray, List.getElem?_cons_succ, List.getElem?_cons_zero, Option.some.injEq] at ho; subst ho; (try dsimp only at hSw); go_simp; try with_reducible rfl)
  (try simp only [Act.put, List.setIfInBounds_toArray, List.set_cons_zero, List.set_cons_succ])
  refine wpAnyH_takeD 14 21 (v := ?_) (by decide +kernel) (by decide +kernel) (by decide +kernel) (by decide +kernel) (by rfl) (fun _ _ _ h => h) ?_ hHeld ?_
  rotate_left 1
  (intro o ho W hSw; simp only [List.getElem?_toArray, List.getElem?_cons_succ, List.getElem?_cons_zero, Option.some.injEq] at ho; subst ho; (try dsimp only at hSw); go_simp; try with_reducible rfl)
  (try simp only [Act.put, List.setIfInBounds_toArray, List.set_cons_zero, List.set_cons_succ])
  refine wpAnyH_takeD 16 23 (v := ?_) (by decide +kernel) (by decide +kernel) (by decide +kernel) (by decide +kernel) (by rfl) (fun _ _ _ h => h) ?_ hHeld ?_
  rotate_left 1
  (intro o ho W hSw; simp only [List.getElem?_toArray, List.getElem?_cons_succ, List.getElem?_cons_zero, Option.some.injEq] at ho; subst ho; (try dsimp only at hSw); go_simp; try with_reducible rfl)
  (try simp only [Act.put, List.setIfInBounds_toArray, List.set_cons_zero, List.set_cons_succ])
  refine wpAnyH_takeD 17 24 (v := ?_) (by decide +kernel) (by decide +kernel) (by decide +kernel) (by decide +kernel) (by rfl) (fun _ _ _ h => h) ?_ hHeld ?_
  rotate_left 1
  (intro o ho W hSw; simp only [List.getElem?_toArray, List.getElem?_cons_succ, List.getElem?_cons_zero, Option.some.injEq] at ho; subst ho; (try dsimp only at hSw); go_simp; try with_reducible rfl)
  (try simp only [Act.put, List.setIfInBounds_toArray, List.set_cons_zero, List.set_cons_succ])
  refine wpAnyH_takeD 18 25 (v := ?_) (by decide +kernel) (by decide +kernel) (by decide +kernel) (by decide +kernel) (by rfl) (fun _ _ _ h => h) ?_ hHeld ?_
  rotate_left 1
  (intro o ho W hSw; simp only [List.getElem?_toArray, List.getElem?_cons_succ, List.getElem?_cons_zero, Option.some.injEq] at ho; subst ho; (try dsimp only at hSw); go_simp; try with_reducible rfl)
  (try simp only [Act.put, List.setIfInBounds_toArray, List.set_cons_zero, List.set_cons_succ])
  refine wpAnyH_takeD 19 26 (v := ?_) (by decide +kernel) (by decide +kernel) (by decide +kernel) (by decide +kernel) (by rfl) (fun _ _ _ h => h) ?_ hHeld ?_
  rotate_left 1
  (intro o ho W hSw; simp only [List.getElem?_toArray, List.getElem?_cons_succ, List.getElem?_cons_zero, Option.some.injEq] at ho; subst ho; (try dsimp only at hSw); go_simp; try with_reducible rfl)
  (try simp only [Act.put, List.setIfInBounds_toArray, List.set_cons_zero, List.set_cons_succ])
  refine wpAnyH_takeD 23 30 (v := ?_) (by decide +kernel) (by decide +kernel) (by decide +kernel) (by decide +kernel) (by rfl) (fun _ _ _ h => h) ?_ hHeld ?_
  rotate_left 1
  (intro o ho W hSw; simp only [List.getElem?_toArray, List.getElem?_cons_succ, List.getElem?_cons_zero, Option.some.injEq] at ho; subst ho; (try dsimp only at hSw); go_simp; try with_reducible rfl)
  (try simp only [Act.put, List.setIfInBounds_toArray, List.set_cons_zero, List.set_cons_succ])
  refine wpAnyH_takeD 24 31 (v := ?_) (by decide +kernel) (by decide +kernel) (by decide +kernel) (by decide +kernel) (by rfl) (fun _ _ _ h => h) ?_ hHeld ?_
  rotate_left 1
  (intro o ho W hSw; simp only [List.getElem?_toArray, List.getElem?_cons_succ, List.getElem?_cons_zero, Option.some.injEq] at ho; subst ho; (try dsimp only at hSw); go_simp; try with_reducible rfl)
  (try simp only [Act.put, List.setIfInBounds_toArray, List.set_cons_zero, List.set_cons_succ])
  refine wpAnyH_takeD 25 32 (v := ?_) (by decide +kernel) (by decide +kernel) (by decide +kernel) (by decide +kernel) (by rfl) (fun _ _ _ h => h) ?_ hHeld ?_
  rotate_left 1
  (intro o ho W hSw; simp only [List.getElem?_toArray, List.getElem?_cons_succ, List.getElem?_cons_zero, Option.some.injEq] at ho; subst ho; (try dsimp only at hSw); go_simp; try with_reducible rfl)
  (try simp only [Act.put, List.setIfInBounds_toArray, List.set_cons_zero, List.set_cons_succ])
  refine wpAnyH_takeD 26 33 (v := ?_) (by decide +kernel) (by decide +kernel) (by decide +kernel) (by decide +kernel) (by rfl) (fun _ _ _ h => h) ?_ hHeld ?_
  rotate_left 1
  (intro o ho W hSw; simp only [List.getElem?_toArray, List.getElem?_cons_succ, List.getElem?_cons_zero, Option.some.injEq] at ho; subst ho; (try dsimp only at hSw); go_simp; try with_reducible rfl)
  (try simp only [Act.put, List.setIfInBounds_toArray, List.set_cons_zero, List.set_cons_succ])
  refine wpAnyH_takeD 27 34 (v := ?_) (by decide +kernel) (by decide +kernel) (by decide +kernel) (by decide +kernel) (by rfl) (fun _ _ _ h => h) ?_ hHeld ?_
  rotate_left 1
  (intro o ho W hSw; simp only [List.getElem?_toArray, List.getElem?_cons_succ, List.getElem?_cons_zero, Option.some.injEq] at ho; subst ho; (try dsimp only at hSw); go_simp; try with_reducible rfl)
  (try simp only [Act.put, List.setIfInBounds_toArray, List.set_cons_zero, List.set_cons_succ])
  refine wpAnyH_takeD 29 36 (v := ?_) (by decide +kernel) (by decide +kernel) (by decide +kernel) (by decide +kernel) (by rfl) (fun _ _ _ h => h) ?_ hHeld ?_
  rotate_left 1
  (intro o ho W hSw; simp only [List.getElem?_toArray, List.getElem?_cons_succ, List.getElem?_cons_zero, Option.some.injEq] at ho; subst ho; (try dsimp only at hSw); go_simp; try with_reducible rfl)
  (try simp only [Act.put, List.setIfInBounds_toArray, List.set_cons_zero, List.set_cons_succ])
  refine wpAnyH_takeD 30 37 (v := ?_) (by decide +kernel) (by decide +kernel) (by decide +kernel) (by decide +kernel) (by rfl) (fun _ _ _ h => h) ?_ hHeld ?_
  rotate_left 1
  (intro o ho W hSw; simp only [List.getElem?_toArray, List.getElem?_cons_succ, List.getElem?_cons_zero, Option.some.injEq] at ho; subst ho; (try dsimp only at hSw); go_simp; try with_reducible rfl)
  (try simp only [Act.put, List.setIfInBounds_toArray, List.set_cons_zero, List.set_cons_succ])
  refine wpAnyH_takeD 31 38 (v := ?_) (by decide +kernel) (by decide +kernel) (by decide +kernel) (by decide +kernel) (by rfl) (fun _ _ _ h => h) ?_ hHeld ?_
  rotate_left 1
  (intro o ho W hSw; simp only [List.getElem?_toArray, List.getElem?_cons_succ, List.getElem?_cons_zero, Option.some.injEq] at ho; subst ho; (try dsimp only at hSw); go_simp; try with_reducible rfl)
  (try simp only [Act.put, List.setIfInBounds_toArray, List.set_cons_zero, List.set_cons_succ])
  refine wpAnyH_takeD 32 39 (v := ?_) (by decide +kernel) (by decide +kernel) (by decide +kernel) (by decide +kernel) (by rfl) (fun _ _ _ h => h) ?_ hHeld ?_
  rotate_left 1
  (intro o ho W hSw; simp only [List.getElem?_toArray, List.getElem?_cons_succ, List.getElem?_cons_zero, Option.some.injEq] at ho; subst ho; (try dsimp only at hSw); go_simp; try with_reducible rfl)
  (try simp only [Act.put, List.setIfInBounds_toArray, List.set_cons_zero, List.set_cons_succ])
  refine wpAnyH_takeD 34 41 (v := ?_) (by decide +kernel) (by decide +kernel) (by decide +kernel) (by decide +kernel) (by rfl) (fun _ _ _ h => h) ?_ hHeld ?_
  rotate_left 1
  (intro o ho W hSw; simp only [List.getElem?_toArray, List.getElem?_cons_succ, List.getElem?_cons_zero, Option.some.injEq] at ho; subst ho; (try dsimp only at hSw); go_simp; try with_reducible rfl)
  (try simp only [Act.put, List.setIfInBounds_toArray, List.set_cons_zero, List.set_cons_succ])
  refine wpAnyH_takeD 35 42 (v := ?_) (by decide +kernel) (by decide +kernel) (by decide +kernel) (by decide +kernel) (by rfl) (fun _ _ _ h => h) ?_ hHeld ?_
  rotate_left 1
  (intro o ho W hSw; simp only [List.getElem?_toArray, List.getElem?_cons_succ, List.getElem?_cons_zero, Option.some.injEq] at ho; subst ho; (try dsimp only at hSw); go_simp; try with_reducible rfl)
  (try simp only [Act.put, List.setIfInBounds_toArray, List.set_cons_zero, List.set_cons_succ])
  refine wpAnyH_takeD 36 43 (v := ?_) (by decide +kernel) (by decide +kernel) (by decide +kernel) (by decide +kernel) (by rfl) (fun _ _ _ h => h) ?_ hHeld ?_
  rotate_left 1
  (intro o ho W hSw; simp only [List.getElem?_toArray, List.getElem?_cons_succ, List.getElem?_cons_zero, Option.some.injEq] at ho; subst ho; (try dsimp only at hSw); go_simp; try with_reducible rfl)
  (try simp only [Act.put, List.setIfInBounds_toArray, List.set_cons_zero, List.set_cons_succ])
  refine wpAnyH_takeD 37 44 (v := ?_) (by decide +kernel) (by decide +kernel) (by decide +kernel) (by decide +kernel) (by rfl) (fun _ _ _ h => h) ?_ hHeld ?_
  rotate_left 1
  (intro o ho W hSw; simp only [List.getElem?_toArray, List.getElem?_cons_succ, List.getElem?_cons_zero, Option.some.injEq] at ho; subst ho; (try dsimp only at hSw); go_simp; try with_reducible rfl)
  (try simp only [Act.put, List.setIfInBounds_toArray, List.set_cons_zero, List.set_cons_succ])
  refine wpAnyH_takeD 39 46 (v := ?_) (by decide +kernel) (by decide +kernel) (by decide +kernel) (by decide +kernel) (by rfl) (fun _ _ _ h => h) ?_ hHeld ?_
  rotate_left 1
  (intro o ho W hSw; simp only [List.getElem?_toArray, List.getElem?_cons_succ, List.getElem?_cons_zero, Option.some.injEq] at ho; subst ho; (try dsimp only at hSw); go_simp; try with_reducible rfl)
  (try simp only [Act.put, List.setIfInBounds_toArray, List.set_cons_zero, List.set_cons_succ])
  refine wpAnyH_takeD 40 47 (v := ?_) (by decide +kernel) (by decide +kernel) (by decide +kernel) (by decide +kernel) (by rfl) (fun _ _ _ h => h) ?_ hHeld ?_
  rotate_left 1
  (intro o ho W hSw; simp only [List.getElem?_toArray, List.getElem?_cons_succ, List.getElem?_cons_zero, Option.some.injEq] at ho; subst ho; (try dsimp only at hSw); go_simp; try with_reducible rfl)
  (try simp only [Act.put, List.setIfInBounds_toArray, List.set_cons_zero, List.set_cons_succ])
  refine wpAnyH_takeD 41 48 (v := ?_) (by decide +kernel) (by decide +kernel) (by decide +kernel) (by decide +kernel) (by rfl) (fun _ _ _ h => h) ?_ hHeld ?_
  rotate_left 1
  (intro o ho W hSw; simp only [List.getElem?_toArray, List.getElem?_cons_succ, List.getElem?_cons_zero, Option.some.injEq] at ho; subst ho; (try dsimp only at hSw); go_simp; try with_reducible rfl)
  (try simp only [Act.put, List.setIfInBounds_toArray, List.set_cons_zero, List.set_cons_succ])
  refine wpAnyH_takeD 42 49 (v := ?_) (by decide +kernel) (by decide +kernel) (by decide +kernel) (by decide +kernel) (by rfl) (fun _ _ _ h => h) ?_ hHeld ?_
  rotate_left 1
  (intro o ho W hSw; simp only [List.getElem?_toArray, List.getElem?_cons_succ, List.getElem?_cons_zero, Option.some.injEq] at ho; subst ho; (try dsimp only at hSw); go_simp; try with_reducible rfl)
  (try simp only [Act.put, List.setIfInBounds_toArray, List.set_cons_zero, List.set_cons_succ])
  refine wpAnyH_takeD 46 53 (v := ?_) (by decide +kernel) (by decide +kernel) (by decide +kernel) (by decide +kernel) (by rfl) (fun _ _ _ h => h) ?_ hHeld ?_
  rotate_left 1
  (intro o ho W hSw; simp only [List.getElem?_toArray, List.getElem?_cons_succ, List.getElem?_cons_zero, Option.some.injEq] at ho; subst ho; (try dsimp only at hSw); go_simp; try with_reducible rfl)
  (try simp only [Act.put, List.setIfInBounds_toArray, List.set_cons_zero, List.set_cons_succ])
  refine wpAnyH_takeD 47 54 (v := ?_) (by decide +kernel) (by decide +kernel) (by decide +kernel) (by decide +kernel) (by rfl) (fun _ _ _ h => h) ?_ hHeld ?_
  rotate_left 1
  (intro o ho W hSw; simp only [List.getElem?_toArray, List.getElem?_cons_succ, List.getElem?_cons_zero, Option.some.injEq] at ho; subst ho; (try dsimp only at hSw); go_simp; try with_reducible rfl)
  (try simp only [Act.put, List.setIfInBounds_toArray, List.set_cons_zero, List.set_cons_succ])
  refine wpAnyH_takeD 48 55 (v := ?_) (by decide +kernel) (by decide +kernel) (by decide +kernel) (by decide +kernel) (by rfl) (fun _ _ _ h => h) ?_ hHeld ?_
  rotate_left 1
  (intro o ho W hSw; simp only [List.getElem?_toArray, List.getElem?_cons_succ, List.getElem?_cons_zero, Option.some.injEq] at ho; subst ho; (try dsimp only at hSw); go_simp; try with_reducible rfl)
  (try simp only [Act.put, List.setIfInBounds_toArray, List.set_cons_zero, List.set_cons_succ])
  refine wpAnyH_takeD 49 56 (v := ?_) (by decide +kernel) (by decide +kernel) (by decide +kernel) (by decide +kernel) (by rfl) (fun _ _ _ h => h) ?_ hHeld ?_
  rotate_left 1
  (intro o ho W hSw; simp only [List.getElem?_toArray, List.getElem?_cons_succ, List.getElem?_cons_zero, Option.some.injEq] at ho; subst ho; (try dsimp only at hSw); go_simp; try with_reducible rfl)
  (try simp only [Act.put, List.setIfInBounds_toArray, List.set_cons_zero, List.set_cons_succ])
  refine wpAnyH_takeD 50 57 (v := ?_) (by decide +kernel) (by decide +kernel) (by decide +kernel) (by decide +kernel) (by rfl) (fun _ _ _ h => h) ?_ hHeld ?_
  rotate_left 1
  (intro o ho W hSw; simp only [List.getElem?_toArray, List.getElem?_cons_succ, List.getElem?_cons_zero, Option.some.injEq] at ho; subst ho; (try dsimp only at hSw); go_simp; try with_reducible rfl)
  (try simp only [Act.put, List.setIfInBounds_toArray, List.set_cons_zero, List.set_cons_succ])
  refine wpAnyH_takeD 52 59 (v := ?_) (by decide +kernel) (by decide +kernel) (by decide +kernel) (by decide +kernel) (by rfl) (fun _ _ _ h => h) ?_ hHeld ?_
  rotate_left 1
  (intro o ho W hSw; simp only [List.getElem?_toArray, List.getElem?_cons_succ, List.getElem?_cons_zero, Option.some.injEq] at ho; subst ho; (try dsimp only at hSw); go_simp; try with_reducible rfl)
  (try simp only [Act.put, List.setIfInBounds_toArray, List.set_cons_zero, List.set_cons_succ])
  refine wpAnyH_takeD 53 60 (v := ?_) (by decide +kernel) (by decide +kernel) (by decide +kernel) (by decide +kernel) (by rfl) (fun _ _ _ h => h) ?_ hHeld ?_
  rotate_left 1
  (intro o ho W hSw; simp only [List.getElem?_toArray, List.getElem?_cons_succ, List.getElem?_cons_zero, Option.some.injEq] at ho; subst ho; (try dsimp only at hSw); go_simp; try with_reducible rfl)
  (try simp only [Act.put, List.setIfInBounds_toArray, List.set_cons_zero, List.set_cons_succ])
  refine wpAnyH_takeD 54 61 (v := ?_) (by decide +kernel) (by decide +kernel) (by decide +kernel) (by decide +kernel) (by rfl) (fun _ _ _ h => h) ?_ hHeld ?_
  rotate_left 1
  (intro o ho W hSw; simp only [List.getElem?_toArray, List.getElem?_cons_succ, List.getElem?_cons_zero, Option.some.injEq] at ho; subst ho; (try dsimp only at hSw); go_simp; try with_reducible rfl)
  (try simp only [Act.put, List.setIfInBounds_toArray, List.set_cons_zero, List.set_cons_succ])
  refine wpAnyH_takeD 55 62 (v := ?_) (by decide +kernel) (by decide +kernel) (by decide +kernel) (by decide +kernel) (by rfl) (fun _ _ _ h => h) ?_ hHeld ?_
  rotate_left 1
  (intro o ho W hSw; simp only [List.getElem?_toArray, List.getElem?_cons_succ, List.getElem?_cons_zero, Option.some.injEq] at ho; subst ho; (try dsimp only at hSw); go_simp; try with_reducible rfl)
  (try simp only [Act.put, List.setIfInBounds_toArray, List.set_cons_zero, List.set_cons_succ])
  refine wpAnyH_takeD 57 64 (v := ?_) (by decide +kernel) (by decide +kernel) (by decide +kernel) (by decide +kernel) (by rfl) (fun _ _ _ h => h) ?_ hHeld ?_
  rotate_left 1
  (intro o ho W hSw; simp only [List.getElem?_toArray, List.getElem?_cons_succ, List.getElem?_cons_zero, Option.some.injEq] at ho; subst ho; (try dsimp only at hSw); go_simp; try with_reducible rfl)
  (try simp only [Act.put, List.setIfInBounds_toArray, List.set_cons_zero, List.set_cons_succ])
  refine wpAnyH_takeD 58 65 (v := ?_) (by decide +kernel) (by decide +kernel) (by decide +kernel) (by decide +kernel) (by rfl) (fun _ _ _ h => h) ?_ hHeld ?_
  rotate_left 1
  (intro o ho W hSw; simp only [List.getElem?_toArray, List.getElem?_cons_succ, List.getElem?_cons_zero, Option.some.injEq] at ho; subst ho; (try dsimp only at hSw); go_simp; try with_reducible rfl)
  (try simp only [Act.put, List.setIfInBounds_toArray, List.set_cons_zero, List.set_cons_succ])
  refine wpAnyH_takeD 59 66 (v := ?_) (by decide +kernel) (by decide +kernel) (by decide +kernel) (by decide +kernel) (by rfl) (fun _ _ _ h => h) ?_ hHeld ?_
  rotate_left 1
  (intro o ho W hSw; simp only [List.getElem?_toArray, List.getElem?_cons_succ, List.getElem?_cons_zero, Option.some.injEq] at ho; subst ho; (try dsimp only at hSw); go_simp; try with_reducible rfl)
  (try simp only [Act.put, List.setIfInBounds_toArray, List.set_cons_zero, List.set_cons_succ])
  refine wpAnyH_takeD 60 67 (v := ?_) (by decide +kernel) (by decide +kernel) (by decide +kernel) (by decide +kernel) (by rfl) (fun _ _ _ h => h) ?_ hHeld ?_
  rotate_left 1
  (intro o ho W hSw; simp only [List.getElem?_toArray, List.getElem?_cons_succ, List.getElem?_cons_zero, Option.some.injEq] at ho; subst ho; (try dsimp only at hSw); go_simp; try with_reducible rfl)
  (try simp only [Act.put, List.setIfInBounds_toArray, List.set_cons_zero, List.set_cons_succ])
  refine wpAnyH_takeD 62 69 (v := ?_) (by decide +kernel) (by decide +kernel) (by decide +kernel) (by decide +kernel) (by rfl) (fun _ _ _ h => h) ?_ hHeld ?_
  rotate_left 1
  (intro o ho W hSw; simp only [List.getElem?_toArray, List.getElem?_cons_succ, List.getElem?_cons_zero, Option.some.injEq] at ho; subst ho; (try dsimp only at hSw); go_simp; try with_reducible rfl)
  (try simp only [Act.put, List.setIfInBounds_toArray, List.set_cons_zero, List.set_cons_succ])
  refine wpAnyH_takeD 63 70 (v := ?_) (by decide +kernel) (by decide +kernel) (by decide +kernel) (by decide +kernel) (by rfl) (fun _ _ _ h => h) ?_ hHeld ?_
  rotate_left 1
  (intro o ho W hSw; simp only [List.getElem?_toArray, List.getElem?_cons_succ, List.getElem?_cons_zero, Option.some.injEq] at ho; subst ho; (try dsimp only at hSw); go_simp; try with_reducible rfl)
  (try simp only [Act.put, List.setIfInBounds_toArray, List.set_cons_zero, List.set_cons_succ])
  refine wpAnyH_takeD 64 71 (v := ?_) (by decide +kernel) (by decide +kernel) (by decide +kernel) (by decide +kernel) (by rfl) (fun _ _ _ h => h) ?_ hHeld ?_
  rotate_left 1
  (intro o ho W hSw; simp only [List.getElem?_toArray, List.getElem?_cons_succ, List.getElem?_cons_zero, Option.some.injEq] at ho; subst ho; (try dsimp only at hSw); go_simp; try with_reducible rfl)
  (try simp only [Act.put, List.setIfInBounds_toArray, List.set_cons_zero, List.set_cons_succ])
  refine wpAnyH_takeD 65 72 (v := ?_) (by decide +kernel) (by decide +kernel) (by decide +kernel) (by decide +kernel) (by rfl) (fun _ _ _ h => h) ?_ hHeld ?_
  rotate_left 1
  (intro o ho W hSw; simp only [List.getElem?_toArray, List.getElem?_cons_succ, List.getElem?_cons_zero, Option.some.injEq] at ho; subst ho; (try dsimp only at hSw); go_simp; try with_reducible rfl)
  (try simp only [Act.put, List.setIfInBounds_toArray, List.set_cons_zero, List.set_cons_succ])
  refine wpAnyH_takeD 69 76 (v := ?_) (by decide +kernel) (by decide +kernel) (by decide +kernel) (by decide +kernel) (by rfl) (fun _ _ _ h => h) ?_ hHeld ?_
  rotate_left 1
  (intro o ho W hSw; simp only [List.getElem?_toArray, List.getElem?_cons_succ, List.getElem?_cons_zero, Option.some.injEq] at ho; subst ho; (try dsimp only at hSw); go_simp; try with_reducible rfl)
  (try simp only [Act.put, List.setIfInBounds_toArray, List.set_cons_zero, List.set_cons_succ])
  refine wpAnyH_takeD 70 77 (v := ?_) (by decide +kernel) (by decide +kernel) (by decide +kernel) (by decide +kernel) (by rfl) (fun _ _ _ h => h) ?_ hHeld ?_
  rotate_left 1
  (intro o ho W hSw; simp only [List.getElem?_toArray, List.getElem?_cons_succ, List.getElem?_cons_zero, Option.some.injEq] at ho; subst ho; (try dsimp only at hSw); go_simp; try with_reducible rfl)
  (try simp only [Act.put, List.setIfInBounds_toArray, List.set_cons_zero, List.set_cons_succ])
  refine wpAnyH_takeD 71 78 (v := ?_) (by decide +kernel) (by decide +kernel) (by decide +kernel) (by decide +kernel) (by rfl) (fun _ _ _ h => h) ?_ hHeld ?_
  rotate_left 1
  (intro o ho W hSw; simp only [List.getElem?_toArray, List.getElem?_cons_succ, List.getElem?_cons_zero, Option.some.injEq] at ho; subst ho; (try dsimp only at hSw); go_simp; try with_reducible rfl)
  (try simp only [Act.put, List.setIfInBounds_toArray, List.set_cons_zero, List.set_cons_succ])
  refine wpAnyH_takeD 72 79 (v := ?_) (by decide +kernel) (by decide +kernel) (by decide +kernel) (by decide +kernel) (by rfl) (fun _ _ _ h => h) ?_ hHeld ?_
  rotate_left 1
  (intro o ho W hSw; simp only [List.getElem?_toArray, List.getElem?_cons_succ, List.getElem?_cons_zero, Option.some.injEq] at ho; subst ho; (try dsimp only at hSw); go_simp; try with_reducible rfl)
  (try simp only [Act.put, List.setIfInBounds_toArray, List.set_cons_zero, List.set_cons_succ])
  refine wpAnyH_takeD 73 80 (v := ?_) (by decide +kernel) (by decide +kernel) (by decide +kernel) (by decide +kernel) (by rfl) (fun _ _ _ h => h) ?_ hHeld ?_
  rotate_left 1
  (intro o ho W hSw; simp only [List.getElem?_toArray, List.getElem?_cons_succ, List.getElem?_cons_zero, Option.some.injEq] at ho; subst ho; (try dsimp only at hSw); go_simp; try with_reducible rfl)
  (try simp only [Act.put, List.setIfInBounds_toArray, List.set_cons_zero, List.set_cons_succ])
  refine wpAnyH_takeD 75 82 (v := ?_) (by decide +kernel) (by decide +kernel) (by decide +kernel) (by decide +kernel) (by rfl) (fun _ _ _ h => h) ?_ hHeld ?_
  rotate_left 1
  (intro o ho W hSw; simp only [List.getElem?_toArray, List.getElem?_cons_succ, List.getElem?_cons_zero, Option.some.injEq] at ho; subst ho; (try dsimp only at hSw); go_simp; try with_reducible rfl)
  (try simp only [Act.put, List.setIfInBounds_toArray, List.set_cons_zero, List.set_cons_succ])
  refine wpAnyH_takeD 76 83 (v := ?_) (by decide +kernel) (by decide +kernel) (by decide +kernel) (by decide +kernel) (by rfl) (fun _ _ _ h => h) ?_ hHeld ?_
  rotate_left 1
  (intro o ho W hSw; simp only [List.getElem?_toArray, List.getElem?_cons_succ, List.getElem?_cons_zero, Option.some.injEq] at ho; subst ho; (try dsimp only at hSw); go_simp; try with_reducible rfl)
  (try simp only [Act.put, List.setIfInBounds_toArray, List.set_cons_zero, List.set_cons_succ])
  refine wpAnyH_takeD 77 84 (v := ?_) (by decide +kernel) (by decide +kernel) (by decide +kernel) (by decide +kernel) (by rfl) (fun _ _ _ h => h) ?_ hHeld ?_
  rotate_left 1
  (intro o ho W hSw; simp only [List.getElem?_toArray, List.getElem?_cons_succ, List.getElem?_cons_zero, Option.some.injEq] at ho; subst ho; (try dsimp only at hSw); go_simp; try with_reducible rfl)
  (try simp only [Act.put, List.setIfInBounds_toArray, List.set_cons_zero, List.set_cons_succ])
  refine wpAnyH_takeD 78 85 (v := ?_) (by decide +kernel) (by decide +kernel) (by decide +kernel) (by decide +kernel) (by rfl) (fun _ _ _ h => h) ?_ hHeld ?_
  rotate_left 1
  (intro o ho W hSw; simp only [List.getElem?_toArray, List.getElem?_cons_succ, List.getElem?_cons_zero, Option.some.injEq] at ho; subst ho; (try dsimp only at hSw); go_simp; try with_reducible rfl)
  (try simp only [Act.put, List.setIfInBounds_toArray, List.set_cons_zero, List.set_cons_succ])
  refine wpAnyH_takeD 80 87 (v := ?_) (by decide +kernel) (by decide +kernel) (by decide +kernel) (by decide +kernel) (by rfl) (fun _ _ _ h => h) ?_ hHeld ?_
  rotate_left 1
  (intro o ho W hSw; simp only [List.getElem?_toArray, List.getElem?_cons_succ, List.getElem?_cons_zero, Option.some.injEq] at ho; subst ho; (try dsimp only at hSw); go_simp; try with_reducible rfl)
  (try simp only [Act.put, List.setIfInBounds_toArray, List.set_cons_zero, List.set_cons_succ])
  refine wpAnyH_takeD 81 88 (v := ?_) (by decide +kernel) (by decide +kernel) (by decide +kernel) (by decide +kernel) (by rfl) (fun _ _ _ h => h) ?_ hHeld ?_
  rotate_left 1
  (intro o ho W hSw; simp only [List.getElem?_toArray, List.getElem?_cons_succ, List.getElem?_cons_zero, Option.some.injEq] at ho; subst ho; (try dsimp only at hSw); go_simp; try with_reducible rfl)
  (try simp only [Act.put, List.setIfInBounds_toArray, List.set_cons_zero, List.set_cons_succ])
  refine wpAnyH_takeD 82 89 (v := ?_) (by decide +kernel) (by decide +kernel) (by decide +kernel) (by decide +kernel) (by rfl) (fun _ _ _ h => h) ?_ hHeld ?_
  rotate_left 1
  (intro o ho W hSw; simp only [List.getElem?_toArray, List.getElem?_cons_succ, List.getElem?_cons_zero, Option.some.injEq] at ho; subst ho; (try dsimp only at hSw); go_simp; try with_reducible rfl)
  (try simp only [Act.put, List.setIfInBounds_toArray, List.set_cons_zero, List.set_cons_succ])
  refine wpAnyH_takeD 83 90 (v := ?_) (by decide +kernel) (by decide +kernel) (by decide +kernel) (by decide +kernel) (by rfl) (fun _ _ _ h => h) ?_ hHeld ?_
  rotate_left 1
  (intro o ho W hSw; simp only [List.getElem?_toArray, List.getElem?_cons_succ, List.getElem?_cons_zero, Option.some.injEq] at ho; subst ho; (try dsimp only at hSw); go_simp; try with_reducible rfl)
  (try simp only [Act.put, List.setIfInBounds_toArray, List.set_cons_zero, List.set_cons_succ])
  refine wpAnyH_takeD 85 92 (v := ?_) (by decide +kernel) (by decide +kernel) (by decide +kernel) (by decide +kernel) (by rfl) (fun _ _ _ h => h) ?_ hHeld ?_
  rotate_left 1
  (intro o ho W hSw; simp only [List.getElem?_toArray, List.getElem?_cons_succ, List.getElem?_cons_zero, Option.some.injEq] at ho; subst ho; (try dsimp only at hSw); go_simp; try with_reducible rfl)
  (try simp only [Act.put, List.setIfInBounds_toArray, List.set_cons_zero, List.set_cons_succ])
  refine wpAnyH_takeD 86 93 (v := ?_) (by decide +kernel) (by decide +kernel) (by decide +kernel) (by decide +kernel) (by rfl) (fun _ _ _ h => h) ?_ hHeld ?_
  rotate_left 1
  (intro o ho W hSw; simp only [List.getElem?_toArray, List.getElem?_cons_succ, List.getElem?_cons_zero, Option.some.injEq] at ho; subst ho; (try dsimp only at hSw); go_simp; try with_reducible rfl)
  (try simp only [Act.put, List.setIfInBounds_toArray, List.set_cons_zero, List.set_cons_succ])
  refine wpAnyH_takeD 87 94 (v := ?_) (by decide +kernel) (by decide +kernel) (by decide +kernel) (by decide +kernel) (by rfl) (fun _ _ _ h => h) ?_ hHeld ?_
  rotate_left 1
  (intro o ho W hSw; simp only [List.getElem?_toArray, List.getElem?_cons_succ, List.getElem?_cons_zero, Option.some.injEq] at ho; subst ho; (try dsimp only at hSw); go_simp; try with_reducible rfl)
  (try simp only [Act.put, List.setIfInBounds_toArray, List.set_cons_zero, List.set_cons_succ])
  refine wpAnyH_takeD 88 95 (v := ?_) (by decide +kernel) (by decide +kernel) (by decide +kernel) (by decide +kernel) (by rfl) (fun _ _ _ h => h) ?_ hHeld ?_
  rotate_left 1
  (intro o ho W hSw; simp only [List.getElem?_toArray, List.getElem?_cons_succ, List.getElem?_cons_zero, Option.some.injEq] at ho; subst ho; (try dsimp only at hSw); go_simp; try with_reducible rfl)
  (try simp only [Act.put, List.setIfInBounds_toArray, List.set_cons_zero, List.set_cons_succ])
  refine wpAnyH_onlyD 5 (by decide +kernel) (fun o ho K hK => ?_) (by decide +kernel)
  simp only [List.getElem?_toArray, List.getElem?_cons_succ, List.getElem?_cons_zero, Option.some.injEq] at ho
  subst ho
  go_simp
  refine (qplus_any pw qw _).mono ?_
  rintro e w1 ⟨rfl, h⟩
  have G1 := Lib.hid (G0.out.more h)
  have A1 := Lib.hid (A0.out.below h A0.out.lt)
  (try have B1 := Lib.hid (B0.out.below h B0.out.lt))
  have R1 := Lib.hid (R0.out.below h R0.out.lt)
  go_wp2_with fail
  refine hK.out _ _ (⟨A1.out.h4, B1.out.h4⟩) ?_
  clear hK K hHeld
  intro hHeld
  clear h G0 A0 R0
  (try clear B0)
  refine wpAnyH_onlyD 10 (by decide +kernel) (fun o ho K hK => ?_) (by decide +kernel)
  simp only [List.getElem?_toArray, List.getElem?_cons_succ, List.getElem?_cons_zero, Option.some.injEq] at ho
  subst ho
  go_simp
  refine (qless_any px qx _).mono ?_
  rintro e w2 ⟨rfl, h⟩
  have G2 := Lib.hid (G1.out.more h)
  have A2 := Lib.hid (A1.out.below h A1.out.lt)
  (try have B2 := Lib.hid (B1.out.below h B1.out.lt))
  have R2 := Lib.hid (R1.out.below h R1.out.lt)
  go_wp2_with fail
  refine hK.out _ _ (⟨A2.out.h4, B2.out.h4⟩) ?_
  clear hK K hHeld
  intro hHeld
  clear h G1 A1 R1
  (try clear B1)
  refine wpAnyH_onlyD 15 (by decide +kernel) (fun o ho K hK => ?_) (by decide +kernel)
  simp only [List.getElem?_toArray, List.getElem?_cons_succ, List.getElem?_cons_zero, Option.some.injEq] at ho
  subst ho
  go_simp
  refine (qless_any py qy _).mono ?_
  rintro e w3 ⟨rfl, h⟩
  have G3 := Lib.hid (G2.out.more h)
  have A3 := Lib.hid (A2.out.below h A2.out.lt)
  (try have B3 := Lib.hid (B2.out.below h B2.out.lt))
  have R3 := Lib.hid (R2.out.below h R2.out.lt)
  go_wp2_with fail
  refine hK.out _ _ (⟨A3.out.h4, B3.out.h4⟩) ?_
  clear hK K hHeld
  intro hHeld
  clear h G2 A2 R2
  (try clear B2)
  refine wpAnyH_onlyD 20 (by decide +kernel) (fun o ho K hK => ?_) (by decide +kernel)
  simp only [List.getElem?_toArray, List.getElem?_cons_succ, List.getElem?_cons_zero, Option.some.injEq] at ho
  subst ho
  go_simp
  refine (qless_any pz qz _).mono ?_
  rintro e w4 ⟨rfl, h⟩
  have G4 := Lib.hid (G3.out.more h)
  have A4 := Lib.hid (A3.out.below h A3.out.lt)
  (try have B4 := Lib.hid (B3.out.below h B3.out.lt))
  have R4 := Lib.hid (R3.out.below h R3.out.lt)
  go_wp2_with fail
  refine hK.out _ _ (⟨A4.out.h4, B4.out.h4⟩) ?_
  clear hK K hHeld
  intro hHeld
  clear h G3 A3 R3
  (try clear B3)
  refine wpAnyH_onlyD 21 (by decide +kernel) (fun o ho K hK => ?_) (by decide +kernel)
  simp only [List.getElem?_toArray, List.getElem?_cons_succ, List.getElem?_cons_zero, Option.some.injEq] at ho
  subst ho
  go_simp
  refine hK.out _ _ (⟨(A4.out.alloc _).h4, (B4.out.alloc _).h4⟩) ?_
  clear hK K hHeld
  intro hHeld
  have A5 := Lib.hid (A4.out.alloc (.cells #[.int .i64 pw, .int .i64 qw, .bool false, .int .i64 px, .int .i64 qx, .bool true, .int .i64 py, .int .i64 qy, .bool true, .int .i64 pz, .int .i64 qz, .bool true] 63))
  (try have B5 := Lib.hid (B4.out.alloc (.cells #[.int .i64 pw, .int .i64 qw, .bool false, .int .i64 px, .int .i64 qx, .bool true, .int .i64 py, .int .i64 qy, .bool true, .int .i64 pz, .int .i64 qz, .bool true] 63)))
  have R5 := Lib.hid (R4.out.alloc (.cells #[.int .i64 pw, .int .i64 qw, .bool false, .int .i64 px, .int .i64 qx, .bool true, .int .i64 py, .int .i64 qy, .bool true, .int .i64 pz, .int .i64 qz, .bool true] 63))
  have G5 := Lib.hid (G4.out.more ((Below.refl _ _).alloc (Nat.le_refl _) (.cells #[.int .i64 pw, .int .i64 qw, .bool false, .int .i64 px, .int .i64 qx, .bool true, .int .i64 py, .int .i64 qy, .bool true, .int .i64 pz, .int .i64 qz, .bool true] 63)))
  have TT := Lib.hid (TW.new4 w4 _ pw qw px qx py qy pz qz false true true true 63 rfl)
  have hne : b ≠ w4.heap.size := by have := G4.out.lt; have := G4.out.f.size; omega

  clear G4 A4 R4
  (try clear B4)
  generalize w4.alloc (.cells #[.int .i64 pw, .int .i64 qw, .bool false, .int .i64 px, .int .i64 qx, .bool true, .int .i64 py, .int .i64 qy, .bool true, .int .i64 pz, .int .i64 qz, .bool true] 63) = w5 at *
  generalize w4.heap.size = n5 at *
  refine wpAnyH_onlyD 22 (by decide +kernel) (fun o ho K hK => ?_) (by decide +kernel)
  simp only [List.getElem?_toArray, List.getElem?_cons_succ, List.getElem?_cons_zero, Option.some.injEq] at ho
  subst ho
  go_simp
  refine (CW.out _ _ _ TT.out hne G5.out.m).mono ?_
  rintro e w6 ⟨rfl, h⟩
  have G6 := Lib.hid (G5.out.fx h)
  have A6 := Lib.hid (A5.out.fx h (by have := G5.out.lt; omega))
  (try have B6 := Lib.hid (B5.out.fx h (by have := G5.out.lt; omega)))
  (try have R6 := Lib.hid (R5.out.fx h (by have := G5.out.lt; omega)))
  (try have P6 := Lib.hid (P5.out.fx h))
  (try have I6 := Lib.hid (I5.out.fx h hbi))
  go_wp2_with fail
  refine hK.out _ _ (⟨A6.out.h4, B6.out.h4⟩) ?_
  clear hK K hHeld
  intro hHeld
  clear h G5 A5
  (try clear B5)
  (try clear R5)
  (try clear P5)
  (try clear I5)
  clear TT hne
  clear CW
  refine wpAnyH_onlyD 28 (by decide +kernel) (fun o ho K hK => ?_) (by decide +kernel)
  simp only [List.getElem?_toArray, List.getElem?_cons_succ, List.getElem?_cons_zero, Option.some.injEq] at ho
  subst ho
  go_simp
  refine (qplus_any pw qx _).mono ?_
  rintro e w7 ⟨rfl, h⟩
  have G7 := Lib.hid (G6.out.more h)
  have A7 := Lib.hid (A6.out.below h A6.out.lt)
  (try have B7 := Lib.hid (B6.out.below h B6.out.lt))
  have R7 := Lib.hid (R6.out.below h R6.out.lt)
  go_wp2_with fail
  refine hK.out _ _ (⟨A7.out.h4, B7.out.h4⟩) ?_
  clear hK K hHeld
  intro hHeld
  clear h G6 A6 R6
  (try clear B6)
  refine wpAnyH_onlyD 33 (by decide +kernel) (fun o ho K hK => ?_) (by decide +kernel)
  simp only [List.getElem?_toArray, List.getElem?_cons_succ, List.getElem?_cons_zero, Option.some.injEq] at ho
  subst ho
  go_simp
  refine (qplus_any px qw _).mono ?_
  rintro e w8 ⟨rfl, h⟩
  have G8 := Lib.hid (G7.out.more h)
  have A8 := Lib.hid (A7.out.below h A7.out.lt)
  (try have B8 := Lib.hid (B7.out.below h B7.out.lt))
  have R8 := Lib.hid (R7.out.below h R7.out.lt)
  go_wp2_with fail
  refine hK.out _ _ (⟨A8.out.h4, B8.out.h4⟩) ?_
  clear hK K hHeld
  intro hHeld
  clear h G7 A7 R7
  (try clear B7)
  refine wpAnyH_onlyD 38 (by decide +kernel) (fun o ho K hK => ?_) (by decide +kernel)
  simp only [List.getElem?_toArray, List.getElem?_cons_succ, List.getElem?_cons_zero, Option.some.injEq] at ho
  subst ho
  go_simp
  refine (qplus_any py qz _).mono ?_
  rintro e w9 ⟨rfl, h⟩
  have G9 := Lib.hid (G8.out.more h)
  have A9 := Lib.hid (A8.out.below h A8.out.lt)
  (try have B9 := Lib.hid (B8.out.below h B8.out.lt))
  have R9 := Lib.hid (R8.out.below h R8.out.lt)
  go_wp2_with fail
  refine hK.out _ _ (⟨A9.out.h4, B9.out.h4⟩) ?_
  clear hK K hHeld
  intro hHeld
  clear h G8 A8 R8
  (try clear B8)
  refine wpAnyH_onlyD 43 (by decide +kernel) (fun o ho K hK => ?_) (by decide +kernel)
  simp only [List.getElem?_toArray, List.getElem?_cons_succ, List.getElem?_cons_zero, Option.some.injEq] at ho
  subst ho
  go_simp
  refine (qless_any pz qy _).mono ?_
  rintro e w10 ⟨rfl, h⟩
  have G10 := Lib.hid (G9.out.more h)
  have A10 := Lib.hid (A9.out.below h A9.out.lt)
  (try have B10 := Lib.hid (B9.out.below h B9.out.lt))
  have R10 := Lib.hid (R9.out.below h R9.out.lt)
  go_wp2_with fail
  refine hK.out _ _ (⟨A10.out.h4, B10.out.h4⟩) ?_
  clear hK K hHeld
  intro hHeld
  clear h G9 A9 R9
  (try clear B9)
  refine wpAnyH_onlyD 44 (by decide +kernel) (fun o ho K hK => ?_) (by decide +kernel)
  simp only [List.getElem?_toArray, List.getElem?_cons_succ, List.getElem?_cons_zero, Option.some.injEq] at ho
  subst ho
  go_simp
  refine hK.out _ _ (⟨(A10.out.alloc _).h4, (B10.out.alloc _).h4⟩) ?_
  clear hK K hHeld
  intro hHeld
  have A11 := Lib.hid (A10.out.alloc (.cells #[.int .i64 pw, .int .i64 qx, .bool false, .int .i64 px, .int .i64 qw, .bool false, .int .i64 py, .int .i64 qz, .bool false, .int .i64 pz, .int .i64 qy, .bool true] 63))
  (try have B11 := Lib.hid (B10.out.alloc (.cells #[.int .i64 pw, .int .i64 qx, .bool false, .int .i64 px, .int .i64 qw, .bool false, .int .i64 py, .int .i64 qz, .bool false, .int .i64 pz, .int .i64 qy, .bool true] 63)))
  have R11 := Lib.hid (R10.out.alloc (.cells #[.int .i64 pw, .int .i64 qx, .bool false, .int .i64 px, .int .i64 qw, .bool false, .int .i64 py, .int .i64 qz, .bool false, .int .i64 pz, .int .i64 qy, .bool true] 63))
  have G11 := Lib.hid (G10.out.more ((Below.refl _ _).alloc (Nat.le_refl _) (.cells #[.int .i64 pw, .int .i64 qx, .bool false, .int .i64 px, .int .i64 qw, .bool false, .int .i64 py, .int .i64 qz, .bool false, .int .i64 pz, .int .i64 qy, .bool true] 63)))
  have TT := Lib.hid (TW.new4 w10 _ pw qx px qw py qz pz qy false false false true 63 rfl)
  have hne : b ≠ w10.heap.size := by have := G10.out.lt; have := G10.out.f.size; omega

  clear G10 A10 R10
  (try clear B10)
  generalize w10.alloc (.cells #[.int .i64 pw, .int .i64 qx, .bool false, .int .i64 px, .int .i64 qw, .bool false, .int .i64 py, .int .i64 qz, .bool false, .int .i64 pz, .int .i64 qy, .bool true] 63) = w11 at *
  generalize w10.heap.size = n11 at *
  refine wpAnyH_onlyD 45 (by decide +kernel) (fun o ho K hK => ?_) (by decide +kernel)
  simp only [List.getElem?_toArray, List.getElem?_cons_succ, List.getElem?_cons_zero, Option.some.injEq] at ho
  subst ho
  go_simp
  refine (CX.out _ _ _ TT.out hne G11.out.m).mono ?_
  rintro e w12 ⟨rfl, h⟩
  have G12 := Lib.hid (G11.out.fx h)
  have A12 := Lib.hid (A11.out.fx h (by have := G11.out.lt; omega))
  (try have B12 := Lib.hid (B11.out.fx h (by have := G11.out.lt; omega)))
  (try have R12 := Lib.hid (R11.out.fx h (by have := G11.out.lt; omega)))
  (try have P12 := Lib.hid (P11.out.fx h))
  (try have I12 := Lib.hid (I11.out.fx h hbi))
  go_wp2_with fail
  refine hK.out _ _ (⟨A12.out.h4, B12.out.h4⟩) ?_
  clear hK K hHeld
  intro hHeld
  clear h G11 A11
  (try clear B11)
  (try clear R11)
  (try clear P11)
  (try clear I11)
  clear TT hne
  clear CX
  refine wpAnyH_onlyD 51 (by decide +kernel) (fun o ho K hK => ?_) (by decide +kernel)
  simp only [List.getElem?_toArray, List.getElem?_cons_succ, List.getElem?_cons_zero, Option.some.injEq] at ho
  subst ho
  go_simp
  refine (qplus_any pw qy _).mono ?_
  rintro e w13 ⟨rfl, h⟩
  have G13 := Lib.hid (G12.out.more h)
  have A13 := Lib.hid (A12.out.below h A12.out.lt)
  (try have B13 := Lib.hid (B12.out.below h B12.out.lt))
  have R13 := Lib.hid (R12.out.below h R12.out.lt)
  go_wp2_with fail
  refine hK.out _ _ (⟨A13.out.h4, B13.out.h4⟩) ?_
  clear hK K hHeld
  intro hHeld
  clear h G12 A12 R12
  (try clear B12)
  refine wpAnyH_onlyD 56 (by decide +kernel) (fun o ho K hK => ?_) (by decide +kernel)
  simp only [List.getElem?_toArray, List.getElem?_cons_succ, List.getElem?_cons_zero, Option.some.injEq] at ho
  subst ho
  go_simp
  refine (qless_any px qz _).mono ?_
  rintro e w14 ⟨rfl, h⟩
  have G14 := Lib.hid (G13.out.more h)
  have A14 := Lib.hid (A13.out.below h A13.out.lt)
  (try have B14 := Lib.hid (B13.out.below h B13.out.lt))
  have R14 := Lib.hid (R13.out.below h R13.out.lt)
  go_wp2_with fail
  refine hK.out _ _ (⟨A14.out.h4, B14.out.h4⟩) ?_
  clear hK K hHeld
  intro hHeld
  clear h G13 A13 R13
  (try clear B13)
  refine wpAnyH_onlyD 61 (by decide +kernel) (fun o ho K hK => ?_) (by decide +kernel)
  simp only [List.getElem?_toArray, List.getElem?_cons_succ, List.getElem?_cons_zero, Option.some.injEq] at ho
  subst ho
  go_simp
  refine (qplus_any py qw _).mono ?_
  rintro e w15 ⟨rfl, h⟩
  have G15 := Lib.hid (G14.out.more h)
  have A15 := Lib.hid (A14.out.below h A14.out.lt)
  (try have B15 := Lib.hid (B14.out.below h B14.out.lt))
  have R15 := Lib.hid (R14.out.below h R14.out.lt)
  go_wp2_with fail
  refine hK.out _ _ (⟨A15.out.h4, B15.out.h4⟩) ?_
  clear hK K hHeld
  intro hHeld
  clear h G14 A14 R14
  (try clear B14)
  refine wpAnyH_onlyD 66 (by decide +kernel) (fun o ho K hK => ?_) (by decide +kernel)
  simp only [List.getElem?_toArray, List.getElem?_cons_succ, List.getElem?_cons_zero, Option.some.injEq] at ho
  subst ho
  go_simp
  refine (qplus_any pz qx _).mono ?_
  rintro e w16 ⟨rfl, h⟩
  have G16 := Lib.hid (G15.out.more h)
  have A16 := Lib.hid (A15.out.below h A15.out.lt)
  (try have B16 := Lib.hid (B15.out.below h B15.out.lt))
  have R16 := Lib.hid (R15.out.below h R15.out.lt)
  go_wp2_with fail
  refine hK.out _ _ (⟨A16.out.h4, B16.out.h4⟩) ?_
  clear hK K hHeld
  intro hHeld
  clear h G15 A15 R15
  (try clear B15)
  refine wpAnyH_onlyD 67 (by decide +kernel) (fun o ho K hK => ?_) (by decide +kernel)
  simp only [List.getElem?_toArray, List.getElem?_cons_succ, List.getElem?_cons_zero, Option.some.injEq] at ho
  subst ho
  go_simp
  refine hK.out _ _ (⟨(A16.out.alloc _).h4, (B16.out.alloc _).h4⟩) ?_
  clear hK K hHeld
  intro hHeld
  have A17 := Lib.hid (A16.out.alloc (.cells #[.int .i64 pw, .int .i64 qy, .bool false, .int .i64 px, .int .i64 qz, .bool true, .int .i64 py, .int .i64 qw, .bool false, .int .i64 pz, .int .i64 qx, .bool false] 63))
  (try have B17 := Lib.hid (B16.out.alloc (.cells #[.int .i64 pw, .int .i64 qy, .bool false, .int .i64 px, .int .i64 qz, .bool true, .int .i64 py, .int .i64 qw, .bool false, .int .i64 pz, .int .i64 qx, .bool false] 63)))
  have R17 := Lib.hid (R16.out.alloc (.cells #[.int .i64 pw, .int .i64 qy, .bool false, .int .i64 px, .int .i64 qz, .bool true, .int .i64 py, .int .i64 qw, .bool false, .int .i64 pz, .int .i64 qx, .bool false] 63))
  have G17 := Lib.hid (G16.out.more ((Below.refl _ _).alloc (Nat.le_refl _) (.cells #[.int .i64 pw, .int .i64 qy, .bool false, .int .i64 px, .int .i64 qz, .bool true, .int .i64 py, .int .i64 qw, .bool false, .int .i64 pz, .int .i64 qx, .bool false] 63)))
  have TT := Lib.hid (TW.new4 w16 _ pw qy px qz py qw pz qx false true false false 63 rfl)
  have hne : b ≠ w16.heap.size := by have := G16.out.lt; have := G16.out.f.size; omega

  clear G16 A16 R16
  (try clear B16)
  generalize w16.alloc (.cells #[.int .i64 pw, .int .i64 qy, .bool false, .int .i64 px, .int .i64 qz, .bool true, .int .i64 py, .int .i64 qw, .bool false, .int .i64 pz, .int .i64 qx, .bool false] 63) = w17 at *
  generalize w16.heap.size = n17 at *
  refine wpAnyH_onlyD 68 (by decide +kernel) (fun o ho K hK => ?_) (by decide +kernel)
  simp only [List.getElem?_toArray, List.getElem?_cons_succ, List.getElem?_cons_zero, Option.some.injEq] at ho
  subst ho
  go_simp
  refine (CY.out _ _ _ TT.out hne G17.out.m).mono ?_
  rintro e w18 ⟨rfl, h⟩
  have G18 := Lib.hid (G17.out.fx h)
  have A18 := Lib.hid (A17.out.fx h (by have := G17.out.lt; omega))
  (try have B18 := Lib.hid (B17.out.fx h (by have := G17.out.lt; omega)))
  (try have R18 := Lib.hid (R17.out.fx h (by have := G17.out.lt; omega)))
  (try have P18 := Lib.hid (P17.out.fx h))
  (try have I18 := Lib.hid (I17.out.fx h hbi))
  go_wp2_with fail
  refine hK.out _ _ (⟨A18.out.h4, B18.out.h4⟩) ?_
  clear hK K hHeld
  intro hHeld
  clear h G17 A17
  (try clear B17)
  (try clear R17)
  (try clear P17)
  (try clear I17)
  clear TT hne
  clear CY
  refine wpAnyH_onlyD 74 (by decide +kernel) (fun o ho K hK => ?_) (by decide +kernel)
  simp only [List.getElem?_toArray, List.getElem?_cons_succ, List.getElem?_cons_zero, Option.some.injEq] at ho
  subst ho
  go_simp
  refine (qplus_any pw qz _).mono ?_
  rintro e w19 ⟨rfl, h⟩
  have G19 := Lib.hid (G18.out.more h)
  have A19 := Lib.hid (A18.out.below h A18.out.lt)
  (try have B19 := Lib.hid (B18.out.below h B18.out.lt))
  have R19 := Lib.hid (R18.out.below h R18.out.lt)
  go_wp2_with fail
  refine hK.out _ _ (⟨A19.out.h4, B19.out.h4⟩) ?_
  clear hK K hHeld
  intro hHeld
  clear h G18 A18 R18
  (try clear B18)
  refine wpAnyH_onlyD 79 (by decide +kernel) (fun o ho K hK => ?_) (by decide +kernel)
  simp only [List.getElem?_toArray, List.getElem?_cons_succ, List.getElem?_cons_zero, Option.some.injEq] at ho
  subst ho
  go_simp
  refine (qplus_any px qy _).mono ?_
  rintro e w20 ⟨rfl, h⟩
  have G20 := Lib.hid (G19.out.more h)
  have A20 := Lib.hid (A19.out.below h A19.out.lt)
  (try have B20 := Lib.hid (B19.out.below h B19.out.lt))
  have R20 := Lib.hid (R19.out.below h R19.out.lt)
  go_wp2_with fail
  refine hK.out _ _ (⟨A20.out.h4, B20.out.h4⟩) ?_
  clear hK K hHeld
  intro hHeld
  clear h G19 A19 R19
  (try clear B19)
  refine wpAnyH_onlyD 84 (by decide +kernel) (fun o ho K hK => ?_) (by decide +kernel)
  simp only [List.getElem?_toArray, List.getElem?_cons_succ, List.getElem?_cons_zero, Option.some.injEq] at ho
  subst ho
  go_simp
  refine (qless_any py qx _).mono ?_
  rintro e w21 ⟨rfl, h⟩
  have G21 := Lib.hid (G20.out.more h)
  have A21 := Lib.hid (A20.out.below h A20.out.lt)
  (try have B21 := Lib.hid (B20.out.below h B20.out.lt))
  have R21 := Lib.hid (R20.out.below h R20.out.lt)
  go_wp2_with fail
  refine hK.out _ _ (⟨A21.out.h4, B21.out.h4⟩) ?_
  clear hK K hHeld
  intro hHeld
  clear h G20 A20 R20
  (try clear B20)
  refine wpAnyH_onlyD 89 (by decide +kernel) (fun o ho K hK => ?_) (by decide +kernel)
  simp only [List.getElem?_toArray, List.getElem?_cons_succ, List.getElem?_cons_zero, Option.some.injEq] at ho
  subst ho
  go_simp
  refine (qplus_any pz qw _).mono ?_
  rintro e w22 ⟨rfl, h⟩
  have G22 := Lib.hid (G21.out.more h)
  have A22 := Lib.hid (A21.out.below h A21.out.lt)
  (try have B22 := Lib.hid (B21.out.below h B21.out.lt))
  have R22 := Lib.hid (R21.out.below h R21.out.lt)
  go_wp2_with fail
  refine hK.out _ _ (⟨A22.out.h4, B22.out.h4⟩) ?_
  clear hK K hHeld
  intro hHeld
  clear h G21 A21 R21
  (try clear B21)
  refine wpAnyH_onlyD 90 (by decide +kernel) (fun o ho K hK => ?_) (by decide +kernel)
  simp only [List.getElem?_toArray, List.getElem?_cons_succ, List.getElem?_cons_zero, Option.some.injEq] at ho
  subst ho
  go_simp
  refine hK.out _ _ (⟨(A22.out.alloc _).h4, (B22.out.alloc _).h4⟩) ?_
  clear hK K hHeld
  intro hHeld
  have A23 := Lib.hid (A22.out.alloc (.cells #[.int .i64 pw, .int .i64 qz, .bool false, .int .i64 px, .int .i64 qy, .bool false, .int .i64 py, .int .i64 qx, .bool true, .int .i64 pz, .int .i64 qw, .bool false] 63))
  (try have B23 := Lib.hid (B22.out.alloc (.cells #[.int .i64 pw, .int .i64 qz, .bool false, .int .i64 px, .int .i64 qy, .bool false, .int .i64 py, .int .i64 qx, .bool true, .int .i64 pz, .int .i64 qw, .bool false] 63)))
  have R23 := Lib.hid (R22.out.alloc (.cells #[.int .i64 pw, .int .i64 qz, .bool false, .int .i64 px, .int .i64 qy, .bool false, .int .i64 py, .int .i64 qx, .bool true, .int .i64 pz, .int .i64 qw, .bool false] 63))
  have G23 := Lib.hid (G22.out.more ((Below.refl _ _).alloc (Nat.le_refl _) (.cells #[.int .i64 pw, .int .i64 qz, .bool false, .int .i64 px, .int .i64 qy, .bool false, .int .i64 py, .int .i64 qx, .bool true, .int .i64 pz, .int .i64 qw, .bool false] 63)))
  have TT := Lib.hid (TW.new4 w22 _ pw qz px qy py qx pz qw false false true false 63 rfl)
  have hne : b ≠ w22.heap.size := by have := G22.out.lt; have := G22.out.f.size; omega

  clear G22 A22 R22
  (try clear B22)
  generalize w22.alloc (.cells #[.int .i64 pw, .int .i64 qz, .bool false, .int .i64 px, .int .i64 qy, .bool false, .int .i64 py, .int .i64 qx, .bool true, .int .i64 pz, .int .i64 qw, .bool false] 63) = w23 at *
  generalize w22.heap.size = n23 at *
  refine wpAnyH_onlyD 91 (by decide +kernel) (fun o ho K hK => ?_) (by decide +kernel)
  simp only [List.getElem?_toArray, List.getElem?_cons_succ, List.getElem?_cons_zero, Option.some.injEq] at ho
  subst ho
  go_simp
  refine (CZ.out _ _ _ TT.out hne G23.out.m).mono ?_
  rintro e w24 ⟨rfl, h⟩
  have G24 := Lib.hid (G23.out.fx h)
  have A24 := Lib.hid (A23.out.fx h (by have := G23.out.lt; omega))
  (try have B24 := Lib.hid (B23.out.fx h (by have := G23.out.lt; omega)))
  (try have R24 := Lib.hid (R23.out.fx h (by have := G23.out.lt; omega)))
  (try have P24 := Lib.hid (P23.out.fx h))
  (try have I24 := Lib.hid (I23.out.fx h hbi))
  go_wp2_with fail
  refine hK.out _ _ (⟨A24.out.h4, B24.out.h4⟩) ?_
  clear hK K hHeld
  intro hHeld
  clear h G23 A23
  (try clear B23)
  (try clear R23)
  (try clear P23)
  (try clear I23)
  clear TT hne
  clear CZ
  refine wpAnyH_takeD 92 99 (v := ?_) (by decide +kernel) (by decide +kernel) (by decide +kernel) (by decide +kernel) (by rfl) (fun _ _ _ h => h) ?_ hHeld ?_
  rotate_left 1
  (intro o ho W hSw; simp only [List.getElem?_toArray, List.getElem?_cons_succ, List.getElem?_cons_zero, Option.some.injEq] at ho; subst ho; (try dsimp only at hSw); go_simp; try with_reducible rfl)
  (try simp only [Act.put, List.setIfInBounds_toArray, List.set_cons_zero, List.set_cons_succ])
  obtain ⟨r0, r1, r2, r3⟩ := R24.out.h4
  have rf := R24.out.f
  refine wpAnyH_onlyD 93 (by decide +kernel) (fun o ho K hK => ?_) (by decide +kernel)
  simp only [List.getElem?_toArray, List.getElem?_cons_succ, List.getElem?_cons_zero, Option.some.injEq] at ho
  subst ho
  go_simp
  refine hK.out _ _ (⟨(((((A24.out.far (by omega) _ _).far (by omega) _ _).far (by omega) _ _).far (by omega) _ _).h4), (((((B24.out.far (by omega) _ _).far (by omega) _ _).far (by omega) _ _).far (by omega) _ _).h4)⟩) ?_
  clear hK K hHeld
  intro hHeld
  refine wpAnyH_done (by kernel_rfl) ?_ _
  go_wp2
  exact bodyPost_ret (v := .agg #[.int .i64 rW, .int .i64 rX, .int .i64 rY, .int .i64 rZ]) (by simp [results, Try.results9, go_sem, r0, r1, r2, r3]) rfl ⟨rfl, Flag.set (Flag.set (Flag.set (Flag.set G24.out.f (by omega) _ _) (by omega) _ _) (by omega) _ _) (by omega) _ _⟩
end Go.Proofs.Ytldcmiomfahaoaa

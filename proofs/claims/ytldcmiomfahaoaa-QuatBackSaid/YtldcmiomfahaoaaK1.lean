/- The contract of the program's Matrix. -/
import Derived.Test.YtldcmiomfahaoaaKv
import Derived.Test.YtldcmiomfahaoaaKf
namespace Go.Proofs.Ytldcmiomfahaoaa
open Go.RowKit
set_option linter.unusedVariables false
set_option linter.unusedSimpArgs false

theorem add_064 {a : Int} (h : In64 a) : addF 0 a = a ∧ addO 0 a = false := by
  have h := h
  unfold addF addO clip64 out64; unfold In64 at h
  constructor
  · rw [Int.zero_add]; split <;> (try split) <;> omega
  · simp; omega
theorem TW.new2 (w : World) (n : Nat) (a1 b1 a2 b2 : Int) (c1 c2 : Bool) (t : TypeId) (e : n = w.heap.size) :
    TW (w.alloc (.cells #[.int .i64 a1, .int .i64 b1, .bool c1, .int .i64 a2, .int .i64 b2, .bool c2] t)) n [⟨a1, b1, c1⟩, ⟨a2, b2, c2⟩] := by
  subst e
  refine ⟨fun i t h => ?_, by simp⟩
  match i, h with
  | 0, h => simp at h; subst h; exact ⟨World.cell?_alloc_new w _ _ 0, World.cell?_alloc_new w _ _ 1, World.cell?_alloc_new w _ _ 2⟩
  | 1, h => simp at h; subst h; exact ⟨World.cell?_alloc_new w _ _ 3, World.cell?_alloc_new w _ _ 4, World.cell?_alloc_new w _ _ 5⟩
  | i + 2, h => simp at h
theorem in2t {a1 b1 a2 b2 : Int} {c1 c2 : Bool} (h1 : In64 a1 ∧ In64 b1) (h2 : In64 a2 ∧ In64 b2) :
    ∀ (i : Nat) (t : Tm), [(⟨a1, b1, c1⟩ : Tm), ⟨a2, b2, c2⟩][i]? = some t → In64 t.a ∧ In64 t.b := by
  intro i t h
  match i, h with
  | 0, h => simp at h; subst h; exact h1
  | 1, h => simp at h; subst h; exact h2
  | i + 2, h => simp at h
def onO (p q w z : Int) : Bool := mulO p q || mulO w z || addO (mulF p q) (mulF w z) || addO (addF (mulF p q) (mulF w z)) (addF (mulF p q) (mulF w z))
def offO (p q w z : Int) : Bool := mulO p q || mulO w z || subO (mulF p q) (mulF w z) || addO (subF (mulF p q) (mulF w z)) (subF (mulF p q) (mulF w z))
theorem twice_any' (l : List Tm) (len n b k : Nat) (o : Bool) (w : World) (hlen : l.length = len) (hmax : len ≤ 100) (hin : ∀ (i : Nat) (t : Tm), l[i]? = some t → In64 t.a ∧ In64 t.b) (T : TW w n l) (hne : b ≠ n) (m : MAt w b k o) :
    Calls Try.prog 40 #[.pointer (some ⟨b, k, none⟩), .slice (some ⟨n, 0, none⟩) len len] w fun e w' => e = .returned (.int .i64 (addF (tmsF 0 l) (tmsF 0 l))) ∧ FxW w.heap.size w b k (o || tmsO 0 l || addO (tmsF 0 l) (tmsF 0 l)) w' := by
  have HI := Lib.hid hin
  have HT := Lib.hid T
  have IS := Lib.hid (tmsF_in l 0 ⟨by omega, by omega⟩)
  have G0 := Lib.hid (Flag.start m (Below.refl w.heap.size w))
  clear hin T m
  go_enter Try.func40, Try.ntmps40
  go_wp2_with fail
  refine (combine_any l len n b k _ _ hlen hmax HI.out HT.out hne G0.out.m).mono ?_
  rintro e w1 ⟨rfl, h⟩
  have G1 := Lib.hid (G0.out.fx h)
  clear h G0
  go_wp2_with fail
  refine (fxAdd_any (tmsF 0 l) (tmsF 0 l) b k _ _ IS.out.1 IS.out.2 IS.out.1 IS.out.2 G1.out.m).mono ?_
  rintro e w2 ⟨rfl, h⟩
  have G2 := Lib.hid (G1.out.fx h)
  clear h G1
  go_wp2
  go_ret
  exact ⟨rfl, G2.out.f⟩
theorem twOn_any (p q x z : Int) (n b k : Nat) (o : Bool) (w : World) (h1 : In64 p ∧ In64 q) (h2 : In64 x ∧ In64 z) (T : TW w n [⟨p, q, false⟩, ⟨x, z, false⟩]) (hne : b ≠ n) (m : MAt w b k o) :
    Calls Try.prog 40 #[.pointer (some ⟨b, k, none⟩), .slice (some ⟨n, 0, none⟩) 2 2] w fun e w' => e = .returned (.int .i64 (onF p q x z)) ∧ FxW w.heap.size w b k (o || onO p q x z) w' := by
  have E : tmsF 0 [⟨p, q, false⟩, ⟨x, z, false⟩] = addF (mulF p q) (mulF x z) ∧ tmsO 0 [⟨p, q, false⟩, ⟨x, z, false⟩] = (mulO p q || mulO x z || addO (mulF p q) (mulF x z)) := by
    simp only [tmsF, tmsO, tmS, tmO, (add_064 (mulF_in p q)).1, (add_064 (mulF_in p q)).2, if_true, Bool.false_eq_true, if_false, Bool.or_false, ← Bool.or_assoc, and_self]
  have C := twice_any' _ 2 n b k o w rfl (by omega) (in2t h1 h2) T hne m
  rw [E.1, E.2] at C
  unfold onF onO
  simp only [← Bool.or_assoc] at C ⊢
  exact C
theorem twOff_any (p q x z : Int) (n b k : Nat) (o : Bool) (w : World) (h1 : In64 p ∧ In64 q) (h2 : In64 x ∧ In64 z) (T : TW w n [⟨p, q, false⟩, ⟨x, z, true⟩]) (hne : b ≠ n) (m : MAt w b k o) :
    Calls Try.prog 40 #[.pointer (some ⟨b, k, none⟩), .slice (some ⟨n, 0, none⟩) 2 2] w fun e w' => e = .returned (.int .i64 (offF p q x z)) ∧ FxW w.heap.size w b k (o || offO p q x z) w' := by
  have E : tmsF 0 [⟨p, q, false⟩, ⟨x, z, true⟩] = subF (mulF p q) (mulF x z) ∧ tmsO 0 [⟨p, q, false⟩, ⟨x, z, true⟩] = (mulO p q || mulO x z || subO (mulF p q) (mulF x z)) := by
    simp only [tmsF, tmsO, tmS, tmO, (add_064 (mulF_in p q)).1, (add_064 (mulF_in p q)).2, if_true, Bool.false_eq_true, if_false, Bool.or_false, ← Bool.or_assoc, and_self]
  have C := twice_any' _ 2 n b k o w rfl (by omega) (in2t h1 h2) T hne m
  rw [E.1, E.2] at C
  unfold offF offO
  simp only [← Bool.or_assoc] at C ⊢
  exact C
theorem onF_in (p q w z : Int) : In64 (onF p q w z) := addF_in _ _
theorem far9 {W : World} {n r : Nat} {l : List Value} (k : BW W n l) (e : r ≠ n) (u0 u1 u2 u3 u4 u5 u6 u7 u8 : Value) : BW (((((((((W.setCell ⟨r, 0, none⟩ u0).setCell ⟨r, 1, none⟩ u1).setCell ⟨r, 2, none⟩ u2).setCell ⟨r, 3, none⟩ u3).setCell ⟨r, 4, none⟩ u4).setCell ⟨r, 5, none⟩ u5).setCell ⟨r, 6, none⟩ u6).setCell ⟨r, 7, none⟩ u7).setCell ⟨r, 8, none⟩ u8) n l :=
  ((((((((k.far e 0 u0).far e 1 u1).far e 2 u2).far e 3 u3).far e 4 u4).far e 5 u5).far e 6 u6).far e 7 u7).far e 8 u8
set_option maxRecDepth 100000 in
set_option maxHeartbeats 4000000 in
theorem matO_eq (o : Bool) (qw qx qy qz : Int) : (o || onO qy qy qz qz || subO 4294967296 (onF qy qy qz qz) || offO qx qy qw qz || onO qx qz qw qy || onO qx qy qw qz || onO qx qx qz qz || subO 4294967296 (onF qx qx qz qz) || offO qy qz qw qx || offO qx qz qw qy || onO qy qz qw qx || onO qx qx qy qy || subO 4294967296 (onF qx qx qy qy)) = (o || matO qw qx qy qz) := by
  unfold matO onO offO onF
  ac_rfl
set_option maxRecDepth 100000 in
set_option maxHeartbeats 8000000 in
theorem QMatrix_any (qw qx qy qz : Int) (b k : Nat) (o : Bool) (w : World) (hq : In4 qw qx qy qz) (m : MAt w b k o) :
    Calls Try.prog 14 #[.pointer (some ⟨b, k, none⟩), .agg #[.int .i64 qw, .int .i64 qx, .int .i64 qy, .int .i64 qz]] w fun e w' => e = .returned (.agg #[.int .i64 (diagF qy qz), .int .i64 (offF qx qy qw qz), .int .i64 (onF qx qz qw qy), .int .i64 (onF qx qy qw qz), .int .i64 (diagF qx qz), .int .i64 (offF qy qz qw qx), .int .i64 (offF qx qz qw qy), .int .i64 (onF qy qz qw qx), .int .i64 (diagF qx qy)]) ∧ FxW w.heap.size w b k (o || matO qw qx qy qz) w' := by
  have HQ := Lib.hid hq
  have HM := Lib.hid m
  have EF := Lib.hid (matO_eq o qw qx qy qz)
  rw [← EF.out]
  have C0 := Lib.hid (fun (n : Nat) (o : Bool) (W : World) (T : TW W n [⟨qy, qy, false⟩, ⟨qz, qz, false⟩]) (hne : b ≠ n) (m : MAt W b k o) => twOn_any qy qy qz qz n b k o W ⟨hq.c, hq.c⟩ ⟨hq.d, hq.d⟩ T hne m)
  have D0 := Lib.hid (fun (o : Bool) (W : World) (m : MAt W b k o) => fxSub_any 4294967296 (onF qy qy qz qz) b k o W (by omega) (by omega) (onF_in _ _ _ _).1 (onF_in _ _ _ _).2 m)
  have V0 : subF 4294967296 (onF qy qy qz qz) = diagF qy qz := rfl
  rw [V0] at D0
  clear V0
  have C1 := Lib.hid (fun (n : Nat) (o : Bool) (W : World) (T : TW W n [⟨qx, qy, false⟩, ⟨qw, qz, true⟩]) (hne : b ≠ n) (m : MAt W b k o) => twOff_any qx qy qw qz n b k o W ⟨hq.b, hq.c⟩ ⟨hq.a, hq.d⟩ T hne m)
  have C2 := Lib.hid (fun (n : Nat) (o : Bool) (W : World) (T : TW W n [⟨qx, qz, false⟩, ⟨qw, qy, false⟩]) (hne : b ≠ n) (m : MAt W b k o) => twOn_any qx qz qw qy n b k o W ⟨hq.b, hq.d⟩ ⟨hq.a, hq.c⟩ T hne m)
  have C3 := Lib.hid (fun (n : Nat) (o : Bool) (W : World) (T : TW W n [⟨qx, qy, false⟩, ⟨qw, qz, false⟩]) (hne : b ≠ n) (m : MAt W b k o) => twOn_any qx qy qw qz n b k o W ⟨hq.b, hq.c⟩ ⟨hq.a, hq.d⟩ T hne m)
  have C4 := Lib.hid (fun (n : Nat) (o : Bool) (W : World) (T : TW W n [⟨qx, qx, false⟩, ⟨qz, qz, false⟩]) (hne : b ≠ n) (m : MAt W b k o) => twOn_any qx qx qz qz n b k o W ⟨hq.b, hq.b⟩ ⟨hq.d, hq.d⟩ T hne m)
  have D4 := Lib.hid (fun (o : Bool) (W : World) (m : MAt W b k o) => fxSub_any 4294967296 (onF qx qx qz qz) b k o W (by omega) (by omega) (onF_in _ _ _ _).1 (onF_in _ _ _ _).2 m)
  have V4 : subF 4294967296 (onF qx qx qz qz) = diagF qx qz := rfl
  rw [V4] at D4
  clear V4
  have C5 := Lib.hid (fun (n : Nat) (o : Bool) (W : World) (T : TW W n [⟨qy, qz, false⟩, ⟨qw, qx, true⟩]) (hne : b ≠ n) (m : MAt W b k o) => twOff_any qy qz qw qx n b k o W ⟨hq.c, hq.d⟩ ⟨hq.a, hq.b⟩ T hne m)
  have C6 := Lib.hid (fun (n : Nat) (o : Bool) (W : World) (T : TW W n [⟨qx, qz, false⟩, ⟨qw, qy, true⟩]) (hne : b ≠ n) (m : MAt W b k o) => twOff_any qx qz qw qy n b k o W ⟨hq.b, hq.d⟩ ⟨hq.a, hq.c⟩ T hne m)
  have C7 := Lib.hid (fun (n : Nat) (o : Bool) (W : World) (T : TW W n [⟨qy, qz, false⟩, ⟨qw, qx, false⟩]) (hne : b ≠ n) (m : MAt W b k o) => twOn_any qy qz qw qx n b k o W ⟨hq.c, hq.d⟩ ⟨hq.a, hq.b⟩ T hne m)
  have C8 := Lib.hid (fun (n : Nat) (o : Bool) (W : World) (T : TW W n [⟨qx, qx, false⟩, ⟨qy, qy, false⟩]) (hne : b ≠ n) (m : MAt W b k o) => twOn_any qx qx qy qy n b k o W ⟨hq.b, hq.b⟩ ⟨hq.c, hq.c⟩ T hne m)
  have D8 := Lib.hid (fun (o : Bool) (W : World) (m : MAt W b k o) => fxSub_any 4294967296 (onF qx qx qy qy) b k o W (by omega) (by omega) (onF_in _ _ _ _).1 (onF_in _ _ _ _).2 m)
  have V8 : subF 4294967296 (onF qx qx qy qy) = diagF qx qy := rfl
  rw [V8] at D8
  clear V8
  generalize diagF qy qz = v0 at *
  generalize subO 4294967296 (onF qy qy qz qz) = s0 at *
  generalize onF qy qy qz qz = y0 at *
  generalize onO qy qy qz qz = p0 at *
  generalize offF qx qy qw qz = v1 at *
  generalize offO qx qy qw qz = p1 at *
  generalize onF qx qz qw qy = v2 at *
  generalize onO qx qz qw qy = p2 at *
  generalize onF qx qy qw qz = v3 at *
  generalize onO qx qy qw qz = p3 at *
  generalize diagF qx qz = v4 at *
  generalize subO 4294967296 (onF qx qx qz qz) = s4 at *
  generalize onF qx qx qz qz = y4 at *
  generalize onO qx qx qz qz = p4 at *
  generalize offF qy qz qw qx = v5 at *
  generalize offO qy qz qw qx = p5 at *
  generalize offF qx qz qw qy = v6 at *
  generalize offO qx qz qw qy = p6 at *
  generalize onF qy qz qw qx = v7 at *
  generalize onO qy qz qw qx = p7 at *
  generalize diagF qx qy = v8 at *
  generalize subO 4294967296 (onF qx qx qy qy) = s8 at *
  generalize onF qx qx qy qy = y8 at *
  generalize onO qx qx qy qy = p8 at *
  clear hq m EF
  go_enter Try.func14, Try.ntmps14
  go_wp2_with fail
  refine wp_gen (S := fun W => BW W w.heap.size [.int .i64 qw, .int .i64 qx, .int .i64 qy, .int .i64 qz] ∧ BW W (w.heap.size + 1) [.int .i64 0, .int .i64 0, .int .i64 0, .int .i64 0, .int .i64 0, .int .i64 0, .int .i64 0, .int .i64 0, .int .i64 0] ∧ Below w.heap.size w W)
    ⟨(BW.new w w.heap.size [_, _, _, _] _ rfl).alloc _, BW.new _ _ [_, _, _, _, _, _, _, _, _] _ (by simp), by repeat (first | exact Below.refl _ _ | assumption | refine Below.setCell ?_ (by first | omega | (simp; done) | (simp; omega)) _ | refine Below.alloc ?_ (by first | omega | (simp; done) | (simp; omega)) _ | refine below_drewN ?_ _ | refine Below.drew ?_ | refine Below.trans ?_ (Below.mono (by assumption) (by first | omega | (simp; done) | (simp; omega))))⟩ (fun w0 hS => ?_)
  have A0 := Lib.hid hS.1.drew
  have R0 := Lib.hid hS.2.1.drew
  have G0 := Lib.hid ((Flag.start HM.out hS.2.2).more ((Below.refl _ _).drew))
  clear hS HM
  simp only [List.append_eq, List.cons_append, List.nil_append]
  refine wp_region_held_drew (S := fun W => W.cell? ⟨w.heap.size, 0, none⟩ = some (.int .i64 qw) ∧ W.cell? ⟨w.heap.size, 1, none⟩ = some (.int .i64 qx) ∧ W.cell? ⟨w.heap.size, 2, none⟩ = some (.int .i64 qy) ∧ W.cell? ⟨w.heap.size, 3, none⟩ = some (.int .i64 qz)) (by kernel_rfl) A0.out.h4 (fun hHeld => ?_)
  generalize w0.drew = W0 at *
  refine wpAnyH_takeD 0 5 (v := ?_) (by decide +kernel) (by decide +kernel) (by decide +kernel) (by decide +kernel) (by rfl) (fun _ _ _ h => h) ?_ hHeld ?_
  rotate_left 1
  (intro o ho W hSw; simp only [List.getElem?_toArray, List.getElem?_cons_succ, List.getElem?_cons_zero, Option.some.injEq] at ho; subst ho; (try dsimp only at hSw); go_simp; try with_reducible rfl)
  (try simp only [Act.put, List.setIfInBounds_toArray, List.set_cons_zero, List.set_cons_succ])
  refine wpAnyH_takeD 1 6 (v := ?_) (by decide +kernel) (by decide +kernel) (by decide +kernel) (by decide +kernel) (by rfl) (fun _ _ _ h => h) ?_ hHeld ?_
  rotate_left 1
  (intro o ho W hSw; simp only [List.getElem?_toArray, List.getElem?_cons_succ, List.getElem?_cons_zero, Option.some.injEq] at ho; subst ho; (try dsimp only at hSw); go_simp; try with_reducible rfl)
  (try simp only [Act.put, List.setIfInBounds_toArray, List.set_cons_zero, List.set_cons_succ])
  refine wpAnyH_takeD 2 7 (v := ?_) (by decide +kernel) (by decide +kernel) (by decide +kernel) (by decide +kernel) (by rfl) (fun _ _ _ h => h) ?_ hHeld ?_
  rotate_left 1
  (intro o ho W hSw; simp only [List.getElem?_toArray, List.getElem?_cons_succ, List.getElem?_cons_zero, Option.some.injEq] at ho; subst ho; (try dsimp only at hSw); go_simp; try with_reducible rfl)
  (try simp only [Act.put, List.setIfInBounds_toArray, List.set_cons_zero, List.set_cons_succ])
  refine wpAnyH_takeD 3 8 (v := ?_) (by decide +kernel) (by decide +kernel) (by decide +kernel) (by decide +kernel) (by rfl) (fun _ _ _ h => h) ?_ hHeld ?_
  rotate_left 1
  (intro o ho W hSw; simp only [List.getElem?_toArray, List.getElem?_cons_succ, List.getElem?_cons_zero, Option.some.injEq] at ho; subst ho; (try dsimp only at hSw); go_simp; try with_reducible rfl)
  (try simp only [Act.put, List.setIfInBounds_toArray, List.set_cons_zero, List.set_cons_succ])
  refine wpAnyH_takeD 4 9 (v := ?_) (by decide +kernel) (by decide +kernel) (by decide +kernel) (by decide +kernel) (by rfl) (fun _ _ _ h => h) ?_ hHeld ?_
  rotate_left 1
  (intro o ho W hSw; simp only [List.getElem?_toArray, List.getElem?_cons_succ, List.getElem?_cons_zero, Option.some.injEq] at ho; subst ho; (try dsimp only at hSw); go_simp; try with_reducible rfl)
  (try simp only [Act.put, List.setIfInBounds_toArray, List.set_cons_zero, List.set_cons_succ])
  refine wpAnyH_takeD 5 10 (v := ?_) (by decide +kernel) (by decide +kernel) (by decide +kernel) (by decide +kernel) (by rfl) (fun _ _ _ h => h) ?_ hHeld ?_
  rotate_left 1
  (intro o ho W hSw; simp only [List.getElem?_toArray, List.getElem?_cons_succ, List.getElem?_cons_zero, Option.some.injEq] at ho; subst ho; (try dsimp only at hSw); go_simp; try with_reducible rfl)
  (try simp only [Act.put, List.setIfInBounds_toArray, List.set_cons_zero, List.set_cons_succ])
  refine wpAnyH_takeD 7 12 (v := ?_) (by decide +kernel) (by decide +kernel) (by decide +kernel) (by decide +kernel) (by rfl) (fun _ _ _ h => h) ?_ hHeld ?_
  rotate_left 1
  (intro o ho W hSw; simp only [List.getElem?_toArray, List.getElem?_cons_succ, List.getElem?_cons_zero, Option.some.injEq] at ho; subst ho; (try dsimp only at hSw); go_simp; try with_reducible rfl)
  (try simp only [Act.put, List.setIfInBounds_toArray, List.set_cons_zero, List.set_cons_succ])
  refine wpAnyH_takeD 8 13 (v := ?_) (by decide +kernel) (by decide +kernel) (by decide +kernel) (by decide +kernel) (by rfl) (fun _ _ _ h => h) ?_ hHeld ?_
  rotate_left 1
  (intro o ho W hSw; simp only [List.getElem?_toArray, List.getElem?_cons_succ, List.getElem?_cons_zero, Option.some.injEq] at ho; subst ho; (try dsimp only at hSw); go_simp; try with_reducible rfl)
  (try simp only [Act.put, List.setIfInBounds_toArray, List.set_cons_zero, List.set_cons_succ])
  refine wpAnyH_takeD 9 14 (v := ?_) (by decide +kernel) (by decide +kernel) (by decide +kernel) (by decide +kernel) (by rfl) (fun _ _ _ h => h) ?_ hHeld ?_
  rotate_left 1
  (intro o ho W hSw; simp only [List.getElem?_toArray, List.getElem?_cons_succ, List.getElem?_cons_zero, Option.some.injEq] at ho; subst ho; (try dsimp only at hSw); go_simp; try with_reducible rfl)
  (try simp only [Act.put, List.setIfInBounds_toArray, List.set_cons_zero, List.set_cons_succ])
  refine wpAnyH_takeD 10 15 (v := ?_) (by decide +kernel) (by decide +kernel) (by decide +kernel) (by decide +kernel) (by rfl) (fun _ _ _ h => h) ?_ hHeld ?_
  rotate_left 1
  (intro o ho W hSw; simp only [List.getElem?_toArray, List.getElem?_cons_succ, List.getElem?_cons_zero, Option.some.injEq] at ho; subst ho; (try dsimp only at hSw); go_simp; try with_reducible rfl)
  (try simp only [Act.put, List.setIfInBounds_toArray, List.set_cons_zero, List.set_cons_succ])
  refine wpAnyH_takeD 15 20 (v := ?_) (by decide +kernel) (by decide +kernel) (by decide +kernel) (by decide +kernel) (by rfl) (fun _ _ _ h => h) ?_ hHeld ?_
  rotate_left 1
  (intro o ho W hSw; simp only [List.getElem?_toArray, List.getElem?_cons_succ, List.getElem?_cons_zero, Option.some.injEq] at ho; subst ho; (try dsimp only at hSw); go_simp; try with_reducible rfl)
  (try simp only [Act.put, List.setIfInBounds_toArray, List.set_cons_zero, List.set_cons_succ])
  refine wpAnyH_takeD 16 21 (v := ?_) (by decide +kernel) (by decide +kernel) (by decide +kernel) (by decide +kernel) (by rfl) (fun _ _ _ h => h) ?_ hHeld ?_
  rotate_left 1
  (intro o ho W hSw; simp only [List.getElem?_toArray, List.getElem?_cons_succ, List.getElem?_cons_zero, Option.some.injEq] at ho; subst ho; (try dsimp only at hSw); go_simp; try with_reducible rfl)
  (try simp only [Act.put, List.setIfInBounds_toArray, List.set_cons_zero, List.set_cons_succ])
  refine wpAnyH_takeD 17 22 (v := ?_) (by decide +kernel) (by decide +kernel) (by decide +kernel) (by decide +kernel) (by rfl) (fun _ _ _ h => h) ?_ hHeld ?_
  rotate_left 1
  (intro o ho W hSw; simp only [List.getElem?_toArray, List.getElem?_cons_succ, List.getElem?_cons_zero, Option.some.injEq] at ho; subst ho; (try dsimp only at hSw); go_simp; try with_reducible rfl)
  (try simp only [Act.put, List.setIfInBounds_toArray, List.set_cons_zero, List.set_cons_succ])
  refine wpAnyH_takeD 18 23 (v := ?_) (by decide +kernel) (by decide +kernel) (by decide +kernel) (by decide +kernel) (by rfl) (fun _ _ _ h => h) ?_ hHeld ?_
  rotate_left 1
  (intro o ho W hSw; simp only [List.getElem?_toArray, List.getElem?_cons_succ, List.getElem?_cons_zero, Option.some.injEq] at ho; subst ho; (try dsimp only at hSw); go_simp; try with_reducible rfl)
  (try simp only [Act.put, List.setIfInBounds_toArray, List.set_cons_zero, List.set_cons_succ])
  refine wpAnyH_takeD 19 24 (v := ?_) (by decide +kernel) (by decide +kernel) (by decide +kernel) (by decide +kernel) (by rfl) (fun _ _ _ h => h) ?_ hHeld ?_
  rotate_left 1
  (intro o ho W hSw; simp only [List.getElem?_toArray, List.getElem?_cons_succ, List.getElem?_cons_zero, Option.some.injEq] at ho; subst ho; (try dsimp only at hSw); go_simp; try with_reducible rfl)
  (try simp only [Act.put, List.setIfInBounds_toArray, List.set_cons_zero, List.set_cons_succ])
  refine wpAnyH_takeD 21 26 (v := ?_) (by decide +kernel) (by decide +kernel) (by decide +kernel) (by decide +kernel) (by rfl) (fun _ _ _ h => h) ?_ hHeld ?_
  rotate_left 1
  (intro o ho W hSw; simp only [List.getElem?_toArray, List.getElem?_cons_succ, List.getElem?_cons_zero, Option.some.injEq] at ho; subst ho; (try dsimp only at hSw); go_simp; try with_reducible rfl)
  (try simp only [Act.put, List.setIfInBounds_toArray, List.set_cons_zero, List.set_cons_succ])
  refine wpAnyH_takeD 22 27 (v := ?_) (by decide +kernel) (by decide +kernel) (by decide +kernel) (by decide +kernel) (by rfl) (fun _ _ _ h => h) ?_ hHeld ?_
  rotate_left 1
  (intro o ho W hSw; simp only [List.getElem?_toArray, List.getElem?_cons_succ, List.getElem?_cons_zero, Option.some.injEq] at ho; subst ho; (try dsimp only at hSw); go_simp; try with_reducible rfl)
  (try simp only [Act.put, List.setIfInBounds_toArray, List.set_cons_zero, List.set_cons_succ])
  refine wpAnyH_takeD 23 28 (v := ?_) (by decide +kernel) (by decide +kernel) (by decide +kernel) (by decide +kernel) (by rfl) (fun _ _ _ h => h) ?_ hHeld ?_
  rotate_left 1
  (intro o ho W hSw; simp only [List.getElem?_toArray, List.getElem?_cons_succ, List.getElem?_cons_zero, Option.some.injEq] at ho; subst ho; (try dsimp only at hSw); go_simp; try with_reducible rfl)
  (try simp only [Act.put, List.setIfInBounds_toArray, List.set_cons_zero, List.set_cons_succ])
  refine wpAnyH_takeD 24 29 (v := ?_) (by decide +kernel) (by decide +kernel) (by decide +kernel) (by decide +kernel) (by rfl) (fun _ _ _ h => h) ?_ hHeld ?_
  rotate_left 1
  (intro o ho W hSw; simp only [List.getElem?_toArray, List.getElem?_cons_succ, List.getElem?_cons_zero, Option.some.injEq] at ho; subst ho; (try dsimp only at hSw); go_simp; try with_reducible rfl)
  (try simp only [Act.put, List.setIfInBounds_toArray, List.set_cons_zero, List.set_cons_succ])
  refine wpAnyH_takeD 28 33 (v := ?_) (by decide +kernel) (by decide +kernel) (by decide +kernel) (by decide +kernel) (by rfl) (fun _ _ _ h => h) ?_ hHeld ?_
  rotate_left 1
  (intro o ho W hSw; simp only [List.getElem?_toArray, List.getElem?_cons_succ, List.getElem?_cons_zero, Option.some.injEq] at ho; subst ho; (try dsimp only at hSw); go_simp; try with_reducible rfl)
  (try simp only [Act.put, List.setIfInBounds_toArray, List.set_cons_zero, List.set_cons_succ])
  refine wpAnyH_takeD 29 34 (v := ?_) (by decide +kernel) (by decide +kernel) (by decide +kernel) (by decide +kernel) (by rfl) (fun _ _ _ h => h) ?_ hHeld ?_
  rotate_left 1
  (intro o ho W hSw; simp only [List.getElem?_toArray, List.getElem?_cons_succ, List.getElem?_cons_zero, Option.some.injEq] at ho; subst ho; (try dsimp only at hSw); go_simp; try with_reducible rfl)
  (try simp only [Act.put, List.setIfInBounds_toArray, List.set_cons_zero, List.set_cons_succ])
  refine wpAnyH_takeD 30 35 (v := ?_) (by decide +kernel) (by decide +kernel) (by decide +kernel) (by decide +kernel) (by rfl) (fun _ _ _ h => h) ?_ hHeld ?_
  rotate_left 1
  (intro o ho W hSw; simp only [List.getElem?_toArray, List.getElem?_cons_succ, List.getElem?_cons_zero, Option.some.injEq] at ho; subst ho; (try dsimp only at hSw); go_simp; try with_reducible rfl)
  (try simp only [Act.put, List.setIfInBounds_toArray, List.set_cons_zero, List.set_cons_succ])
  refine wpAnyH_takeD 31 36 (v := ?_) (by decide +kernel) (by decide +kernel) (by decide +kernel) (by decide +kernel) (by rfl) (fun _ _ _ h => h) ?_ hHeld ?_
  rotate_left 1
  (intro o ho W hSw; simp only [List.getElem?_toArray, List.getElem?_cons_succ, List.getElem?_cons_zero, Option.some.injEq] at ho; subst ho; (try dsimp only at hSw); go_simp; try with_reducible rfl)
  (try simp only [Act.put, List.setIfInBounds_toArray, List.set_cons_zero, List.set_cons_succ])
  refine wpAnyH_takeD 32 37 (v := ?_) (by decide +kernel) (by decide +kernel) (by decide +kernel) (by decide +kernel) (by rfl) (fun _ _ _ h => h) ?_ hHeld ?_
  rotate_left 1
  (intro o ho W hSw; simp only [List.getElem?_toArray, List.getElem?_cons_succ, List.getElem?_cons_zero, Option.some.injEq] at ho; subst ho; (try dsimp only at hSw); go_simp; try with_reducible rfl)
  (try simp only [Act.put, List.setIfInBounds_toArray, List.set_cons_zero, List.set_cons_succ])
  refine wpAnyH_takeD 34 39 (v := ?_) (by decide +kernel) (by decide +kernel) (by decide +kernel) (by decide +kernel) (by rfl) (fun _ _ _ h => h) ?_ hHeld ?_
  rotate_left 1
  (intro o ho W hSw; simp only [List.getElem?_toArray, List.getElem?_cons_succ, List.getElem?_cons_zero, Option.some.injEq] at ho; subst ho; (try dsimp only at hSw); go_simp; try with_reducible rfl)
  (try simp only [Act.put, List.setIfInBounds_toArray, List.set_cons_zero, List.set_cons_succ])
  refine wpAnyH_takeD 35 40 (v := ?_) (by decide +kernel) (by decide +kernel) (by decide +kernel) (by decide +kernel) (by rfl) (fun _ _ _ h => h) ?_ hHeld ?_
  rotate_left 1
  (intro o ho W hSw; simp only [List.getElem?_toArray, List.getElem?_cons_succ, List.getElem?_cons_zero, Option.some.injEq] at ho; subst ho; (try dsimp only at hSw); go_simp; try with_reducible rfl)
  (try simp only [Act.put, List.setIfInBounds_toArray, List.set_cons_zero, List.set_cons_succ])
  refine wpAnyH_takeD 36 41 (v := ?_) (by decide +kernel) (by decide +kernel) (by decide +kernel) (by decide +kernel) (by rfl) (fun _ _ _ h => h) ?_ hHeld ?_
  rotate_left 1
  (intro o ho W hSw; simp only [List.getElem?_toArray, List.getElem?_cons_succ, List.getElem?_cons_zero, Option.some.injEq] at ho; subst ho; (try dsimp only at hSw); go_simp; try with_reducible rfl)
  (try simp only [Act.put, List.setIfInBounds_toArray, List.set_cons_zero, List.set_cons_succ])
  refine wpAnyH_takeD 37 42 (v := ?_) (by decide +kernel) (by decide +kernel) (by decide +kernel) (by decide +kernel) (by rfl) (fun _ _ _ h => h) ?_ hHeld ?_
  rotate_left 1
  (intro o ho W hSw; simp only [List.getElem?_toArray, List.getElem?_cons_succ, List.getElem?_cons_zero, Option.some.injEq] at ho; subst ho; (try dsimp only at hSw); go_simp; try with_reducible rfl)
  (try simp only [Act.put, List.setIfInBounds_toArray, List.set_cons_zero, List.set_cons_succ])
  refine wpAnyH_takeD 42 47 (v := ?_) (by decide +kernel) (by decide +kernel) (by decide +kernel) (by decide +kernel) (by rfl) (fun _ _ _ h => h) ?_ hHeld ?_
  rotate_left 1
  (intro o ho W hSw; simp only [List.getElem?_toArray, List.getElem?_cons_succ, List.getElem?_cons_zero, Option.some.injEq] at ho; subst ho; (try dsimp only at hSw); go_simp; try with_reducible rfl)
  (try simp only [Act.put, List.setIfInBounds_toArray, List.set_cons_zero, List.set_cons_succ])
  refine wpAnyH_takeD 43 48 (v := ?_) (by decide +kernel) (by decide +kernel) (by decide +kernel) (by decide +kernel) (by rfl) (fun _ _ _ h => h) ?_ hHeld ?_
  rotate_left 1
  (intro o ho W hSw; simp only [List.getElem?_toArray, List.getElem?_cons_succ, List.getElem?_cons_zero, Option.some.injEq] at ho; subst ho; (try dsimp only at hSw); go_simp; try with_reducible rfl)
  (try simp only [Act.put, List.setIfInBounds_toArray, List.set_cons_zero, List.set_cons_succ])
  refine wpAnyH_takeD 44 49 (v := ?_) (by decide +kernel) (by decide +kernel) (by decide +kernel) (by decide +kernel) (by rfl) (fun _ _ _ h => h) ?_ hHeld ?_
  rotate_left 1
  (intro o ho W hSw; simp only [List.getElem?_toArray, List.getElem?_cons_succ, List.getElem?_cons_zero, Option.some.injEq] at ho; subst ho; (try dsimp only at hSw); go_simp; try with_reducible rfl)
  (try simp only [Act.put, List.setIfInBounds_toArray, List.set_cons_zero, List.set_cons_succ])
  refine wpAnyH_takeD 45 50 (v := ?_) (by decide +kernel) (by decide +kernel) (by decide +kernel) (by decide +kernel) (by rfl) (fun _ _ _ h => h) ?_ hHeld ?_
  rotate_left 1
  (intro o ho W hSw; simp only [List.getElem?_toArray, List.getElem?_cons_succ, List.getElem?_cons_zero, Option.some.injEq] at ho; subst ho; (try dsimp only at hSw); go_simp; try with_reducible rfl)
  (try simp only [Act.put, List.setIfInBounds_toArray, List.set_cons_zero, List.set_cons_succ])
  refine wpAnyH_takeD 46 51 (v := ?_) (by decide +kernel) (by decide +kernel) (by decide +kernel) (by decide +kernel) (by rfl) (fun _ _ _ h => h) ?_ hHeld ?_
  rotate_left 1
  (intro o ho W hSw; simp only [List.getElem?_toArray, List.getElem?_cons_succ, List.getElem?_cons_zero, Option.some.injEq] at ho; subst ho; (try dsimp only at hSw); go_simp; try with_reducible rfl)
  (try simp only [Act.put, List.setIfInBounds_toArray, List.set_cons_zero, List.set_cons_succ])
  refine wpAnyH_takeD 48 53 (v := ?_) (by decide +kernel) (by decide +kernel) (by decide +kernel) (by decide +kernel) (by rfl) (fun _ _ _ h => h) ?_ hHeld ?_
  rotate_left 1
  (intro o ho W hSw; simp only [List.getElem?_toArray, List.getElem?_cons_succ, List.getElem?_cons_zero, Option.some.injEq] at ho; subst ho; (try dsimp only at hSw); go_simp; try with_reducible rfl)
  (try simp only [Act.put, List.setIfInBounds_toArray, List.set_cons_zero, List.set_cons_succ])
  refine wpAnyH_takeD 49 54 (v := ?_) (by decide +kernel) (by decide +kernel) (by decide +kernel) (by decide +kernel) (by rfl) (fun _ _ _ h => h) ?_ hHeld ?_
  rotate_left 1
  (intro o ho W hSw; simp only [List.getElem?_toArray, List.getElem?_cons_succ, List.getElem?_cons_zero, Option.some.injEq] at ho; subst ho; (try dsimp only at hSw); go_simp; try with_reducible rfl)
  (try simp only [Act.put, List.setIfInBounds_toArray, List.set_cons_zero, List.set_cons_succ])
  refine wpAnyH_takeD 50 55 (v := ?_) (by decide +kernel) (by decide +kernel) (by decide +kernel) (by decide +kernel) (by rfl) (fun _ _ _ h => h) ?_ hHeld ?_
  rotate_left 1
  (intro o ho W hSw; simp only [List.getElem?_toArray, List.getElem?_cons_succ, List.getElem?_cons_zero, Option.some.injEq] at ho; subst ho; (try dsimp only at hSw); go_simp; try with_reducible rfl)
  (try simp only [Act.put, List.setIfInBounds_toArray, List.set_cons_zero, List.set_cons_succ])
  refine wpAnyH_takeD 51 56 (v := ?_) (by decide +kernel) (by decide +kernel) (by decide +kernel) (by decide +kernel) (by rfl) (fun _ _ _ h => h) ?_ hHeld ?_
  rotate_left 1
  (intro o ho W hSw; simp only [List.getElem?_toArray, List.getElem?_cons_succ, List.getElem?_cons_zero, Option.some.injEq] at ho; subst ho; (try dsimp only at hSw); go_simp; try with_reducible rfl)
  (try simp only [Act.put, List.setIfInBounds_toArray, List.set_cons_zero, List.set_cons_succ])
  refine wpAnyH_takeD 55 60 (v := ?_) (by decide +kernel) (by decide +kernel) (by decide +kernel) (by decide +kernel) (by rfl) (fun _ _ _ h => h) ?_ hHeld ?_
  rotate_left 1
  (intro o ho W hSw; simp only [List.getElem?_toArray, List.getElem?_cons_succ, List.getElem?_cons_zero, Option.some.injEq] at ho; subst ho; (try dsimp only at hSw); go_simp; try with_reducible rfl)
  (try simp only [Act.put, List.setIfInBounds_toArray, List.set_cons_zero, List.set_cons_succ])
  refine wpAnyH_takeD 56 61 (v := ?_) (by decide +kernel) (by decide +kernel) (by decide +kernel) (by decide +kernel) (by rfl) (fun _ _ _ h => h) ?_ hHeld ?_
  rotate_left 1
  (intro o ho W hSw; simp only [List.getElem?_toArray, List.getElem?_cons_succ, List.getElem?_cons_zero, Option.some.injEq] at ho; subst ho; (try dsimp only at hSw); go_simp; try with_reducible rfl)
  (try simp only [Act.put, List.setIfInBounds_toArray, List.set_cons_zero, List.set_cons_succ])
  refine wpAnyH_takeD 57 62 (v := ?_) (by decide +kernel) (by decide +kernel) (by decide +kernel) (by decide +kernel) (by rfl) (fun _ _ _ h => h) ?_ hHeld ?_
  rotate_left 1
  (intro o ho W hSw; simp only [List.getElem?_toArray, List.getElem?_cons_succ, List.getElem?_cons_zero, Option.some.injEq] at ho; subst ho; (try dsimp only at hSw); go_simp; try with_reducible rfl)
  (try simp only [Act.put, List.setIfInBounds_toArray, List.set_cons_zero, List.set_cons_succ])
  refine wpAnyH_takeD 58 63 (v := ?_) (by decide +kernel) (by decide +kernel) (by decide +kernel) (by decide +kernel) (by rfl) (fun _ _ _ h => h) ?_ hHeld ?_
  rotate_left 1
  (intro o ho W hSw; simp only [List.getElem?_toArray, List.getElem?_cons_succ, List.getElem?_cons_zero, Option.some.injEq] at ho; subst ho; (try dsimp only at hSw); go_simp; try with_reducible rfl)
  (try simp only [Act.put, List.setIfInBounds_toArray, List.set_cons_zero, List.set_cons_succ])
  refine wpAnyH_takeD 59 64 (v := ?_) (by decide +kernel) (by decide +kernel) (by decide +kernel) (by decide +kernel) (by rfl) (fun _ _ _ h => h) ?_ hHeld ?_
  rotate_left 1
  (intro o ho W hSw; simp only [List.getElem?_toArray, List.getElem?_cons_succ, List.getElem?_cons_zero, Option.some.injEq] at ho; subst ho; (try dsimp only at hSw); go_simp; try with_reducible rfl)
  (try simp only [Act.put, List.setIfInBounds_toArray, List.set_cons_zero, List.set_cons_succ])
  refine wpAnyH_takeD 60 65 (v := ?_) (by decide +kernel) (by decide +kernel) (by decide +kernel) (by decide +kernel) (by rfl) (fun _ _ _ h => h) ?_ hHeld ?_
  rotate_left 1
  (intro o ho W hSw; simp only [List.getElem?_toArray, List.getElem?_cons_succ, List.getElem?_cons_zero, Option.some.injEq] at ho; subst ho; (try dsimp only at hSw); go_simp; try with_reducible rfl)
  (try simp only [Act.put, List.setIfInBounds_toArray, List.set_cons_zero, List.set_cons_succ])
  refine wpAnyH_takeD 62 67 (v := ?_) (by decide +kernel) (by decide +kernel) (by decide +kernel) (by decide +kernel) (by rfl) (fun _ _ _ h => h) ?_ hHeld ?_
  rotate_left 1
  (intro o ho W hSw; simp only [List.getElem?_toArray, List.getElem?_cons_succ, List.getElem?_cons_zero, Option.some.injEq] at ho; subst ho; (try dsimp only at hSw); go_simp; try with_reducible rfl)
  (try simp only [Act.put, List.setIfInBounds_toArray, List.set_cons_zero, List.set_cons_succ])
  refine wpAnyH_takeD 63 68 (v := ?_) (by decide +kernel) (by decide +kernel) (by decide +kernel) (by decide +kernel) (by rfl) (fun _ _ _ h => h) ?_ hHeld ?_
  rotate_left 1
  (intro o ho W hSw; simp only [List.getElem?_toArray, List.getElem?_cons_succ, List.getElem?_cons_zero, Option.some.injEq] at ho; subst ho; (try dsimp only at hSw); go_simp; try with_reducible rfl)
  (try simp only [Act.put, List.setIfInBounds_toArray, List.set_cons_zero, List.set_cons_succ])
  refine wpAnyH_takeD 64 69 (v := ?_) (by decide +kernel) (by decide +kernel) (by decide +kernel) (by decide +kernel) (by rfl) (fun _ _ _ h => h) ?_ hHeld ?_
  rotate_left 1
  (intro o ho W hSw; simp only [List.getElem?_toArray, List.getElem?_cons_succ, List.getElem?_cons_zero, Option.some.injEq] at ho; subst ho; (try dsimp only at hSw); go_simp; try with_reducible rfl)
  (try simp only [Act.put, List.setIfInBounds_toArray, List.set_cons_zero, List.set_cons_succ])
  refine wpAnyH_takeD 65 70 (v := ?_) (by decide +kernel) (by decide +kernel) (by decide +kernel) (by decide +kernel) (by rfl) (fun _ _ _ h => h) ?_ hHeld ?_
  rotate_left 1
  (intro o ho W hSw; simp only [List.getElem?_toArray, List.getElem?_cons_succ, List.getElem?_cons_zero, Option.some.injEq] at ho; subst ho; (try dsimp only at hSw); go_simp; try with_reducible rfl)
  (try simp only [Act.put, List.setIfInBounds_toArray, List.set_cons_zero, List.set_cons_succ])
  refine wpAnyH_takeD 70 75 (v := ?_) (by decide +kernel) (by decide +kernel) (by decide +kernel) (by decide +kernel) (by rfl) (fun _ _ _ h => h) ?_ hHeld ?_
  rotate_left 1
  (intro o ho W hSw; simp only [List.getElem?_toArray, List.getElem?_cons_succ, List.getElem?_cons_zero, Option.some.injEq] at ho; subst ho; (try dsimp only at hSw); go_simp; try with_reducible rfl)
  (try simp only [Act.put, List.setIfInBounds_toArray, List.set_cons_zero, List.set_cons_succ])
  refine wpAnyH_takeD 71 76 (v := ?_) (by decide +kernel) (by decide +kernel) (by decide +kernel) (by decide +kernel) (by rfl) (fun _ _ _ h => h) ?_ hHeld ?_
  rotate_left 1
  (intro o ho W hSw; simp only [List.getElem?_toArray, List.getElem?_cons_succ, List.getElem?_cons_zero, Option.some.injEq] at ho; subst ho; (try dsimp only at hSw); go_simp; try with_reducible rfl)
  (try simp only [Act.put, List.setIfInBounds_toArray, List.set_cons_zero, List.set_cons_succ])
  refine wpAnyH_takeD 72 77 (v := ?_) (by decide +kernel) (by decide +kernel) (by decide +kernel) (by decide +kernel) (by rfl) (fun _ _ _ h => h) ?_ hHeld ?_
  rotate_left 1
  (intro o ho W hSw; simp only [List.getElem?_toArray, List.getElem?_cons_succ, List.getElem?_cons_zero, Option.some.injEq] at ho; subst ho; (try dsimp only at hSw); go_simp; try with_reducible rfl)
  (try simp only [Act.put, List.setIfInBounds_toArray, List.set_cons_zero, List.set_cons_succ])
  refine wpAnyH_takeD 73 78 (v := ?_) (by decide +kernel) (by decide +kernel) (by decide +kernel) (by decide +kernel) (by rfl) (fun _ _ _ h => h) ?_ hHeld ?_
  rotate_left 1
  (intro o ho W hSw; simp only [List.getElem?_toArray, List.getElem?_cons_succ, List.getElem?_cons_zero, Option.some.injEq] at ho; subst ho; (try dsimp only at hSw); go_simp; try with_reducible rfl)
  (try simp only [Act.put, List.setIfInBounds_toArray, List.set_cons_zero, List.set_cons_succ])
  refine wpAnyH_takeD 74 79 (v := ?_) (by decide +kernel) (by decide +kernel) (by decide +kernel) (by decide +kernel) (by rfl) (fun _ _ _ h => h) ?_ hHeld ?_
  rotate_left 1
  (intro o ho W hSw; simp only [List.getElem?_toArray, List.getElem?_cons_succ, List.getElem?_cons_zero, Option.some.injEq] at ho; subst ho; (try dsimp only at hSw); go_simp; try with_reducible rfl)
  (try simp only [Act.put, List.setIfInBounds_toArray, List.set_cons_zero, List.set_cons_succ])
  refine wpAnyH_takeD 76 81 (v := ?_) (by decide +kernel) (by decide +kernel) (by decide +kernel) (by decide +kernel) (by rfl) (fun _ _ _ h => h) ?_ hHeld ?_
  rotate_left 1
  (intro o ho W hSw; simp only [List.getElem?_toArray, List.getElem?_cons_succ, List.getElem?_cons_zero, Option.some.injEq] at ho; subst ho; (try dsimp only at hSw); go_simp; try with_reducible rfl)
  (try simp only [Act.put, List.setIfInBounds_toArray, List.set_cons_zero, List.set_cons_succ])
  refine wpAnyH_takeD 77 82 (v := ?_) (by decide +kernel) (by decide +kernel) (by decide +kernel) (by decide +kernel) (by rfl) (fun _ _ _ h => h) ?_ hHeld ?_
  rotate_left 1
  (intro o ho W hSw; simp only [List.getElem?_toArray, List.getElem?_cons_succ, List.getElem?_cons_zero, Option.some.injEq] at ho; subst ho; (try dsimp only at hSw); go_simp; try with_reducible rfl)
  (try simp only [Act.put, List.setIfInBounds_toArray, List.set_cons_zero, List.set_cons_succ])
  refine wpAnyH_takeD 78 83 (v := ?_) (by decide +kernel) (by decide +kernel) (by decide +kernel) (by decide +kernel) (by rfl) (fun _ _ _ h => h) ?_ hHeld ?_
  rotate_left 1
  (intro o ho W hSw; simp only [List.getElem?_toArray, List.getElem?_cons_succ, List.getElem?_cons_zero, Option.some.injEq] at ho; subst ho; (try dsimp only at hSw); go_simp; try with_reducible rfl)
  (try simp only [Act.put, List.setIfInBounds_toArray, List.set_cons_zero, List.set_cons_succ])
  refine wpAnyH_takeD 79 84 (v := ?_) (by decide +kernel) (by decide +kernel) (by decide +kernel) (by decide +kernel) (by rfl) (fun _ _ _ h => h) ?_ hHeld ?_
  rotate_left 1
  (intro o ho W hSw; simp only [List.getElem?_toArray, List.getElem?_cons_succ, List.getElem?_cons_zero, Option.some.injEq] at ho; subst ho; (try dsimp only at hSw); go_simp; try with_reducible rfl)
  (try simp only [Act.put, List.setIfInBounds_toArray, List.set_cons_zero, List.set_cons_succ])
  refine wpAnyH_takeD 84 89 (v := ?_) (by decide +kernel) (by decide +kernel) (by decide +kernel) (by decide +kernel) (by rfl) (fun _ _ _ h => h) ?_ hHeld ?_
  rotate_left 1
  (intro o ho W hSw; simp only [List.getElem?_toArray, List.getElem?_cons_succ, List.getElem?_cons_zero, Option.some.injEq] at ho; subst ho; (try dsimp only at hSw); go_simp; try with_reducible rfl)
  (try simp only [Act.put, List.setIfInBounds_toArray, List.set_cons_zero, List.set_cons_succ])
  refine wpAnyH_takeD 85 90 (v := ?_) (by decide +kernel) (by decide +kernel) (by decide +kernel) (by decide +kernel) (by rfl) (fun _ _ _ h => h) ?_ hHeld ?_
  rotate_left 1
  (intro o ho W hSw; simp only [List.getElem?_toArray, List.getElem?_cons_succ, List.getElem?_cons_zero, Option.some.injEq] at ho; subst ho; (try dsimp only at hSw); go_simp; try with_reducible rfl)
  (try simp only [Act.put, List.setIfInBounds_toArray, List.set_cons_zero, List.set_cons_succ])
  refine wpAnyH_takeD 86 91 (v := ?_) (by decide +kernel) (by decide +kernel) (by decide +kernel) (by decide +kernel) (by rfl) (fun _ _ _ h => h) ?_ hHeld ?_
  rotate_left 1
  (intro o ho W hSw; simp only [List.getElem?_toArray, List.getElem?_cons_succ, List.getElem?_cons_zero, Option.some.injEq] at ho; subst ho; (try dsimp only at hSw); go_simp; try with_reducible rfl)
  (try simp only [Act.put, List.setIfInBounds_toArray, List.set_cons_zero, List.set_cons_succ])
  refine wpAnyH_takeD 87 92 (v := ?_) (by decide +kernel) (by decide +kernel) (by decide +kernel) (by decide +kernel) (by rfl) (fun _ _ _ h => h) ?_ hHeld ?_
  rotate_left 1
  (intro o ho W hSw; simp only [List.getElem?_toArray, List.getElem?_cons_succ, List.getElem?_cons_zero, Option.some.injEq] at ho; subst ho; (try dsimp only at hSw); go_simp; try with_reducible rfl)
  (try simp only [Act.put, List.setIfInBounds_toArray, List.set_cons_zero, List.set_cons_succ])
  refine wpAnyH_takeD 88 93 (v := ?_) (by decide +kernel) (by decide +kernel) (by decide +kernel) (by decide +kernel) (by rfl) (fun _ _ _ h => h) ?_ hHeld ?_
  rotate_left 1
  (intro o ho W hSw; simp only [List.getElem?_toArray, List.getElem?_cons_succ, List.getElem?_cons_zero, Option.some.injEq] at ho; subst ho; (try dsimp only at hSw); go_simp; try with_reducible rfl)
  (try simp only [Act.put, List.setIfInBounds_toArray, List.set_cons_zero, List.set_cons_succ])
  refine wpAnyH_takeD 90 95 (v := ?_) (by decide +kernel) (by decide +kernel) (by decide +kernel) (by decide +kernel) (by rfl) (fun _ _ _ h => h) ?_ hHeld ?_
  rotate_left 1
  (intro o ho W hSw; simp only [List.getElem?_toArray, List.getElem?_cons_succ, List.getElem?_cons_zero, Option.some.injEq] at ho; subst ho; (try dsimp only at hSw); go_simp; try with_reducible rfl)
  (try simp only [Act.put, List.setIfInBounds_toArray, List.set_cons_zero, List.set_cons_succ])
  refine wpAnyH_takeD 91 96 (v := ?_) (by decide +kernel) (by decide +kernel) (by decide +kernel) (by decide +kernel) (by rfl) (fun _ _ _ h => h) ?_ hHeld ?_
  rotate_left 1
  (intro o ho W hSw; simp only [List.getElem?_toArray, List.getElem?_cons_succ, List.getElem?_cons_zero, Option.some.injEq] at ho; subst ho; (try dsimp only at hSw); go_simp; try with_reducible rfl)
  (try simp only [Act.put, List.setIfInBounds_toArray, List.set_cons_zero, List.set_cons_succ])
  refine wpAnyH_takeD 92 97 (v := ?_) (by decide +kernel) (by decide +kernel) (by decide +kernel) (by decide +kernel) (by rfl) (fun _ _ _ h => h) ?_ hHeld ?_
  rotate_left 1
  (intro o ho W hSw; simp only [List.getElem?_toArray, List.getElem?_cons_succ, List.getElem?_cons_zero, Option.some.injEq] at ho; subst ho; (try dsimp only at hSw); go_simp; try with_reducible rfl)
  (try simp only [Act.put, List.setIfInBounds_toArray, List.set_cons_zero, List.set_cons_succ])
  refine wpAnyH_takeD 93 98 (v := ?_) (by decide +kernel) (by decide +kernel) (by decide +kernel) (by decide +kernel) (by rfl) (fun _ _ _ h => h) ?_ hHeld ?_
  rotate_left 1
  (intro o ho W hSw; simp only [List.getElem?_toArray, List.getElem?_cons_succ, List.getElem?_cons_zero, Option.some.injEq] at ho; subst ho; (try dsimp only at hSw); go_simp; try with_reducible rfl)
  (try simp only [Act.put, List.setIfInBounds_toArray, List.set_cons_zero, List.set_cons_succ])
  refine wpAnyH_takeD 97 102 (v := ?_) (by decide +kernel) (by decide +kernel) (by decide +kernel) (by decide +kernel) (by rfl) (fun _ _ _ h => h) ?_ hHeld ?_
  rotate_left 1
  (intro o ho W hSw; simp only [List.getElem?_toArray, List.getElem?_cons_succ, List.getElem?_cons_zero, Option.some.injEq] at ho; subst ho; (try dsimp only at hSw); go_simp; try with_reducible rfl)
  (try simp only [Act.put, List.setIfInBounds_toArray, List.set_cons_zero, List.set_cons_succ])
  refine wpAnyH_takeD 98 103 (v := ?_) (by decide +kernel) (by decide +kernel) (by decide +kernel) (by decide +kernel) (by rfl) (fun _ _ _ h => h) ?_ hHeld ?_
  rotate_left 1
  (intro o ho W hSw; simp only [List.getElem?_toArray, List.getElem?_cons_succ, List.getElem?_cons_zero, Option.some.injEq] at ho; subst ho; (try dsimp only at hSw); go_simp; try with_reducible rfl)
  (try simp only [Act.put, List.setIfInBounds_toArray, List.set_cons_zero, List.set_cons_succ])
  refine wpAnyH_takeD 99 104 (v := ?_) (by decide +kernel) (by decide +kernel) (by decide +kernel) (by decide +kernel) (by rfl) (fun _ _ _ h => h) ?_ hHeld ?_
  rotate_left 1
  (intro o ho W hSw; simp only [List.getElem?_toArray, List.getElem?_cons_succ, List.getElem?_cons_zero, Option.some.injEq] at ho; subst ho; (try dsimp only at hSw); go_simp; try with_reducible rfl)
  (try simp only [Act.put, List.setIfInBounds_toArray, List.set_cons_zero, List.set_cons_succ])
  refine wpAnyH_takeD 100 105 (v := ?_) (by decide +kernel) (by decide +kernel) (by decide +kernel) (by decide +kernel) (by rfl) (fun _ _ _ h => h) ?_ hHeld ?_
  rotate_left 1
  (intro o ho W hSw; simp only [List.getElem?_toArray, List.getElem?_cons_succ, List.getElem?_cons_zero, Option.some.injEq] at ho; subst ho; (try dsimp only at hSw); go_simp; try with_reducible rfl)
  (try simp only [Act.put, List.setIfInBounds_toArray, List.set_cons_zero, List.set_cons_succ])
  refine wpAnyH_takeD 101 106 (v := ?_) (by decide +kernel) (by decide +kernel) (by decide +kernel) (by decide +kernel) (by rfl) (fun _ _ _ h => h) ?_ hHeld ?_
  rotate_left 1
  (intro o ho W hSw; simp only [List.getElem?_toArray, List.getElem?_cons_succ, List.getElem?_cons_zero, Option.some.injEq] at ho; subst ho; (try dsimp only at hSw); go_simp; try with_reducible rfl)
  (try simp only [Act.put, List.setIfInBounds_toArray, List.set_cons_zero, List.set_cons_succ])
  refine wpAnyH_takeD 103 108 (v := ?_) (by decide +kernel) (by decide +kernel) (by decide +kernel) (by decide +kernel) (by rfl) (fun _ _ _ h => h) ?_ hHeld ?_
  rotate_left 1
  (intro o ho W hSw; simp only [List.getElem?_toArray, List.getElem?_cons_succ, List.getElem?_cons_zero, Option.some.injEq] at ho; subst ho; (try dsimp only at hSw); go_simp; try with_reducible rfl)
  (try simp only [Act.put, List.setIfInBounds_toArray, List.set_cons_zero, List.set_cons_succ])
  refine wpAnyH_takeD 104 109 (v := ?_) (by decide +kernel) (by decide +kernel) (by decide +kernel) (by decide +kernel) (by rfl) (fun _ _ _ h => h) ?_ hHeld ?_
  rotate_left 1
  (intro o ho W hSw; simp only [List.getElem?_toArray, List.getElem?_cons_succ, List.getElem?_cons_zero, Option.some.injEq] at ho; subst ho; (try dsimp only at hSw); go_simp; try with_reducible rfl)
  (try simp only [Act.put, List.setIfInBounds_toArray, List.set_cons_zero, List.set_cons_succ])
  refine wpAnyH_takeD 105 110 (v := ?_) (by decide +kernel) (by decide +kernel) (by decide +kernel) (by decide +kernel) (by rfl) (fun _ _ _ h => h) ?_ hHeld ?_
  rotate_left 1
  (intro o ho W hSw; simp only [List.getElem?_toArray, List.getElem?_cons_succ, List.getElem?_cons_zero, Option.some.injEq] at ho; subst ho; (try dsimp only at hSw); go_simp; try with_reducible rfl)
  (try simp only [Act.put, List.setIfInBounds_toArray, List.set_cons_zero, List.set_cons_succ])
  refine wpAnyH_takeD 106 111 (v := ?_) (by decide +kernel) (by decide +kernel) (by decide +kernel) (by decide +kernel) (by rfl) (fun _ _ _ h => h) ?_ hHeld ?_
  rotate_left 1
  (intro o ho W hSw; simp only [List.getElem?_toArray, List.getElem?_cons_succ, List.getElem?_cons_zero, Option.some.injEq] at ho; subst ho; (try dsimp only at hSw); go_simp; try with_reducible rfl)
  (try simp only [Act.put, List.setIfInBounds_toArray, List.set_cons_zero, List.set_cons_succ])
  refine wpAnyH_takeD 110 115 (v := ?_) (by decide +kernel) (by decide +kernel) (by decide +kernel) (by decide +kernel) (by rfl) (fun _ _ _ h => h) ?_ hHeld ?_
  rotate_left 1
  (intro o ho W hSw; simp only [List.getElem?_toArray, List.getElem?_cons_succ, List.getElem?_cons_zero, Option.some.injEq] at ho; subst ho; (try dsimp only at hSw); go_simp; try with_reducible rfl)
  (try simp only [Act.put, List.setIfInBounds_toArray, List.set_cons_zero, List.set_cons_succ])
  refine wpAnyH_takeD 111 116 (v := ?_) (by decide +kernel) (by decide +kernel) (by decide +kernel) (by decide +kernel) (by rfl) (fun _ _ _ h => h) ?_ hHeld ?_
  rotate_left 1
  (intro o ho W hSw; simp only [List.getElem?_toArray, List.getElem?_cons_succ, List.getElem?_cons_zero, Option.some.injEq] at ho; subst ho; (try dsimp only at hSw); go_simp; try with_reducible rfl)
  (try simp only [Act.put, List.setIfInBounds_toArray, List.set_cons_zero, List.set_cons_succ])
  refine wpAnyH_takeD 112 117 (v := ?_) (by decide +kernel) (by decide +kernel) (by decide +kernel) (by decide +kernel) (by rfl) (fun _ _ _ h => h) ?_ hHeld ?_
  rotate_left 1
  (intro o ho W hSw; simp only [List.getElem?_toArray, List.getElem?_cons_succ, List.getElem?_cons_zero, Option.some.injEq] at ho; subst ho; (try dsimp only at hSw); go_simp; try with_reducible rfl)
  (try simp only [Act.put, List.setIfInBounds_toArray, List.set_cons_zero, List.set_cons_succ])
  refine wpAnyH_takeD 113 118 (v := ?_) (by decide +kernel) (by decide +kernel) (by decide +kernel) (by decide +kernel) (by rfl) (fun _ _ _ h => h) ?_ hHeld ?_
  rotate_left 1
  (intro o ho W hSw; simp only [List.getElem?_toArray, List.getElem?_cons_succ, List.getElem?_cons_zero, Option.some.injEq] at ho; subst ho; (try dsimp only at hSw); go_simp; try with_reducible rfl)
  (try simp only [Act.put, List.setIfInBounds_toArray, List.set_cons_zero, List.set_cons_succ])
  refine wpAnyH_takeD 114 119 (v := ?_) (by decide +kernel) (by decide +kernel) (by decide +kernel) (by decide +kernel) (by rfl) (fun _ _ _ h => h) ?_ hHeld ?_
  rotate_left 1
  (intro o ho W hSw; simp only [List.getElem?_toArray, List.getElem?_cons_succ, List.getElem?_cons_zero, Option.some.injEq] at ho; subst ho; (try dsimp only at hSw); go_simp; try with_reducible rfl)
  (try simp only [Act.put, List.setIfInBounds_toArray, List.set_cons_zero, List.set_cons_succ])
  refine wpAnyH_takeD 115 120 (v := ?_) (by decide +kernel) (by decide +kernel) (by decide +kernel) (by decide +kernel) (by rfl) (fun _ _ _ h => h) ?_ hHeld ?_
  rotate_left 1
  (intro o ho W hSw; simp only [List.getElem?_toArray, List.getElem?_cons_succ, List.getElem?_cons_zero, Option.some.injEq] at ho; subst ho; (try dsimp only at hSw); go_simp; try with_reducible rfl)
  (try simp only [Act.put, List.setIfInBounds_toArray, List.set_cons_zero, List.set_cons_succ])
  refine wpAnyH_takeD 117 122 (v := ?_) (by decide +kernel) (by decide +kernel) (by decide +kernel) (by decide +kernel) (by rfl) (fun _ _ _ h => h) ?_ hHeld ?_
  rotate_left 1
  (intro o ho W hSw; simp only [List.getElem?_toArray, List.getElem?_cons_succ, List.getElem?_cons_zero, Option.some.injEq] at ho; subst ho; (try dsimp only at hSw); go_simp; try with_reducible rfl)
  (try simp only [Act.put, List.setIfInBounds_toArray, List.set_cons_zero, List.set_cons_succ])
  refine wpAnyH_takeD 118 123 (v := ?_) (by decide +kernel) (by decide +kernel) (by decide +kernel) (by decide +kernel) (by rfl) (fun _ _ _ h => h) ?_ hHeld ?_
  rotate_left 1
  (intro o ho W hSw; simp only [List.getElem?_toArray, List.getElem?_cons_succ, List.getElem?_cons_zero, Option.some.injEq] at ho; subst ho; (try dsimp only at hSw); go_simp; try with_reducible rfl)
  (try simp only [Act.put, List.setIfInBounds_toArray, List.set_cons_zero, List.set_cons_succ])
  refine wpAnyH_takeD 119 124 (v := ?_) (by decide +kernel) (by decide +kernel) (by decide +kernel) (by decide +kernel) (by rfl) (fun _ _ _ h => h) ?_ hHeld ?_
  rotate_left 1
  (intro o ho W hSw; simp only [List.getElem?_toArray, List.getElem?_cons_succ, List.getElem?_cons_zero, Option.some.injEq] at ho; subst ho; (try dsimp only at hSw); go_simp; try with_reducible rfl)
  (try simp only [Act.put, List.setIfInBounds_toArray, List.set_cons_zero, List.set_cons_succ])
  refine wpAnyH_takeD 120 125 (v := ?_) (by decide +kernel) (by decide +kernel) (by decide +kernel) (by decide +kernel) (by rfl) (fun _ _ _ h => h) ?_ hHeld ?_
  rotate_left 1
  (intro o ho W hSw; simp only [List.getElem?_toArray, List.getElem?_cons_succ, List.getElem?_cons_zero, Option.some.injEq] at ho; subst ho; (try dsimp only at hSw); go_simp; try with_reducible rfl)
  (try simp only [Act.put, List.setIfInBounds_toArray, List.set_cons_zero, List.set_cons_succ])
  refine wpAnyH_onlyD 6 (by decide +kernel) (fun o ho K hK => ?_) (by decide +kernel)
  simp only [List.getElem?_toArray, List.getElem?_cons_succ, List.getElem?_cons_zero, Option.some.injEq] at ho
  subst ho
  go_simp
  refine (qplus_any qy qy _).mono ?_
  rintro e w1 ⟨rfl, h⟩
  have G1 := Lib.hid (G0.out.more h)
  have A1 := Lib.hid (A0.out.below h A0.out.lt)
  (try have B1 := Lib.hid (B0.out.below h B0.out.lt))
  have R1 := Lib.hid (R0.out.below h R0.out.lt)
  go_wp2_with fail
  refine hK.out _ _ (A1.out.h4) ?_
  clear hK K hHeld
  intro hHeld
  clear h G0 A0 R0
  (try clear B0)
  refine wpAnyH_onlyD 11 (by decide +kernel) (fun o ho K hK => ?_) (by decide +kernel)
  simp only [List.getElem?_toArray, List.getElem?_cons_succ, List.getElem?_cons_zero, Option.some.injEq] at ho
  subst ho
  go_simp
  refine (qplus_any qz qz _).mono ?_
  rintro e w2 ⟨rfl, h⟩
  have G2 := Lib.hid (G1.out.more h)
  have A2 := Lib.hid (A1.out.below h A1.out.lt)
  (try have B2 := Lib.hid (B1.out.below h B1.out.lt))
  have R2 := Lib.hid (R1.out.below h R1.out.lt)
  go_wp2_with fail
  refine hK.out _ _ (A2.out.h4) ?_
  clear hK K hHeld
  intro hHeld
  clear h G1 A1 R1
  (try clear B1)
  refine wpAnyH_onlyD 12 (by decide +kernel) (fun o ho K hK => ?_) (by decide +kernel)
  simp only [List.getElem?_toArray, List.getElem?_cons_succ, List.getElem?_cons_zero, Option.some.injEq] at ho
  subst ho
  go_simp
  refine hK.out _ _ ((A2.out.alloc _).h4) ?_
  clear hK K hHeld
  intro hHeld
  have A3 := Lib.hid (A2.out.alloc (.cells #[.int .i64 qy, .int .i64 qy, .bool false, .int .i64 qz, .int .i64 qz, .bool false] 63))
  (try have B3 := Lib.hid (B2.out.alloc (.cells #[.int .i64 qy, .int .i64 qy, .bool false, .int .i64 qz, .int .i64 qz, .bool false] 63)))
  have R3 := Lib.hid (R2.out.alloc (.cells #[.int .i64 qy, .int .i64 qy, .bool false, .int .i64 qz, .int .i64 qz, .bool false] 63))
  have G3 := Lib.hid (G2.out.more ((Below.refl _ _).alloc (Nat.le_refl _) (.cells #[.int .i64 qy, .int .i64 qy, .bool false, .int .i64 qz, .int .i64 qz, .bool false] 63)))
  have TT := Lib.hid (TW.new2 w2 _ qy qy qz qz false false 63 rfl)
  have hne : b ≠ w2.heap.size := by have := G2.out.lt; have := G2.out.f.size; omega

  clear G2 A2 R2
  (try clear B2)
  generalize w2.alloc (.cells #[.int .i64 qy, .int .i64 qy, .bool false, .int .i64 qz, .int .i64 qz, .bool false] 63) = w3 at *
  generalize w2.heap.size = n3 at *
  refine wpAnyH_onlyD 13 (by decide +kernel) (fun o ho K hK => ?_) (by decide +kernel)
  simp only [List.getElem?_toArray, List.getElem?_cons_succ, List.getElem?_cons_zero, Option.some.injEq] at ho
  subst ho
  go_simp
  refine (C0.out _ _ _ TT.out hne G3.out.m).mono ?_
  rintro e w4 ⟨rfl, h⟩
  have G4 := Lib.hid (G3.out.fx h)
  have A4 := Lib.hid (A3.out.fx h (by have := G3.out.lt; omega))
  (try have B4 := Lib.hid (B3.out.fx h (by have := G3.out.lt; omega)))
  (try have R4 := Lib.hid (R3.out.fx h (by have := G3.out.lt; omega)))
  (try have P4 := Lib.hid (P3.out.fx h))
  (try have I4 := Lib.hid (I3.out.fx h hbi))
  go_wp2_with fail
  refine hK.out _ _ (A4.out.h4) ?_
  clear hK K hHeld
  intro hHeld
  clear h G3 A3
  (try clear B3)
  (try clear R3)
  (try clear P3)
  (try clear I3)
  clear TT hne C0
  refine wpAnyH_onlyD 14 (by decide +kernel) (fun o ho K hK => ?_) (by decide +kernel)
  simp only [List.getElem?_toArray, List.getElem?_cons_succ, List.getElem?_cons_zero, Option.some.injEq] at ho
  subst ho
  go_simp
  refine (D0.out _ _ G4.out.m).mono ?_
  rintro e w5 ⟨rfl, h⟩
  have G5 := Lib.hid (G4.out.fx h)
  have A5 := Lib.hid (A4.out.fx h (by have := G4.out.lt; omega))
  (try have B5 := Lib.hid (B4.out.fx h (by have := G4.out.lt; omega)))
  (try have R5 := Lib.hid (R4.out.fx h (by have := G4.out.lt; omega)))
  (try have P5 := Lib.hid (P4.out.fx h))
  (try have I5 := Lib.hid (I4.out.fx h hbi))
  go_wp2_with fail
  refine hK.out _ _ (A5.out.h4) ?_
  clear hK K hHeld
  intro hHeld
  clear h G4 A4
  (try clear B4)
  (try clear R4)
  (try clear P4)
  (try clear I4)
  clear D0
  refine wpAnyH_onlyD 20 (by decide +kernel) (fun o ho K hK => ?_) (by decide +kernel)
  simp only [List.getElem?_toArray, List.getElem?_cons_succ, List.getElem?_cons_zero, Option.some.injEq] at ho
  subst ho
  go_simp
  refine (qplus_any qx qy _).mono ?_
  rintro e w6 ⟨rfl, h⟩
  have G6 := Lib.hid (G5.out.more h)
  have A6 := Lib.hid (A5.out.below h A5.out.lt)
  (try have B6 := Lib.hid (B5.out.below h B5.out.lt))
  have R6 := Lib.hid (R5.out.below h R5.out.lt)
  go_wp2_with fail
  refine hK.out _ _ (A6.out.h4) ?_
  clear hK K hHeld
  intro hHeld
  clear h G5 A5 R5
  (try clear B5)
  refine wpAnyH_onlyD 25 (by decide +kernel) (fun o ho K hK => ?_) (by decide +kernel)
  simp only [List.getElem?_toArray, List.getElem?_cons_succ, List.getElem?_cons_zero, Option.some.injEq] at ho
  subst ho
  go_simp
  refine (qless_any qw qz _).mono ?_
  rintro e w7 ⟨rfl, h⟩
  have G7 := Lib.hid (G6.out.more h)
  have A7 := Lib.hid (A6.out.below h A6.out.lt)
  (try have B7 := Lib.hid (B6.out.below h B6.out.lt))
  have R7 := Lib.hid (R6.out.below h R6.out.lt)
  go_wp2_with fail
  refine hK.out _ _ (A7.out.h4) ?_
  clear hK K hHeld
  intro hHeld
  clear h G6 A6 R6
  (try clear B6)
  refine wpAnyH_onlyD 26 (by decide +kernel) (fun o ho K hK => ?_) (by decide +kernel)
  simp only [List.getElem?_toArray, List.getElem?_cons_succ, List.getElem?_cons_zero, Option.some.injEq] at ho
  subst ho
  go_simp
  refine hK.out _ _ ((A7.out.alloc _).h4) ?_
  clear hK K hHeld
  intro hHeld
  have A8 := Lib.hid (A7.out.alloc (.cells #[.int .i64 qx, .int .i64 qy, .bool false, .int .i64 qw, .int .i64 qz, .bool true] 63))
  (try have B8 := Lib.hid (B7.out.alloc (.cells #[.int .i64 qx, .int .i64 qy, .bool false, .int .i64 qw, .int .i64 qz, .bool true] 63)))
  have R8 := Lib.hid (R7.out.alloc (.cells #[.int .i64 qx, .int .i64 qy, .bool false, .int .i64 qw, .int .i64 qz, .bool true] 63))
  have G8 := Lib.hid (G7.out.more ((Below.refl _ _).alloc (Nat.le_refl _) (.cells #[.int .i64 qx, .int .i64 qy, .bool false, .int .i64 qw, .int .i64 qz, .bool true] 63)))
  have TT := Lib.hid (TW.new2 w7 _ qx qy qw qz false true 63 rfl)
  have hne : b ≠ w7.heap.size := by have := G7.out.lt; have := G7.out.f.size; omega

  clear G7 A7 R7
  (try clear B7)
  generalize w7.alloc (.cells #[.int .i64 qx, .int .i64 qy, .bool false, .int .i64 qw, .int .i64 qz, .bool true] 63) = w8 at *
  generalize w7.heap.size = n8 at *
  refine wpAnyH_onlyD 27 (by decide +kernel) (fun o ho K hK => ?_) (by decide +kernel)
  simp only [List.getElem?_toArray, List.getElem?_cons_succ, List.getElem?_cons_zero, Option.some.injEq] at ho
  subst ho
  go_simp
  refine (C1.out _ _ _ TT.out hne G8.out.m).mono ?_
  rintro e w9 ⟨rfl, h⟩
  have G9 := Lib.hid (G8.out.fx h)
  have A9 := Lib.hid (A8.out.fx h (by have := G8.out.lt; omega))
  (try have B9 := Lib.hid (B8.out.fx h (by have := G8.out.lt; omega)))
  (try have R9 := Lib.hid (R8.out.fx h (by have := G8.out.lt; omega)))
  (try have P9 := Lib.hid (P8.out.fx h))
  (try have I9 := Lib.hid (I8.out.fx h hbi))
  go_wp2_with fail
  refine hK.out _ _ (A9.out.h4) ?_
  clear hK K hHeld
  intro hHeld
  clear h G8 A8
  (try clear B8)
  (try clear R8)
  (try clear P8)
  (try clear I8)
  clear TT hne C1
  refine wpAnyH_onlyD 33 (by decide +kernel) (fun o ho K hK => ?_) (by decide +kernel)
  simp only [List.getElem?_toArray, List.getElem?_cons_succ, List.getElem?_cons_zero, Option.some.injEq] at ho
  subst ho
  go_simp
  refine (qplus_any qx qz _).mono ?_
  rintro e w10 ⟨rfl, h⟩
  have G10 := Lib.hid (G9.out.more h)
  have A10 := Lib.hid (A9.out.below h A9.out.lt)
  (try have B10 := Lib.hid (B9.out.below h B9.out.lt))
  have R10 := Lib.hid (R9.out.below h R9.out.lt)
  go_wp2_with fail
  refine hK.out _ _ (A10.out.h4) ?_
  clear hK K hHeld
  intro hHeld
  clear h G9 A9 R9
  (try clear B9)
  refine wpAnyH_onlyD 38 (by decide +kernel) (fun o ho K hK => ?_) (by decide +kernel)
  simp only [List.getElem?_toArray, List.getElem?_cons_succ, List.getElem?_cons_zero, Option.some.injEq] at ho
  subst ho
  go_simp
  refine (qplus_any qw qy _).mono ?_
  rintro e w11 ⟨rfl, h⟩
  have G11 := Lib.hid (G10.out.more h)
  have A11 := Lib.hid (A10.out.below h A10.out.lt)
  (try have B11 := Lib.hid (B10.out.below h B10.out.lt))
  have R11 := Lib.hid (R10.out.below h R10.out.lt)
  go_wp2_with fail
  refine hK.out _ _ (A11.out.h4) ?_
  clear hK K hHeld
  intro hHeld
  clear h G10 A10 R10
  (try clear B10)
  refine wpAnyH_onlyD 39 (by decide +kernel) (fun o ho K hK => ?_) (by decide +kernel)
  simp only [List.getElem?_toArray, List.getElem?_cons_succ, List.getElem?_cons_zero, Option.some.injEq] at ho
  subst ho
  go_simp
  refine hK.out _ _ ((A11.out.alloc _).h4) ?_
  clear hK K hHeld
  intro hHeld
  have A12 := Lib.hid (A11.out.alloc (.cells #[.int .i64 qx, .int .i64 qz, .bool false, .int .i64 qw, .int .i64 qy, .bool false] 63))
  (try have B12 := Lib.hid (B11.out.alloc (.cells #[.int .i64 qx, .int .i64 qz, .bool false, .int .i64 qw, .int .i64 qy, .bool false] 63)))
  have R12 := Lib.hid (R11.out.alloc (.cells #[.int .i64 qx, .int .i64 qz, .bool false, .int .i64 qw, .int .i64 qy, .bool false] 63))
  have G12 := Lib.hid (G11.out.more ((Below.refl _ _).alloc (Nat.le_refl _) (.cells #[.int .i64 qx, .int .i64 qz, .bool false, .int .i64 qw, .int .i64 qy, .bool false] 63)))
  have TT := Lib.hid (TW.new2 w11 _ qx qz qw qy false false 63 rfl)
  have hne : b ≠ w11.heap.size := by have := G11.out.lt; have := G11.out.f.size; omega

  clear G11 A11 R11
  (try clear B11)
  generalize w11.alloc (.cells #[.int .i64 qx, .int .i64 qz, .bool false, .int .i64 qw, .int .i64 qy, .bool false] 63) = w12 at *
  generalize w11.heap.size = n12 at *
  refine wpAnyH_onlyD 40 (by decide +kernel) (fun o ho K hK => ?_) (by decide +kernel)
  simp only [List.getElem?_toArray, List.getElem?_cons_succ, List.getElem?_cons_zero, Option.some.injEq] at ho
  subst ho
  go_simp
  refine (C2.out _ _ _ TT.out hne G12.out.m).mono ?_
  rintro e w13 ⟨rfl, h⟩
  have G13 := Lib.hid (G12.out.fx h)
  have A13 := Lib.hid (A12.out.fx h (by have := G12.out.lt; omega))
  (try have B13 := Lib.hid (B12.out.fx h (by have := G12.out.lt; omega)))
  (try have R13 := Lib.hid (R12.out.fx h (by have := G12.out.lt; omega)))
  (try have P13 := Lib.hid (P12.out.fx h))
  (try have I13 := Lib.hid (I12.out.fx h hbi))
  go_wp2_with fail
  refine hK.out _ _ (A13.out.h4) ?_
  clear hK K hHeld
  intro hHeld
  clear h G12 A12
  (try clear B12)
  (try clear R12)
  (try clear P12)
  (try clear I12)
  clear TT hne C2
  refine wpAnyH_takeD 41 46 (v := ?_) (by decide +kernel) (by decide +kernel) (by decide +kernel) (by decide +kernel) (by rfl) (fun _ _ _ h => h) ?_ hHeld ?_
  rotate_left 1
  (intro o ho W hSw; simp only [List.getElem?_toArray, List.getElem?_cons_succ, List.getElem?_cons_zero, Option.some.injEq] at ho; subst ho; (try dsimp only at hSw); go_simp; try with_reducible rfl)
  (try simp only [Act.put, List.setIfInBounds_toArray, List.set_cons_zero, List.set_cons_succ])
  refine wpAnyH_onlyD 47 (by decide +kernel) (fun o ho K hK => ?_) (by decide +kernel)
  simp only [List.getElem?_toArray, List.getElem?_cons_succ, List.getElem?_cons_zero, Option.some.injEq] at ho
  subst ho
  go_simp
  refine (qplus_any qx qy _).mono ?_
  rintro e w14 ⟨rfl, h⟩
  have G14 := Lib.hid (G13.out.more h)
  have A14 := Lib.hid (A13.out.below h A13.out.lt)
  (try have B14 := Lib.hid (B13.out.below h B13.out.lt))
  have R14 := Lib.hid (R13.out.below h R13.out.lt)
  go_wp2_with fail
  refine hK.out _ _ (A14.out.h4) ?_
  clear hK K hHeld
  intro hHeld
  clear h G13 A13 R13
  (try clear B13)
  refine wpAnyH_onlyD 52 (by decide +kernel) (fun o ho K hK => ?_) (by decide +kernel)
  simp only [List.getElem?_toArray, List.getElem?_cons_succ, List.getElem?_cons_zero, Option.some.injEq] at ho
  subst ho
  go_simp
  refine (qplus_any qw qz _).mono ?_
  rintro e w15 ⟨rfl, h⟩
  have G15 := Lib.hid (G14.out.more h)
  have A15 := Lib.hid (A14.out.below h A14.out.lt)
  (try have B15 := Lib.hid (B14.out.below h B14.out.lt))
  have R15 := Lib.hid (R14.out.below h R14.out.lt)
  go_wp2_with fail
  refine hK.out _ _ (A15.out.h4) ?_
  clear hK K hHeld
  intro hHeld
  clear h G14 A14 R14
  (try clear B14)
  refine wpAnyH_onlyD 53 (by decide +kernel) (fun o ho K hK => ?_) (by decide +kernel)
  simp only [List.getElem?_toArray, List.getElem?_cons_succ, List.getElem?_cons_zero, Option.some.injEq] at ho
  subst ho
  go_simp
  refine hK.out _ _ ((A15.out.alloc _).h4) ?_
  clear hK K hHeld
  intro hHeld
  have A16 := Lib.hid (A15.out.alloc (.cells #[.int .i64 qx, .int .i64 qy, .bool false, .int .i64 qw, .int .i64 qz, .bool false] 63))
  (try have B16 := Lib.hid (B15.out.alloc (.cells #[.int .i64 qx, .int .i64 qy, .bool false, .int .i64 qw, .int .i64 qz, .bool false] 63)))
  have R16 := Lib.hid (R15.out.alloc (.cells #[.int .i64 qx, .int .i64 qy, .bool false, .int .i64 qw, .int .i64 qz, .bool false] 63))
  have G16 := Lib.hid (G15.out.more ((Below.refl _ _).alloc (Nat.le_refl _) (.cells #[.int .i64 qx, .int .i64 qy, .bool false, .int .i64 qw, .int .i64 qz, .bool false] 63)))
  have TT := Lib.hid (TW.new2 w15 _ qx qy qw qz false false 63 rfl)
  have hne : b ≠ w15.heap.size := by have := G15.out.lt; have := G15.out.f.size; omega

  clear G15 A15 R15
  (try clear B15)
  generalize w15.alloc (.cells #[.int .i64 qx, .int .i64 qy, .bool false, .int .i64 qw, .int .i64 qz, .bool false] 63) = w16 at *
  generalize w15.heap.size = n16 at *
  refine wpAnyH_onlyD 54 (by decide +kernel) (fun o ho K hK => ?_) (by decide +kernel)
  simp only [List.getElem?_toArray, List.getElem?_cons_succ, List.getElem?_cons_zero, Option.some.injEq] at ho
  subst ho
  go_simp
  refine (C3.out _ _ _ TT.out hne G16.out.m).mono ?_
  rintro e w17 ⟨rfl, h⟩
  have G17 := Lib.hid (G16.out.fx h)
  have A17 := Lib.hid (A16.out.fx h (by have := G16.out.lt; omega))
  (try have B17 := Lib.hid (B16.out.fx h (by have := G16.out.lt; omega)))
  (try have R17 := Lib.hid (R16.out.fx h (by have := G16.out.lt; omega)))
  (try have P17 := Lib.hid (P16.out.fx h))
  (try have I17 := Lib.hid (I16.out.fx h hbi))
  go_wp2_with fail
  refine hK.out _ _ (A17.out.h4) ?_
  clear hK K hHeld
  intro hHeld
  clear h G16 A16
  (try clear B16)
  (try clear R16)
  (try clear P16)
  (try clear I16)
  clear TT hne C3
  refine wpAnyH_onlyD 61 (by decide +kernel) (fun o ho K hK => ?_) (by decide +kernel)
  simp only [List.getElem?_toArray, List.getElem?_cons_succ, List.getElem?_cons_zero, Option.some.injEq] at ho
  subst ho
  go_simp
  refine (qplus_any qx qx _).mono ?_
  rintro e w18 ⟨rfl, h⟩
  have G18 := Lib.hid (G17.out.more h)
  have A18 := Lib.hid (A17.out.below h A17.out.lt)
  (try have B18 := Lib.hid (B17.out.below h B17.out.lt))
  have R18 := Lib.hid (R17.out.below h R17.out.lt)
  go_wp2_with fail
  refine hK.out _ _ (A18.out.h4) ?_
  clear hK K hHeld
  intro hHeld
  clear h G17 A17 R17
  (try clear B17)
  refine wpAnyH_onlyD 66 (by decide +kernel) (fun o ho K hK => ?_) (by decide +kernel)
  simp only [List.getElem?_toArray, List.getElem?_cons_succ, List.getElem?_cons_zero, Option.some.injEq] at ho
  subst ho
  go_simp
  refine (qplus_any qz qz _).mono ?_
  rintro e w19 ⟨rfl, h⟩
  have G19 := Lib.hid (G18.out.more h)
  have A19 := Lib.hid (A18.out.below h A18.out.lt)
  (try have B19 := Lib.hid (B18.out.below h B18.out.lt))
  have R19 := Lib.hid (R18.out.below h R18.out.lt)
  go_wp2_with fail
  refine hK.out _ _ (A19.out.h4) ?_
  clear hK K hHeld
  intro hHeld
  clear h G18 A18 R18
  (try clear B18)
  refine wpAnyH_onlyD 67 (by decide +kernel) (fun o ho K hK => ?_) (by decide +kernel)
  simp only [List.getElem?_toArray, List.getElem?_cons_succ, List.getElem?_cons_zero, Option.some.injEq] at ho
  subst ho
  go_simp
  refine hK.out _ _ ((A19.out.alloc _).h4) ?_
  clear hK K hHeld
  intro hHeld
  have A20 := Lib.hid (A19.out.alloc (.cells #[.int .i64 qx, .int .i64 qx, .bool false, .int .i64 qz, .int .i64 qz, .bool false] 63))
  (try have B20 := Lib.hid (B19.out.alloc (.cells #[.int .i64 qx, .int .i64 qx, .bool false, .int .i64 qz, .int .i64 qz, .bool false] 63)))
  have R20 := Lib.hid (R19.out.alloc (.cells #[.int .i64 qx, .int .i64 qx, .bool false, .int .i64 qz, .int .i64 qz, .bool false] 63))
  have G20 := Lib.hid (G19.out.more ((Below.refl _ _).alloc (Nat.le_refl _) (.cells #[.int .i64 qx, .int .i64 qx, .bool false, .int .i64 qz, .int .i64 qz, .bool false] 63)))
  have TT := Lib.hid (TW.new2 w19 _ qx qx qz qz false false 63 rfl)
  have hne : b ≠ w19.heap.size := by have := G19.out.lt; have := G19.out.f.size; omega

  clear G19 A19 R19
  (try clear B19)
  generalize w19.alloc (.cells #[.int .i64 qx, .int .i64 qx, .bool false, .int .i64 qz, .int .i64 qz, .bool false] 63) = w20 at *
  generalize w19.heap.size = n20 at *
  refine wpAnyH_onlyD 68 (by decide +kernel) (fun o ho K hK => ?_) (by decide +kernel)
  simp only [List.getElem?_toArray, List.getElem?_cons_succ, List.getElem?_cons_zero, Option.some.injEq] at ho
  subst ho
  go_simp
  refine (C4.out _ _ _ TT.out hne G20.out.m).mono ?_
  rintro e w21 ⟨rfl, h⟩
  have G21 := Lib.hid (G20.out.fx h)
  have A21 := Lib.hid (A20.out.fx h (by have := G20.out.lt; omega))
  (try have B21 := Lib.hid (B20.out.fx h (by have := G20.out.lt; omega)))
  (try have R21 := Lib.hid (R20.out.fx h (by have := G20.out.lt; omega)))
  (try have P21 := Lib.hid (P20.out.fx h))
  (try have I21 := Lib.hid (I20.out.fx h hbi))
  go_wp2_with fail
  refine hK.out _ _ (A21.out.h4) ?_
  clear hK K hHeld
  intro hHeld
  clear h G20 A20
  (try clear B20)
  (try clear R20)
  (try clear P20)
  (try clear I20)
  clear TT hne C4
  refine wpAnyH_onlyD 69 (by decide +kernel) (fun o ho K hK => ?_) (by decide +kernel)
  simp only [List.getElem?_toArray, List.getElem?_cons_succ, List.getElem?_cons_zero, Option.some.injEq] at ho
  subst ho
  go_simp
  refine (D4.out _ _ G21.out.m).mono ?_
  rintro e w22 ⟨rfl, h⟩
  have G22 := Lib.hid (G21.out.fx h)
  have A22 := Lib.hid (A21.out.fx h (by have := G21.out.lt; omega))
  (try have B22 := Lib.hid (B21.out.fx h (by have := G21.out.lt; omega)))
  (try have R22 := Lib.hid (R21.out.fx h (by have := G21.out.lt; omega)))
  (try have P22 := Lib.hid (P21.out.fx h))
  (try have I22 := Lib.hid (I21.out.fx h hbi))
  go_wp2_with fail
  refine hK.out _ _ (A22.out.h4) ?_
  clear hK K hHeld
  intro hHeld
  clear h G21 A21
  (try clear B21)
  (try clear R21)
  (try clear P21)
  (try clear I21)
  clear D4
  refine wpAnyH_onlyD 75 (by decide +kernel) (fun o ho K hK => ?_) (by decide +kernel)
  simp only [List.getElem?_toArray, List.getElem?_cons_succ, List.getElem?_cons_zero, Option.some.injEq] at ho
  subst ho
  go_simp
  refine (qplus_any qy qz _).mono ?_
  rintro e w23 ⟨rfl, h⟩
  have G23 := Lib.hid (G22.out.more h)
  have A23 := Lib.hid (A22.out.below h A22.out.lt)
  (try have B23 := Lib.hid (B22.out.below h B22.out.lt))
  have R23 := Lib.hid (R22.out.below h R22.out.lt)
  go_wp2_with fail
  refine hK.out _ _ (A23.out.h4) ?_
  clear hK K hHeld
  intro hHeld
  clear h G22 A22 R22
  (try clear B22)
  refine wpAnyH_onlyD 80 (by decide +kernel) (fun o ho K hK => ?_) (by decide +kernel)
  simp only [List.getElem?_toArray, List.getElem?_cons_succ, List.getElem?_cons_zero, Option.some.injEq] at ho
  subst ho
  go_simp
  refine (qless_any qw qx _).mono ?_
  rintro e w24 ⟨rfl, h⟩
  have G24 := Lib.hid (G23.out.more h)
  have A24 := Lib.hid (A23.out.below h A23.out.lt)
  (try have B24 := Lib.hid (B23.out.below h B23.out.lt))
  have R24 := Lib.hid (R23.out.below h R23.out.lt)
  go_wp2_with fail
  refine hK.out _ _ (A24.out.h4) ?_
  clear hK K hHeld
  intro hHeld
  clear h G23 A23 R23
  (try clear B23)
  refine wpAnyH_onlyD 81 (by decide +kernel) (fun o ho K hK => ?_) (by decide +kernel)
  simp only [List.getElem?_toArray, List.getElem?_cons_succ, List.getElem?_cons_zero, Option.some.injEq] at ho
  subst ho
  go_simp
  refine hK.out _ _ ((A24.out.alloc _).h4) ?_
  clear hK K hHeld
  intro hHeld
  have A25 := Lib.hid (A24.out.alloc (.cells #[.int .i64 qy, .int .i64 qz, .bool false, .int .i64 qw, .int .i64 qx, .bool true] 63))
  (try have B25 := Lib.hid (B24.out.alloc (.cells #[.int .i64 qy, .int .i64 qz, .bool false, .int .i64 qw, .int .i64 qx, .bool true] 63)))
  have R25 := Lib.hid (R24.out.alloc (.cells #[.int .i64 qy, .int .i64 qz, .bool false, .int .i64 qw, .int .i64 qx, .bool true] 63))
  have G25 := Lib.hid (G24.out.more ((Below.refl _ _).alloc (Nat.le_refl _) (.cells #[.int .i64 qy, .int .i64 qz, .bool false, .int .i64 qw, .int .i64 qx, .bool true] 63)))
  have TT := Lib.hid (TW.new2 w24 _ qy qz qw qx false true 63 rfl)
  have hne : b ≠ w24.heap.size := by have := G24.out.lt; have := G24.out.f.size; omega

  clear G24 A24 R24
  (try clear B24)
  generalize w24.alloc (.cells #[.int .i64 qy, .int .i64 qz, .bool false, .int .i64 qw, .int .i64 qx, .bool true] 63) = w25 at *
  generalize w24.heap.size = n25 at *
  refine wpAnyH_onlyD 82 (by decide +kernel) (fun o ho K hK => ?_) (by decide +kernel)
  simp only [List.getElem?_toArray, List.getElem?_cons_succ, List.getElem?_cons_zero, Option.some.injEq] at ho
  subst ho
  go_simp
  refine (C5.out _ _ _ TT.out hne G25.out.m).mono ?_
  rintro e w26 ⟨rfl, h⟩
  have G26 := Lib.hid (G25.out.fx h)
  have A26 := Lib.hid (A25.out.fx h (by have := G25.out.lt; omega))
  (try have B26 := Lib.hid (B25.out.fx h (by have := G25.out.lt; omega)))
  (try have R26 := Lib.hid (R25.out.fx h (by have := G25.out.lt; omega)))
  (try have P26 := Lib.hid (P25.out.fx h))
  (try have I26 := Lib.hid (I25.out.fx h hbi))
  go_wp2_with fail
  refine hK.out _ _ (A26.out.h4) ?_
  clear hK K hHeld
  intro hHeld
  clear h G25 A25
  (try clear B25)
  (try clear R25)
  (try clear P25)
  (try clear I25)
  clear TT hne C5
  refine wpAnyH_takeD 83 88 (v := ?_) (by decide +kernel) (by decide +kernel) (by decide +kernel) (by decide +kernel) (by rfl) (fun _ _ _ h => h) ?_ hHeld ?_
  rotate_left 1
  (intro o ho W hSw; simp only [List.getElem?_toArray, List.getElem?_cons_succ, List.getElem?_cons_zero, Option.some.injEq] at ho; subst ho; (try dsimp only at hSw); go_simp; try with_reducible rfl)
  (try simp only [Act.put, List.setIfInBounds_toArray, List.set_cons_zero, List.set_cons_succ])
  refine wpAnyH_onlyD 89 (by decide +kernel) (fun o ho K hK => ?_) (by decide +kernel)
  simp only [List.getElem?_toArray, List.getElem?_cons_succ, List.getElem?_cons_zero, Option.some.injEq] at ho
  subst ho
  go_simp
  refine (qplus_any qx qz _).mono ?_
  rintro e w27 ⟨rfl, h⟩
  have G27 := Lib.hid (G26.out.more h)
  have A27 := Lib.hid (A26.out.below h A26.out.lt)
  (try have B27 := Lib.hid (B26.out.below h B26.out.lt))
  have R27 := Lib.hid (R26.out.below h R26.out.lt)
  go_wp2_with fail
  refine hK.out _ _ (A27.out.h4) ?_
  clear hK K hHeld
  intro hHeld
  clear h G26 A26 R26
  (try clear B26)
  refine wpAnyH_onlyD 94 (by decide +kernel) (fun o ho K hK => ?_) (by decide +kernel)
  simp only [List.getElem?_toArray, List.getElem?_cons_succ, List.getElem?_cons_zero, Option.some.injEq] at ho
  subst ho
  go_simp
  refine (qless_any qw qy _).mono ?_
  rintro e w28 ⟨rfl, h⟩
  have G28 := Lib.hid (G27.out.more h)
  have A28 := Lib.hid (A27.out.below h A27.out.lt)
  (try have B28 := Lib.hid (B27.out.below h B27.out.lt))
  have R28 := Lib.hid (R27.out.below h R27.out.lt)
  go_wp2_with fail
  refine hK.out _ _ (A28.out.h4) ?_
  clear hK K hHeld
  intro hHeld
  clear h G27 A27 R27
  (try clear B27)
  refine wpAnyH_onlyD 95 (by decide +kernel) (fun o ho K hK => ?_) (by decide +kernel)
  simp only [List.getElem?_toArray, List.getElem?_cons_succ, List.getElem?_cons_zero, Option.some.injEq] at ho
  subst ho
  go_simp
  refine hK.out _ _ ((A28.out.alloc _).h4) ?_
  clear hK K hHeld
  intro hHeld
  have A29 := Lib.hid (A28.out.alloc (.cells #[.int .i64 qx, .int .i64 qz, .bool false, .int .i64 qw, .int .i64 qy, .bool true] 63))
  (try have B29 := Lib.hid (B28.out.alloc (.cells #[.int .i64 qx, .int .i64 qz, .bool false, .int .i64 qw, .int .i64 qy, .bool true] 63)))
  have R29 := Lib.hid (R28.out.alloc (.cells #[.int .i64 qx, .int .i64 qz, .bool false, .int .i64 qw, .int .i64 qy, .bool true] 63))
  have G29 := Lib.hid (G28.out.more ((Below.refl _ _).alloc (Nat.le_refl _) (.cells #[.int .i64 qx, .int .i64 qz, .bool false, .int .i64 qw, .int .i64 qy, .bool true] 63)))
  have TT := Lib.hid (TW.new2 w28 _ qx qz qw qy false true 63 rfl)
  have hne : b ≠ w28.heap.size := by have := G28.out.lt; have := G28.out.f.size; omega

  clear G28 A28 R28
  (try clear B28)
  generalize w28.alloc (.cells #[.int .i64 qx, .int .i64 qz, .bool false, .int .i64 qw, .int .i64 qy, .bool true] 63) = w29 at *
  generalize w28.heap.size = n29 at *
  refine wpAnyH_onlyD 96 (by decide +kernel) (fun o ho K hK => ?_) (by decide +kernel)
  simp only [List.getElem?_toArray, List.getElem?_cons_succ, List.getElem?_cons_zero, Option.some.injEq] at ho
  subst ho
  go_simp
  refine (C6.out _ _ _ TT.out hne G29.out.m).mono ?_
  rintro e w30 ⟨rfl, h⟩
  have G30 := Lib.hid (G29.out.fx h)
  have A30 := Lib.hid (A29.out.fx h (by have := G29.out.lt; omega))
  (try have B30 := Lib.hid (B29.out.fx h (by have := G29.out.lt; omega)))
  (try have R30 := Lib.hid (R29.out.fx h (by have := G29.out.lt; omega)))
  (try have P30 := Lib.hid (P29.out.fx h))
  (try have I30 := Lib.hid (I29.out.fx h hbi))
  go_wp2_with fail
  refine hK.out _ _ (A30.out.h4) ?_
  clear hK K hHeld
  intro hHeld
  clear h G29 A29
  (try clear B29)
  (try clear R29)
  (try clear P29)
  (try clear I29)
  clear TT hne C6
  refine wpAnyH_onlyD 102 (by decide +kernel) (fun o ho K hK => ?_) (by decide +kernel)
  simp only [List.getElem?_toArray, List.getElem?_cons_succ, List.getElem?_cons_zero, Option.some.injEq] at ho
  subst ho
  go_simp
  refine (qplus_any qy qz _).mono ?_
  rintro e w31 ⟨rfl, h⟩
  have G31 := Lib.hid (G30.out.more h)
  have A31 := Lib.hid (A30.out.below h A30.out.lt)
  (try have B31 := Lib.hid (B30.out.below h B30.out.lt))
  have R31 := Lib.hid (R30.out.below h R30.out.lt)
  go_wp2_with fail
  refine hK.out _ _ (A31.out.h4) ?_
  clear hK K hHeld
  intro hHeld
  clear h G30 A30 R30
  (try clear B30)
  refine wpAnyH_onlyD 107 (by decide +kernel) (fun o ho K hK => ?_) (by decide +kernel)
  simp only [List.getElem?_toArray, List.getElem?_cons_succ, List.getElem?_cons_zero, Option.some.injEq] at ho
  subst ho
  go_simp
  refine (qplus_any qw qx _).mono ?_
  rintro e w32 ⟨rfl, h⟩
  have G32 := Lib.hid (G31.out.more h)
  have A32 := Lib.hid (A31.out.below h A31.out.lt)
  (try have B32 := Lib.hid (B31.out.below h B31.out.lt))
  have R32 := Lib.hid (R31.out.below h R31.out.lt)
  go_wp2_with fail
  refine hK.out _ _ (A32.out.h4) ?_
  clear hK K hHeld
  intro hHeld
  clear h G31 A31 R31
  (try clear B31)
  refine wpAnyH_onlyD 108 (by decide +kernel) (fun o ho K hK => ?_) (by decide +kernel)
  simp only [List.getElem?_toArray, List.getElem?_cons_succ, List.getElem?_cons_zero, Option.some.injEq] at ho
  subst ho
  go_simp
  refine hK.out _ _ ((A32.out.alloc _).h4) ?_
  clear hK K hHeld
  intro hHeld
  have A33 := Lib.hid (A32.out.alloc (.cells #[.int .i64 qy, .int .i64 qz, .bool false, .int .i64 qw, .int .i64 qx, .bool false] 63))
  (try have B33 := Lib.hid (B32.out.alloc (.cells #[.int .i64 qy, .int .i64 qz, .bool false, .int .i64 qw, .int .i64 qx, .bool false] 63)))
  have R33 := Lib.hid (R32.out.alloc (.cells #[.int .i64 qy, .int .i64 qz, .bool false, .int .i64 qw, .int .i64 qx, .bool false] 63))
  have G33 := Lib.hid (G32.out.more ((Below.refl _ _).alloc (Nat.le_refl _) (.cells #[.int .i64 qy, .int .i64 qz, .bool false, .int .i64 qw, .int .i64 qx, .bool false] 63)))
  have TT := Lib.hid (TW.new2 w32 _ qy qz qw qx false false 63 rfl)
  have hne : b ≠ w32.heap.size := by have := G32.out.lt; have := G32.out.f.size; omega

  clear G32 A32 R32
  (try clear B32)
  generalize w32.alloc (.cells #[.int .i64 qy, .int .i64 qz, .bool false, .int .i64 qw, .int .i64 qx, .bool false] 63) = w33 at *
  generalize w32.heap.size = n33 at *
  refine wpAnyH_onlyD 109 (by decide +kernel) (fun o ho K hK => ?_) (by decide +kernel)
  simp only [List.getElem?_toArray, List.getElem?_cons_succ, List.getElem?_cons_zero, Option.some.injEq] at ho
  subst ho
  go_simp
  refine (C7.out _ _ _ TT.out hne G33.out.m).mono ?_
  rintro e w34 ⟨rfl, h⟩
  have G34 := Lib.hid (G33.out.fx h)
  have A34 := Lib.hid (A33.out.fx h (by have := G33.out.lt; omega))
  (try have B34 := Lib.hid (B33.out.fx h (by have := G33.out.lt; omega)))
  (try have R34 := Lib.hid (R33.out.fx h (by have := G33.out.lt; omega)))
  (try have P34 := Lib.hid (P33.out.fx h))
  (try have I34 := Lib.hid (I33.out.fx h hbi))
  go_wp2_with fail
  refine hK.out _ _ (A34.out.h4) ?_
  clear hK K hHeld
  intro hHeld
  clear h G33 A33
  (try clear B33)
  (try clear R33)
  (try clear P33)
  (try clear I33)
  clear TT hne C7
  refine wpAnyH_onlyD 116 (by decide +kernel) (fun o ho K hK => ?_) (by decide +kernel)
  simp only [List.getElem?_toArray, List.getElem?_cons_succ, List.getElem?_cons_zero, Option.some.injEq] at ho
  subst ho
  go_simp
  refine (qplus_any qx qx _).mono ?_
  rintro e w35 ⟨rfl, h⟩
  have G35 := Lib.hid (G34.out.more h)
  have A35 := Lib.hid (A34.out.below h A34.out.lt)
  (try have B35 := Lib.hid (B34.out.below h B34.out.lt))
  have R35 := Lib.hid (R34.out.below h R34.out.lt)
  go_wp2_with fail
  refine hK.out _ _ (A35.out.h4) ?_
  clear hK K hHeld
  intro hHeld
  clear h G34 A34 R34
  (try clear B34)
  refine wpAnyH_onlyD 121 (by decide +kernel) (fun o ho K hK => ?_) (by decide +kernel)
  simp only [List.getElem?_toArray, List.getElem?_cons_succ, List.getElem?_cons_zero, Option.some.injEq] at ho
  subst ho
  go_simp
  refine (qplus_any qy qy _).mono ?_
  rintro e w36 ⟨rfl, h⟩
  have G36 := Lib.hid (G35.out.more h)
  have A36 := Lib.hid (A35.out.below h A35.out.lt)
  (try have B36 := Lib.hid (B35.out.below h B35.out.lt))
  have R36 := Lib.hid (R35.out.below h R35.out.lt)
  go_wp2_with fail
  refine hK.out _ _ (A36.out.h4) ?_
  clear hK K hHeld
  intro hHeld
  clear h G35 A35 R35
  (try clear B35)
  refine wpAnyH_onlyD 122 (by decide +kernel) (fun o ho K hK => ?_) (by decide +kernel)
  simp only [List.getElem?_toArray, List.getElem?_cons_succ, List.getElem?_cons_zero, Option.some.injEq] at ho
  subst ho
  go_simp
  refine hK.out _ _ ((A36.out.alloc _).h4) ?_
  clear hK K hHeld
  intro hHeld
  have A37 := Lib.hid (A36.out.alloc (.cells #[.int .i64 qx, .int .i64 qx, .bool false, .int .i64 qy, .int .i64 qy, .bool false] 63))
  (try have B37 := Lib.hid (B36.out.alloc (.cells #[.int .i64 qx, .int .i64 qx, .bool false, .int .i64 qy, .int .i64 qy, .bool false] 63)))
  have R37 := Lib.hid (R36.out.alloc (.cells #[.int .i64 qx, .int .i64 qx, .bool false, .int .i64 qy, .int .i64 qy, .bool false] 63))
  have G37 := Lib.hid (G36.out.more ((Below.refl _ _).alloc (Nat.le_refl _) (.cells #[.int .i64 qx, .int .i64 qx, .bool false, .int .i64 qy, .int .i64 qy, .bool false] 63)))
  have TT := Lib.hid (TW.new2 w36 _ qx qx qy qy false false 63 rfl)
  have hne : b ≠ w36.heap.size := by have := G36.out.lt; have := G36.out.f.size; omega

  clear G36 A36 R36
  (try clear B36)
  generalize w36.alloc (.cells #[.int .i64 qx, .int .i64 qx, .bool false, .int .i64 qy, .int .i64 qy, .bool false] 63) = w37 at *
  generalize w36.heap.size = n37 at *
  refine wpAnyH_onlyD 123 (by decide +kernel) (fun o ho K hK => ?_) (by decide +kernel)
  simp only [List.getElem?_toArray, List.getElem?_cons_succ, List.getElem?_cons_zero, Option.some.injEq] at ho
  subst ho
  go_simp
  refine (C8.out _ _ _ TT.out hne G37.out.m).mono ?_
  rintro e w38 ⟨rfl, h⟩
  have G38 := Lib.hid (G37.out.fx h)
  have A38 := Lib.hid (A37.out.fx h (by have := G37.out.lt; omega))
  (try have B38 := Lib.hid (B37.out.fx h (by have := G37.out.lt; omega)))
  (try have R38 := Lib.hid (R37.out.fx h (by have := G37.out.lt; omega)))
  (try have P38 := Lib.hid (P37.out.fx h))
  (try have I38 := Lib.hid (I37.out.fx h hbi))
  go_wp2_with fail
  refine hK.out _ _ (A38.out.h4) ?_
  clear hK K hHeld
  intro hHeld
  clear h G37 A37
  (try clear B37)
  (try clear R37)
  (try clear P37)
  (try clear I37)
  clear TT hne C8
  refine wpAnyH_onlyD 124 (by decide +kernel) (fun o ho K hK => ?_) (by decide +kernel)
  simp only [List.getElem?_toArray, List.getElem?_cons_succ, List.getElem?_cons_zero, Option.some.injEq] at ho
  subst ho
  go_simp
  refine (D8.out _ _ G38.out.m).mono ?_
  rintro e w39 ⟨rfl, h⟩
  have G39 := Lib.hid (G38.out.fx h)
  have A39 := Lib.hid (A38.out.fx h (by have := G38.out.lt; omega))
  (try have B39 := Lib.hid (B38.out.fx h (by have := G38.out.lt; omega)))
  (try have R39 := Lib.hid (R38.out.fx h (by have := G38.out.lt; omega)))
  (try have P39 := Lib.hid (P38.out.fx h))
  (try have I39 := Lib.hid (I38.out.fx h hbi))
  go_wp2_with fail
  refine hK.out _ _ (A39.out.h4) ?_
  clear hK K hHeld
  intro hHeld
  clear h G38 A38
  (try clear B38)
  (try clear R38)
  (try clear P38)
  (try clear I38)
  clear D8
  refine wpAnyH_takeD 125 130 (v := ?_) (by decide +kernel) (by decide +kernel) (by decide +kernel) (by decide +kernel) (by rfl) (fun _ _ _ h => h) ?_ hHeld ?_
  rotate_left 1
  (intro o ho W hSw; simp only [List.getElem?_toArray, List.getElem?_cons_succ, List.getElem?_cons_zero, Option.some.injEq] at ho; subst ho; (try dsimp only at hSw); go_simp; try with_reducible rfl)
  (try simp only [Act.put, List.setIfInBounds_toArray, List.set_cons_zero, List.set_cons_succ])
  refine wpAnyH_takeD 126 131 (v := ?_) (by decide +kernel) (by decide +kernel) (by decide +kernel) (by decide +kernel) (by rfl) (fun _ _ _ h => h) ?_ hHeld ?_
  rotate_left 1
  (intro o ho W hSw; simp only [List.getElem?_toArray, List.getElem?_cons_succ, List.getElem?_cons_zero, Option.some.injEq] at ho; subst ho; (try dsimp only at hSw); go_simp; try with_reducible rfl)
  (try simp only [Act.put, List.setIfInBounds_toArray, List.set_cons_zero, List.set_cons_succ])
  obtain ⟨r0, r1, r2, r3, r4, r5, r6, r7, r8⟩ := R39.out.h9
  have rf := R39.out.f
  refine wpAnyH_onlyD 127 (by decide +kernel) (fun o ho K hK => ?_) (by decide +kernel)
  simp only [List.getElem?_toArray, List.getElem?_cons_succ, List.getElem?_cons_zero, Option.some.injEq] at ho
  subst ho
  go_simp
  refine hK.out _ _ ((far9 A39.out (by omega) _ _ _ _ _ _ _ _ _).h4) ?_
  clear hK K hHeld
  intro hHeld
  refine wpAnyH_done (by kernel_rfl) ?_ _
  go_wp2
  exact bodyPost_ret (v := .agg #[.int .i64 v0, .int .i64 v1, .int .i64 v2, .int .i64 v3, .int .i64 v4, .int .i64 v5, .int .i64 v6, .int .i64 v7, .int .i64 v8]) (by simp [results, Try.results14, go_sem, r0, r1, r2, r3, r4, r5, r6, r7, r8]) rfl ⟨rfl, G39.out.put9 (by omega) _ _ _ _ _ _ _ _ _⟩
end Go.Proofs.Ytldcmiomfahaoaa

/- Contracts of the document's quat: Unit, Matrix, Apply, Turned, Back, Step, About. -/
import Derived.Test.YtldcmiomfahaoaaKe
import Derived.Test.YtldcmiomfahaoaaJc
import Derived.Test.YtldcmiomfahaoaaId
namespace Go.Proofs.Ytldcmiomfahaoaa
open Go.RowKit
set_option linter.unusedVariables false
set_option linter.unusedSimpArgs false

def uW (a n : Int) : Int := if n = 0 then 4294967296 else divF a n
def uX (a n : Int) : Int := if n = 0 then 0 else divF a n
def uO (a b c d n : Int) : Bool := if n = 0 then false else divO a n || divO b n || divO c n || divO d n
theorem uX_in (a n : Int) : In64 (uX a n) := by
  unfold uX
  split
  · unfold In64; omega
  · exact divF_in _ _
theorem uW_in (a n : Int) : In64 (uW a n) := by
  unfold uW
  split
  · unfold In64; omega
  · exact divF_in _ _
theorem far4 {W : World} {n r : Nat} {l : List Value} (k : BW W n l) (e : r ≠ n) (u0 u1 u2 u3 : Value) : BW ((((W.setCell ⟨r, 0, none⟩ u0).setCell ⟨r, 1, none⟩ u1).setCell ⟨r, 2, none⟩ u2).setCell ⟨r, 3, none⟩ u3) n l :=
  (((k.far e 0 u0).far e 1 u1).far e 2 u2).far e 3 u3
theorem Flag.put4 {w W : World} {b k : Nat} {o : Bool} (t : Flag w W b k o) {r : Nat} (h : w.heap.size ≤ r) (u0 u1 u2 u3 : Value) :
    FxW w.heap.size w b k o ((((W.setCell ⟨r, 0, none⟩ u0).setCell ⟨r, 1, none⟩ u1).setCell ⟨r, 2, none⟩ u2).setCell ⟨r, 3, none⟩ u3) :=
  Flag.set (Flag.set (Flag.set (Flag.set t.f h 0 u0) h 1 u1) h 2 u2) h 3 u3
set_option maxRecDepth 100000 in
set_option maxHeartbeats 4000000 in
theorem rQUnit_any (qw qx qy qz n : Int) (b k : Nat) (o : Bool) (w : World) (hq : In4 qw qx qy qz) (hn : lenF (qw * qw + qx * qx + qy * qy + qz * qz) = n) (m : MAt w b k o) :
    Calls Try.prog 13 #[.pointer (some ⟨b, k, none⟩), .agg #[.int .i64 qw, .int .i64 qx, .int .i64 qy, .int .i64 qz]] w fun e w' => e = .returned (.agg #[.int .i64 (uW qw n), .int .i64 (uX qx n), .int .i64 (uX qy n), .int .i64 (uX qz n)]) ∧ FxW w.heap.size w b k (o || lenO (qw * qw + qx * qx + qy * qy + qz * qz) || uO qw qx qy qz n) w' := by
  have HQ := Lib.hid hq
  have HM := Lib.hid m
  have U := Lib.hid (fun (W : World) (m : MAt W b k o) => rLen4_any qw qx qy qz b k o W hq.a.1 hq.a.2 hq.b.1 hq.b.2 hq.c.1 hq.c.2 hq.d.1 hq.d.2 m)
  have N := Lib.hid (lenF_in (qw * qw + qx * qx + qy * qy + qz * qz))
  rw [hn] at U N
  generalize lenO (qw * qw + qx * qx + qy * qy + qz * qz) = p at *
  clear hq hn m
  by_cases c : n = 0
  · subst c
    have E := Lib.hid (show (o || p || uO qw qx qy qz 0) = (o || p) by unfold uO; simp)
    rw [E.out]
    go_enter Try.func13, Try.ntmps13
    go_wp2_with fail
    refine calls_gen (S := fun W => BW W (w.heap.size + 1) [.int .i64 0, .int .i64 0, .int .i64 0, .int .i64 0] ∧ Below w.heap.size w W) ⟨BW.new _ _ [_, _, _, _] _ (by simp), by repeat (first | exact Below.refl _ _ | assumption | refine Below.setCell ?_ (by first | omega | (simp; done) | (simp; omega)) _ | refine Below.alloc ?_ (by first | omega | (simp; done) | (simp; omega)) _ | refine below_drewN ?_ _ | refine Below.drew ?_ | refine Below.trans ?_ (Below.mono (by assumption) (by first | omega | (simp; done) | (simp; omega))))⟩ (fun W0 hS => ?_)
    have R0 := Lib.hid hS.1
    have G0 := Lib.hid (Flag.start HM.out hS.2)
    clear hS HM
    refine (U.out _ G0.out.m).mono ?_
    rintro e w1 ⟨rfl, h⟩
    have G1 := Lib.hid (G0.out.fx h)
    have R1 := Lib.hid (R0.out.fx h (by have := G0.out.lt; omega))
    clear h G0 R0 U
    obtain ⟨r0, r1, r2, r3⟩ := R1.out.h4
    have rf := R1.out.f
    go_wp2
    exact bodyPost_ret (v := .agg #[.int .i64 (uW qw 0), .int .i64 (uX qx 0), .int .i64 (uX qy 0), .int .i64 (uX qz 0)]) (by simp [results, Try.results13, go_sem, r0, r1, r2, r3, uW, uX]) rfl ⟨rfl, G1.out.put4 (by omega) _ _ _ _⟩
  · have t : (n == 0) = false := by simp; exact c
    have E := Lib.hid (show (o || p || uO qw qx qy qz n) = (o || p || divO qw n || divO qx n || divO qy n || divO qz n) by unfold uO; rw [if_neg c]; simp only [← Bool.or_assoc])
    have V1 := Lib.hid (show divF qw n = uW qw n ∧ divF qx n = uX qx n ∧ divF qy n = uX qy n ∧ divF qz n = uX qz n by unfold uW uX; rw [if_neg c, if_neg c, if_neg c, if_neg c]; exact ⟨rfl, rfl, rfl, rfl⟩)
    rw [E.out, ← V1.out.1, ← V1.out.2.1, ← V1.out.2.2.1, ← V1.out.2.2.2]
    clear c V1
    go_enter Try.func13, Try.ntmps13
    go_wp2_with fail
    refine calls_gen (S := fun W => BW W w.heap.size [.int .i64 qw, .int .i64 qx, .int .i64 qy, .int .i64 qz] ∧ BW W (w.heap.size + 1) [.int .i64 0, .int .i64 0, .int .i64 0, .int .i64 0] ∧ Below w.heap.size w W) ⟨(BW.new w w.heap.size [_, _, _, _] _ rfl).alloc _, BW.new _ _ [_, _, _, _] _ (by simp), by repeat (first | exact Below.refl _ _ | assumption | refine Below.setCell ?_ (by first | omega | (simp; done) | (simp; omega)) _ | refine Below.alloc ?_ (by first | omega | (simp; done) | (simp; omega)) _ | refine below_drewN ?_ _ | refine Below.drew ?_ | refine Below.trans ?_ (Below.mono (by assumption) (by first | omega | (simp; done) | (simp; omega))))⟩ (fun W0 hS => ?_)
    have A0 := Lib.hid hS.1
    have R0 := Lib.hid hS.2.1
    have G0 := Lib.hid (Flag.start HM.out hS.2.2)
    clear hS HM
    refine (U.out _ G0.out.m).mono ?_
    rintro e w1 ⟨rfl, h⟩
    have G1 := Lib.hid ((G0.out.fx h).more ((Below.refl _ _).drew))
    have A1 := Lib.hid (A0.out.fx h (by have := G0.out.lt; omega)).drew
    have R1 := Lib.hid (R0.out.fx h (by have := G0.out.lt; omega)).drew
    clear h G0 R0 A0 U
    go_wp2_with fail
    refine wp_region_held_drew (S := fun W => W.cell? ⟨w.heap.size, 0, none⟩ = some (.int .i64 qw) ∧ W.cell? ⟨w.heap.size, 1, none⟩ = some (.int .i64 qx) ∧ W.cell? ⟨w.heap.size, 2, none⟩ = some (.int .i64 qy) ∧ W.cell? ⟨w.heap.size, 3, none⟩ = some (.int .i64 qz)) (by kernel_rfl) A1.out.h4 (fun hHeld => ?_)
    refine wpAnyH_takeD 0 19 (v := ?_) (by kernel_rfl) (by kernel_rfl) (by kernel_rfl) (by kernel_rfl) (by rfl) (fun _ _ _ h => h) ?_ hHeld ?_
    rotate_left 1
    (intro o ho W hSw; simp only [List.getElem?_toArray, List.getElem?_cons_succ, List.getElem?_cons_zero, Option.some.injEq] at ho; subst ho; (try dsimp only at hSw); go_simp; try with_reducible rfl)
    (try simp only [Act.put, List.setIfInBounds_toArray, List.set_cons_zero, List.set_cons_succ])
    refine wpAnyH_takeD 1 20 (v := ?_) (by kernel_rfl) (by kernel_rfl) (by kernel_rfl) (by kernel_rfl) (by rfl) (fun _ _ _ h => h) ?_ hHeld ?_
    rotate_left 1
    (intro o ho W hSw; simp only [List.getElem?_toArray, List.getElem?_cons_succ, List.getElem?_cons_zero, Option.some.injEq] at ho; subst ho; (try dsimp only at hSw); go_simp; try with_reducible rfl)
    (try simp only [Act.put, List.setIfInBounds_toArray, List.set_cons_zero, List.set_cons_succ])
    refine wpAnyH_takeD 2 21 (v := ?_) (by kernel_rfl) (by kernel_rfl) (by kernel_rfl) (by kernel_rfl) (by rfl) (fun _ _ _ h => h) ?_ hHeld ?_
    rotate_left 1
    (intro o ho W hSw; simp only [List.getElem?_toArray, List.getElem?_cons_succ, List.getElem?_cons_zero, Option.some.injEq] at ho; subst ho; (try dsimp only at hSw); go_simp; try with_reducible rfl)
    (try simp only [Act.put, List.setIfInBounds_toArray, List.set_cons_zero, List.set_cons_succ])
    refine wpAnyH_takeD 3 22 (v := ?_) (by kernel_rfl) (by kernel_rfl) (by kernel_rfl) (by kernel_rfl) (by rfl) (fun _ _ _ h => h) ?_ hHeld ?_
    rotate_left 1
    (intro o ho W hSw; simp only [List.getElem?_toArray, List.getElem?_cons_succ, List.getElem?_cons_zero, Option.some.injEq] at ho; subst ho; (try dsimp only at hSw); go_simp; try with_reducible rfl)
    (try simp only [Act.put, List.setIfInBounds_toArray, List.set_cons_zero, List.set_cons_succ])
    refine wpAnyH_takeD 5 24 (v := ?_) (by kernel_rfl) (by kernel_rfl) (by kernel_rfl) (by kernel_rfl) (by rfl) (fun _ _ _ h => h) ?_ hHeld ?_
    rotate_left 1
    (intro o ho W hSw; simp only [List.getElem?_toArray, List.getElem?_cons_succ, List.getElem?_cons_zero, Option.some.injEq] at ho; subst ho; (try dsimp only at hSw); go_simp; try with_reducible rfl)
    (try simp only [Act.put, List.setIfInBounds_toArray, List.set_cons_zero, List.set_cons_succ])
    refine wpAnyH_takeD 6 25 (v := ?_) (by kernel_rfl) (by kernel_rfl) (by kernel_rfl) (by kernel_rfl) (by rfl) (fun _ _ _ h => h) ?_ hHeld ?_
    rotate_left 1
    (intro o ho W hSw; simp only [List.getElem?_toArray, List.getElem?_cons_succ, List.getElem?_cons_zero, Option.some.injEq] at ho; subst ho; (try dsimp only at hSw); go_simp; try with_reducible rfl)
    (try simp only [Act.put, List.setIfInBounds_toArray, List.set_cons_zero, List.set_cons_succ])
    refine wpAnyH_takeD 7 26 (v := ?_) (by kernel_rfl) (by kernel_rfl) (by kernel_rfl) (by kernel_rfl) (by rfl) (fun _ _ _ h => h) ?_ hHeld ?_
    rotate_left 1
    (intro o ho W hSw; simp only [List.getElem?_toArray, List.getElem?_cons_succ, List.getElem?_cons_zero, Option.some.injEq] at ho; subst ho; (try dsimp only at hSw); go_simp; try with_reducible rfl)
    (try simp only [Act.put, List.setIfInBounds_toArray, List.set_cons_zero, List.set_cons_succ])
    refine wpAnyH_takeD 8 27 (v := ?_) (by kernel_rfl) (by kernel_rfl) (by kernel_rfl) (by kernel_rfl) (by rfl) (fun _ _ _ h => h) ?_ hHeld ?_
    rotate_left 1
    (intro o ho W hSw; simp only [List.getElem?_toArray, List.getElem?_cons_succ, List.getElem?_cons_zero, Option.some.injEq] at ho; subst ho; (try dsimp only at hSw); go_simp; try with_reducible rfl)
    (try simp only [Act.put, List.setIfInBounds_toArray, List.set_cons_zero, List.set_cons_succ])
    refine wpAnyH_takeD 10 29 (v := ?_) (by kernel_rfl) (by kernel_rfl) (by kernel_rfl) (by kernel_rfl) (by rfl) (fun _ _ _ h => h) ?_ hHeld ?_
    rotate_left 1
    (intro o ho W hSw; simp only [List.getElem?_toArray, List.getElem?_cons_succ, List.getElem?_cons_zero, Option.some.injEq] at ho; subst ho; (try dsimp only at hSw); go_simp; try with_reducible rfl)
    (try simp only [Act.put, List.setIfInBounds_toArray, List.set_cons_zero, List.set_cons_succ])
    refine wpAnyH_takeD 11 30 (v := ?_) (by kernel_rfl) (by kernel_rfl) (by kernel_rfl) (by kernel_rfl) (by rfl) (fun _ _ _ h => h) ?_ hHeld ?_
    rotate_left 1
    (intro o ho W hSw; simp only [List.getElem?_toArray, List.getElem?_cons_succ, List.getElem?_cons_zero, Option.some.injEq] at ho; subst ho; (try dsimp only at hSw); go_simp; try with_reducible rfl)
    (try simp only [Act.put, List.setIfInBounds_toArray, List.set_cons_zero, List.set_cons_succ])
    refine wpAnyH_takeD 12 31 (v := ?_) (by kernel_rfl) (by kernel_rfl) (by kernel_rfl) (by kernel_rfl) (by rfl) (fun _ _ _ h => h) ?_ hHeld ?_
    rotate_left 1
    (intro o ho W hSw; simp only [List.getElem?_toArray, List.getElem?_cons_succ, List.getElem?_cons_zero, Option.some.injEq] at ho; subst ho; (try dsimp only at hSw); go_simp; try with_reducible rfl)
    (try simp only [Act.put, List.setIfInBounds_toArray, List.set_cons_zero, List.set_cons_succ])
    refine wpAnyH_takeD 13 32 (v := ?_) (by kernel_rfl) (by kernel_rfl) (by kernel_rfl) (by kernel_rfl) (by rfl) (fun _ _ _ h => h) ?_ hHeld ?_
    rotate_left 1
    (intro o ho W hSw; simp only [List.getElem?_toArray, List.getElem?_cons_succ, List.getElem?_cons_zero, Option.some.injEq] at ho; subst ho; (try dsimp only at hSw); go_simp; try with_reducible rfl)
    (try simp only [Act.put, List.setIfInBounds_toArray, List.set_cons_zero, List.set_cons_succ])
    refine wpAnyH_takeD 15 34 (v := ?_) (by kernel_rfl) (by kernel_rfl) (by kernel_rfl) (by kernel_rfl) (by rfl) (fun _ _ _ h => h) ?_ hHeld ?_
    rotate_left 1
    (intro o ho W hSw; simp only [List.getElem?_toArray, List.getElem?_cons_succ, List.getElem?_cons_zero, Option.some.injEq] at ho; subst ho; (try dsimp only at hSw); go_simp; try with_reducible rfl)
    (try simp only [Act.put, List.setIfInBounds_toArray, List.set_cons_zero, List.set_cons_succ])
    refine wpAnyH_takeD 16 35 (v := ?_) (by kernel_rfl) (by kernel_rfl) (by kernel_rfl) (by kernel_rfl) (by rfl) (fun _ _ _ h => h) ?_ hHeld ?_
    rotate_left 1
    (intro o ho W hSw; simp only [List.getElem?_toArray, List.getElem?_cons_succ, List.getElem?_cons_zero, Option.some.injEq] at ho; subst ho; (try dsimp only at hSw); go_simp; try with_reducible rfl)
    (try simp only [Act.put, List.setIfInBounds_toArray, List.set_cons_zero, List.set_cons_succ])
    refine wpAnyH_takeD 17 36 (v := ?_) (by kernel_rfl) (by kernel_rfl) (by kernel_rfl) (by kernel_rfl) (by rfl) (fun _ _ _ h => h) ?_ hHeld ?_
    rotate_left 1
    (intro o ho W hSw; simp only [List.getElem?_toArray, List.getElem?_cons_succ, List.getElem?_cons_zero, Option.some.injEq] at ho; subst ho; (try dsimp only at hSw); go_simp; try with_reducible rfl)
    (try simp only [Act.put, List.setIfInBounds_toArray, List.set_cons_zero, List.set_cons_succ])
    refine wpAnyH_takeD 18 37 (v := ?_) (by kernel_rfl) (by kernel_rfl) (by kernel_rfl) (by kernel_rfl) (by rfl) (fun _ _ _ h => h) ?_ hHeld ?_
    rotate_left 1
    (intro o ho W hSw; simp only [List.getElem?_toArray, List.getElem?_cons_succ, List.getElem?_cons_zero, Option.some.injEq] at ho; subst ho; (try dsimp only at hSw); go_simp; try with_reducible rfl)
    (try simp only [Act.put, List.setIfInBounds_toArray, List.set_cons_zero, List.set_cons_succ])
    refine wpAnyH_onlyD 4 (by kernel_rfl) (fun o ho K hK => ?_) (by kernel_rfl)
    simp only [List.getElem?_toArray, List.getElem?_cons_succ, List.getElem?_cons_zero, Option.some.injEq] at ho
    subst ho
    go_simp
    refine (rfDiv_any qw n b k _ _ HQ.out.a.1 HQ.out.a.2 (by have := N.out; omega) (by have := N.out; omega) G1.out.m).mono ?_
    rintro e w2 ⟨rfl, h⟩
    have G2 := Lib.hid (G1.out.fx h)
    have A2 := Lib.hid (A1.out.fx h (by have := G1.out.lt; omega))
    (try have B2 := Lib.hid (B1.out.fx h (by have := G1.out.lt; omega)))
    (try have R2 := Lib.hid (R1.out.fx h (by have := G1.out.lt; omega)))
    (try have P2 := Lib.hid (P1.out.fx h))
    (try have I2 := Lib.hid (I1.out.fx h hbi))
    go_wp2_with fail
    refine hK.out _ _ (A2.out.h4) ?_
    clear hK K hHeld
    intro hHeld
    clear h G1 A1
    (try clear B1)
    (try clear R1)
    (try clear P1)
    (try clear I1)
    refine wpAnyH_onlyD 9 (by kernel_rfl) (fun o ho K hK => ?_) (by kernel_rfl)
    simp only [List.getElem?_toArray, List.getElem?_cons_succ, List.getElem?_cons_zero, Option.some.injEq] at ho
    subst ho
    go_simp
    refine (rfDiv_any qx n b k _ _ HQ.out.b.1 HQ.out.b.2 (by have := N.out; omega) (by have := N.out; omega) G2.out.m).mono ?_
    rintro e w3 ⟨rfl, h⟩
    have G3 := Lib.hid (G2.out.fx h)
    have A3 := Lib.hid (A2.out.fx h (by have := G2.out.lt; omega))
    (try have B3 := Lib.hid (B2.out.fx h (by have := G2.out.lt; omega)))
    (try have R3 := Lib.hid (R2.out.fx h (by have := G2.out.lt; omega)))
    (try have P3 := Lib.hid (P2.out.fx h))
    (try have I3 := Lib.hid (I2.out.fx h hbi))
    go_wp2_with fail
    refine hK.out _ _ (A3.out.h4) ?_
    clear hK K hHeld
    intro hHeld
    clear h G2 A2
    (try clear B2)
    (try clear R2)
    (try clear P2)
    (try clear I2)
    refine wpAnyH_onlyD 14 (by kernel_rfl) (fun o ho K hK => ?_) (by kernel_rfl)
    simp only [List.getElem?_toArray, List.getElem?_cons_succ, List.getElem?_cons_zero, Option.some.injEq] at ho
    subst ho
    go_simp
    refine (rfDiv_any qy n b k _ _ HQ.out.c.1 HQ.out.c.2 (by have := N.out; omega) (by have := N.out; omega) G3.out.m).mono ?_
    rintro e w4 ⟨rfl, h⟩
    have G4 := Lib.hid (G3.out.fx h)
    have A4 := Lib.hid (A3.out.fx h (by have := G3.out.lt; omega))
    (try have B4 := Lib.hid (B3.out.fx h (by have := G3.out.lt; omega)))
    (try have R4 := Lib.hid (R3.out.fx h (by have := G3.out.lt; omega)))
    (try have P4 := Lib.hid (P3.out.fx h))
    (try have I4 := Lib.hid (I3.out.fx h hbi))
    go_wp2_with fail
    refine hK.out _ _ (A4.out.h4) ?_
    clear hK K hHeld
    intro hHeld
    clear h G3 A3
    (try clear B3)
    (try clear R3)
    (try clear P3)
    (try clear I3)
    refine wpAnyH_onlyD 19 (by kernel_rfl) (fun o ho K hK => ?_) (by kernel_rfl)
    simp only [List.getElem?_toArray, List.getElem?_cons_succ, List.getElem?_cons_zero, Option.some.injEq] at ho
    subst ho
    go_simp
    refine (rfDiv_any qz n b k _ _ HQ.out.d.1 HQ.out.d.2 (by have := N.out; omega) (by have := N.out; omega) G4.out.m).mono ?_
    rintro e w5 ⟨rfl, h⟩
    have G5 := Lib.hid (G4.out.fx h)
    have A5 := Lib.hid (A4.out.fx h (by have := G4.out.lt; omega))
    (try have B5 := Lib.hid (B4.out.fx h (by have := G4.out.lt; omega)))
    (try have R5 := Lib.hid (R4.out.fx h (by have := G4.out.lt; omega)))
    (try have P5 := Lib.hid (P4.out.fx h))
    (try have I5 := Lib.hid (I4.out.fx h hbi))
    go_wp2_with fail
    refine hK.out _ _ (A5.out.h4) ?_
    clear hK K hHeld
    intro hHeld
    clear h G4 A4
    (try clear B4)
    (try clear R4)
    (try clear P4)
    (try clear I4)
    refine wpAnyH_takeD 20 39 (v := ?_) (by kernel_rfl) (by kernel_rfl) (by kernel_rfl) (by kernel_rfl) (by rfl) (fun _ _ _ h => h) ?_ hHeld ?_
    rotate_left 1
    (intro o ho W hSw; simp only [List.getElem?_toArray, List.getElem?_cons_succ, List.getElem?_cons_zero, Option.some.injEq] at ho; subst ho; (try dsimp only at hSw); go_simp; try with_reducible rfl)
    (try simp only [Act.put, List.setIfInBounds_toArray, List.set_cons_zero, List.set_cons_succ])
    obtain ⟨r0, r1, r2, r3⟩ := R5.out.h4
    have rf := R5.out.f
    refine wpAnyH_onlyD 21 (by kernel_rfl) (fun o ho K hK => ?_) (by kernel_rfl)
    simp only [List.getElem?_toArray, List.getElem?_cons_succ, List.getElem?_cons_zero, Option.some.injEq] at ho
    subst ho
    go_simp
    refine hK.out _ _ ((far4 A5.out (by omega) _ _ _ _).h4) ?_
    clear hK K hHeld
    intro hHeld
    refine wpAnyH_done (by kernel_rfl) ?_ _
    go_wp2
    exact bodyPost_ret (v := .agg #[.int .i64 (divF qw n), .int .i64 (divF qx n), .int .i64 (divF qy n), .int .i64 (divF qz n)]) (by simp [results, Try.results13, go_sem, r0, r1, r2, r3]) rfl ⟨rfl, G5.out.put4 (by omega) _ _ _ _⟩
def matO (qw qx qy qz : Int) : Bool := mulO qx qx || mulO qy qy || mulO qz qz || mulO qx qy || mulO qx qz || mulO qy qz || mulO qw qx || mulO qw qy || mulO qw qz || addO (mulF qy qy) (mulF qz qz) || addO (mulF qx qx) (mulF qz qz) || addO (mulF qx qx) (mulF qy qy) || subO (mulF qx qy) (mulF qw qz) || addO (mulF qx qy) (mulF qw qz) || addO (mulF qx qz) (mulF qw qy) || subO (mulF qx qz) (mulF qw qy) || subO (mulF qy qz) (mulF qw qx) || addO (mulF qy qz) (mulF qw qx) || addO (addF (mulF qy qy) (mulF qz qz)) (addF (mulF qy qy) (mulF qz qz)) || subO 4294967296 (addF (addF (mulF qy qy) (mulF qz qz)) (addF (mulF qy qy) (mulF qz qz))) || addO (subF (mulF qx qy) (mulF qw qz)) (subF (mulF qx qy) (mulF qw qz)) || addO (addF (mulF qx qz) (mulF qw qy)) (addF (mulF qx qz) (mulF qw qy)) || addO (addF (mulF qx qy) (mulF qw qz)) (addF (mulF qx qy) (mulF qw qz)) || addO (addF (mulF qx qx) (mulF qz qz)) (addF (mulF qx qx) (mulF qz qz)) || subO 4294967296 (addF (addF (mulF qx qx) (mulF qz qz)) (addF (mulF qx qx) (mulF qz qz))) || addO (subF (mulF qy qz) (mulF qw qx)) (subF (mulF qy qz) (mulF qw qx)) || addO (subF (mulF qx qz) (mulF qw qy)) (subF (mulF qx qz) (mulF qw qy)) || addO (addF (mulF qy qz) (mulF qw qx)) (addF (mulF qy qz) (mulF qw qx)) || addO (addF (mulF qx qx) (mulF qy qy)) (addF (mulF qx qx) (mulF qy qy)) || subO 4294967296 (addF (addF (mulF qx qx) (mulF qy qy)) (addF (mulF qx qx) (mulF qy qy)))
theorem Flag.put9 {w W : World} {b k : Nat} {o : Bool} (t : Flag w W b k o) {r : Nat} (h : w.heap.size ≤ r) (u0 u1 u2 u3 u4 u5 u6 u7 u8 : Value) :
    FxW w.heap.size w b k o (((((((((W.setCell ⟨r, 0, none⟩ u0).setCell ⟨r, 1, none⟩ u1).setCell ⟨r, 2, none⟩ u2).setCell ⟨r, 3, none⟩ u3).setCell ⟨r, 4, none⟩ u4).setCell ⟨r, 5, none⟩ u5).setCell ⟨r, 6, none⟩ u6).setCell ⟨r, 7, none⟩ u7).setCell ⟨r, 8, none⟩ u8) :=
  Flag.set (Flag.set (Flag.set (Flag.set (Flag.set (Flag.set (Flag.set (Flag.set (Flag.set t.f h 0 u0) h 1 u1) h 2 u2) h 3 u3) h 4 u4) h 5 u5) h 6 u6) h 7 u7) h 8 u8
set_option maxRecDepth 100000 in
set_option maxHeartbeats 8000000 in
theorem rQMatrix_any (qw qx qy qz : Int) (b k : Nat) (o : Bool) (w : World) (hq : In4 qw qx qy qz) (m : MAt w b k o) :
    Calls Try.prog 15 #[.pointer (some ⟨b, k, none⟩), .agg #[.int .i64 qw, .int .i64 qx, .int .i64 qy, .int .i64 qz]] w fun e w' => e = .returned (.agg #[.int .i64 (diagF qy qz), .int .i64 (offF qx qy qw qz), .int .i64 (onF qx qz qw qy), .int .i64 (onF qx qy qw qz), .int .i64 (diagF qx qz), .int .i64 (offF qy qz qw qx), .int .i64 (offF qx qz qw qy), .int .i64 (onF qy qz qw qx), .int .i64 (diagF qx qy)]) ∧ FxW w.heap.size w b k (o || matO qw qx qy qz) w' := by
  have HQ := Lib.hid hq
  have HM := Lib.hid m
  clear hq m
  have E := Lib.hid (show (o || matO qw qx qy qz) = (o || mulO qx qx || mulO qy qy || mulO qz qz || mulO qx qy || mulO qx qz || mulO qy qz || mulO qw qx || mulO qw qy || mulO qw qz || addO (mulF qy qy) (mulF qz qz) || addO (mulF qx qx) (mulF qz qz) || addO (mulF qx qx) (mulF qy qy) || subO (mulF qx qy) (mulF qw qz) || addO (mulF qx qy) (mulF qw qz) || addO (mulF qx qz) (mulF qw qy) || subO (mulF qx qz) (mulF qw qy) || subO (mulF qy qz) (mulF qw qx) || addO (mulF qy qz) (mulF qw qx) || addO (addF (mulF qy qy) (mulF qz qz)) (addF (mulF qy qy) (mulF qz qz)) || subO 4294967296 (addF (addF (mulF qy qy) (mulF qz qz)) (addF (mulF qy qy) (mulF qz qz))) || addO (subF (mulF qx qy) (mulF qw qz)) (subF (mulF qx qy) (mulF qw qz)) || addO (addF (mulF qx qz) (mulF qw qy)) (addF (mulF qx qz) (mulF qw qy)) || addO (addF (mulF qx qy) (mulF qw qz)) (addF (mulF qx qy) (mulF qw qz)) || addO (addF (mulF qx qx) (mulF qz qz)) (addF (mulF qx qx) (mulF qz qz)) || subO 4294967296 (addF (addF (mulF qx qx) (mulF qz qz)) (addF (mulF qx qx) (mulF qz qz))) || addO (subF (mulF qy qz) (mulF qw qx)) (subF (mulF qy qz) (mulF qw qx)) || addO (subF (mulF qx qz) (mulF qw qy)) (subF (mulF qx qz) (mulF qw qy)) || addO (addF (mulF qy qz) (mulF qw qx)) (addF (mulF qy qz) (mulF qw qx)) || addO (addF (mulF qx qx) (mulF qy qy)) (addF (mulF qx qx) (mulF qy qy)) || subO 4294967296 (addF (addF (mulF qx qx) (mulF qy qy)) (addF (mulF qx qx) (mulF qy qy)))) by unfold matO; simp only [← Bool.or_assoc])
  rw [E.out]
  go_enter Try.func15, Try.ntmps15
  go_wp2_with fail
  refine calls_gen (S := fun W => BW W w.heap.size [.int .i64 qw, .int .i64 qx, .int .i64 qy, .int .i64 qz] ∧ BW W (w.heap.size + 1) [.int .i64 0, .int .i64 0, .int .i64 0, .int .i64 0, .int .i64 0, .int .i64 0, .int .i64 0, .int .i64 0, .int .i64 0] ∧ Below w.heap.size w W) ⟨(BW.new w w.heap.size [_, _, _, _] _ rfl).alloc _, BW.new _ _ [_, _, _, _, _, _, _, _, _] _ (by simp), by repeat (first | exact Below.refl _ _ | assumption | refine Below.setCell ?_ (by first | omega | (simp; done) | (simp; omega)) _ | refine Below.alloc ?_ (by first | omega | (simp; done) | (simp; omega)) _ | refine below_drewN ?_ _ | refine Below.drew ?_ | refine Below.trans ?_ (Below.mono (by assumption) (by first | omega | (simp; done) | (simp; omega))))⟩ (fun W0 hS => ?_)
  have A0 := Lib.hid hS.1
  have R0 := Lib.hid hS.2.1
  have G0 := Lib.hid (Flag.start HM.out hS.2.2)
  clear hS HM
  obtain ⟨a0, a1, a2, a3⟩ := A0.out.h4
  have af := A0.out.f
  refine (rfMul_any qx qx b k _ _ HQ.out.b.1 HQ.out.b.2 HQ.out.b.1 HQ.out.b.2 G0.out.m).mono ?_
  rintro e w1 ⟨rfl, h⟩
  have G1 := Lib.hid (G0.out.fx h)
  have R1 := Lib.hid (R0.out.fx h (by have := G0.out.lt; omega))
  have A1 := Lib.hid (A0.out.fx h (by have := G0.out.lt; omega))
  clear h G0 R0
  clear A0 a0 a1 a2 a3 af
  obtain ⟨a0, a1, a2, a3⟩ := A1.out.h4
  have af := A1.out.f
  go_wp2_with fail
  refine (rfMul_any qy qy b k _ _ HQ.out.c.1 HQ.out.c.2 HQ.out.c.1 HQ.out.c.2 G1.out.m).mono ?_
  rintro e w2 ⟨rfl, h⟩
  have G2 := Lib.hid (G1.out.fx h)
  have R2 := Lib.hid (R1.out.fx h (by have := G1.out.lt; omega))
  have A2 := Lib.hid (A1.out.fx h (by have := G1.out.lt; omega))
  clear h G1 R1
  clear A1 a0 a1 a2 a3 af
  obtain ⟨a0, a1, a2, a3⟩ := A2.out.h4
  have af := A2.out.f
  go_wp2_with fail
  refine (rfMul_any qz qz b k _ _ HQ.out.d.1 HQ.out.d.2 HQ.out.d.1 HQ.out.d.2 G2.out.m).mono ?_
  rintro e w3 ⟨rfl, h⟩
  have G3 := Lib.hid (G2.out.fx h)
  have R3 := Lib.hid (R2.out.fx h (by have := G2.out.lt; omega))
  have A3 := Lib.hid (A2.out.fx h (by have := G2.out.lt; omega))
  clear h G2 R2
  clear A2 a0 a1 a2 a3 af
  obtain ⟨a0, a1, a2, a3⟩ := A3.out.h4
  have af := A3.out.f
  go_wp2_with fail
  refine (rfMul_any qx qy b k _ _ HQ.out.b.1 HQ.out.b.2 HQ.out.c.1 HQ.out.c.2 G3.out.m).mono ?_
  rintro e w4 ⟨rfl, h⟩
  have G4 := Lib.hid (G3.out.fx h)
  have R4 := Lib.hid (R3.out.fx h (by have := G3.out.lt; omega))
  have A4 := Lib.hid (A3.out.fx h (by have := G3.out.lt; omega))
  clear h G3 R3
  clear A3 a0 a1 a2 a3 af
  obtain ⟨a0, a1, a2, a3⟩ := A4.out.h4
  have af := A4.out.f
  go_wp2_with fail
  refine (rfMul_any qx qz b k _ _ HQ.out.b.1 HQ.out.b.2 HQ.out.d.1 HQ.out.d.2 G4.out.m).mono ?_
  rintro e w5 ⟨rfl, h⟩
  have G5 := Lib.hid (G4.out.fx h)
  have R5 := Lib.hid (R4.out.fx h (by have := G4.out.lt; omega))
  have A5 := Lib.hid (A4.out.fx h (by have := G4.out.lt; omega))
  clear h G4 R4
  clear A4 a0 a1 a2 a3 af
  obtain ⟨a0, a1, a2, a3⟩ := A5.out.h4
  have af := A5.out.f
  go_wp2_with fail
  refine (rfMul_any qy qz b k _ _ HQ.out.c.1 HQ.out.c.2 HQ.out.d.1 HQ.out.d.2 G5.out.m).mono ?_
  rintro e w6 ⟨rfl, h⟩
  have G6 := Lib.hid (G5.out.fx h)
  have R6 := Lib.hid (R5.out.fx h (by have := G5.out.lt; omega))
  have A6 := Lib.hid (A5.out.fx h (by have := G5.out.lt; omega))
  clear h G5 R5
  clear A5 a0 a1 a2 a3 af
  obtain ⟨a0, a1, a2, a3⟩ := A6.out.h4
  have af := A6.out.f
  go_wp2_with fail
  refine (rfMul_any qw qx b k _ _ HQ.out.a.1 HQ.out.a.2 HQ.out.b.1 HQ.out.b.2 G6.out.m).mono ?_
  rintro e w7 ⟨rfl, h⟩
  have G7 := Lib.hid (G6.out.fx h)
  have R7 := Lib.hid (R6.out.fx h (by have := G6.out.lt; omega))
  have A7 := Lib.hid (A6.out.fx h (by have := G6.out.lt; omega))
  clear h G6 R6
  clear A6 a0 a1 a2 a3 af
  obtain ⟨a0, a1, a2, a3⟩ := A7.out.h4
  have af := A7.out.f
  go_wp2_with fail
  refine (rfMul_any qw qy b k _ _ HQ.out.a.1 HQ.out.a.2 HQ.out.c.1 HQ.out.c.2 G7.out.m).mono ?_
  rintro e w8 ⟨rfl, h⟩
  have G8 := Lib.hid (G7.out.fx h)
  have R8 := Lib.hid (R7.out.fx h (by have := G7.out.lt; omega))
  have A8 := Lib.hid (A7.out.fx h (by have := G7.out.lt; omega))
  clear h G7 R7
  clear A7 a0 a1 a2 a3 af
  obtain ⟨a0, a1, a2, a3⟩ := A8.out.h4
  have af := A8.out.f
  go_wp2_with fail
  refine (rfMul_any qw qz b k _ _ HQ.out.a.1 HQ.out.a.2 HQ.out.d.1 HQ.out.d.2 G8.out.m).mono ?_
  rintro e w9 ⟨rfl, h⟩
  have G9 := Lib.hid (G8.out.fx h)
  have R9 := Lib.hid (R8.out.fx h (by have := G8.out.lt; omega))
  clear h G8 R8
  clear A8 a0 a1 a2 a3 af
  go_wp2_with fail
  refine (rfAdd_any (mulF qy qy) (mulF qz qz) b k _ _ (mulF_in _ _).1 (mulF_in _ _).2 (mulF_in _ _).1 (mulF_in _ _).2 G9.out.m).mono ?_
  rintro e w10 ⟨rfl, h⟩
  have G10 := Lib.hid (G9.out.fx h)
  have R10 := Lib.hid (R9.out.fx h (by have := G9.out.lt; omega))
  clear h G9 R9
  go_wp2_with fail
  refine (rfAdd_any (mulF qx qx) (mulF qz qz) b k _ _ (mulF_in _ _).1 (mulF_in _ _).2 (mulF_in _ _).1 (mulF_in _ _).2 G10.out.m).mono ?_
  rintro e w11 ⟨rfl, h⟩
  have G11 := Lib.hid (G10.out.fx h)
  have R11 := Lib.hid (R10.out.fx h (by have := G10.out.lt; omega))
  clear h G10 R10
  go_wp2_with fail
  refine (rfAdd_any (mulF qx qx) (mulF qy qy) b k _ _ (mulF_in _ _).1 (mulF_in _ _).2 (mulF_in _ _).1 (mulF_in _ _).2 G11.out.m).mono ?_
  rintro e w12 ⟨rfl, h⟩
  have G12 := Lib.hid (G11.out.fx h)
  have R12 := Lib.hid (R11.out.fx h (by have := G11.out.lt; omega))
  clear h G11 R11
  go_wp2_with fail
  refine (rfSub_any (mulF qx qy) (mulF qw qz) b k _ _ (mulF_in _ _).1 (mulF_in _ _).2 (mulF_in _ _).1 (mulF_in _ _).2 G12.out.m).mono ?_
  rintro e w13 ⟨rfl, h⟩
  have G13 := Lib.hid (G12.out.fx h)
  have R13 := Lib.hid (R12.out.fx h (by have := G12.out.lt; omega))
  clear h G12 R12
  go_wp2_with fail
  refine (rfAdd_any (mulF qx qy) (mulF qw qz) b k _ _ (mulF_in _ _).1 (mulF_in _ _).2 (mulF_in _ _).1 (mulF_in _ _).2 G13.out.m).mono ?_
  rintro e w14 ⟨rfl, h⟩
  have G14 := Lib.hid (G13.out.fx h)
  have R14 := Lib.hid (R13.out.fx h (by have := G13.out.lt; omega))
  clear h G13 R13
  go_wp2_with fail
  refine (rfAdd_any (mulF qx qz) (mulF qw qy) b k _ _ (mulF_in _ _).1 (mulF_in _ _).2 (mulF_in _ _).1 (mulF_in _ _).2 G14.out.m).mono ?_
  rintro e w15 ⟨rfl, h⟩
  have G15 := Lib.hid (G14.out.fx h)
  have R15 := Lib.hid (R14.out.fx h (by have := G14.out.lt; omega))
  clear h G14 R14
  go_wp2_with fail
  refine (rfSub_any (mulF qx qz) (mulF qw qy) b k _ _ (mulF_in _ _).1 (mulF_in _ _).2 (mulF_in _ _).1 (mulF_in _ _).2 G15.out.m).mono ?_
  rintro e w16 ⟨rfl, h⟩
  have G16 := Lib.hid (G15.out.fx h)
  have R16 := Lib.hid (R15.out.fx h (by have := G15.out.lt; omega))
  clear h G15 R15
  go_wp2_with fail
  refine (rfSub_any (mulF qy qz) (mulF qw qx) b k _ _ (mulF_in _ _).1 (mulF_in _ _).2 (mulF_in _ _).1 (mulF_in _ _).2 G16.out.m).mono ?_
  rintro e w17 ⟨rfl, h⟩
  have G17 := Lib.hid (G16.out.fx h)
  have R17 := Lib.hid (R16.out.fx h (by have := G16.out.lt; omega))
  clear h G16 R16
  go_wp2_with fail
  refine (rfAdd_any (mulF qy qz) (mulF qw qx) b k _ _ (mulF_in _ _).1 (mulF_in _ _).2 (mulF_in _ _).1 (mulF_in _ _).2 G17.out.m).mono ?_
  rintro e w18 ⟨rfl, h⟩
  have G18 := Lib.hid (G17.out.fx h)
  have R18 := Lib.hid (R17.out.fx h (by have := G17.out.lt; omega))
  clear h G17 R17
  go_wp2_with fail
  refine (rfAdd_any (addF (mulF qy qy) (mulF qz qz)) (addF (mulF qy qy) (mulF qz qz)) b k _ _ (addF_in _ _).1 (addF_in _ _).2 (addF_in _ _).1 (addF_in _ _).2 G18.out.m).mono ?_
  rintro e w19 ⟨rfl, h⟩
  have G19 := Lib.hid (G18.out.fx h)
  have R19 := Lib.hid (R18.out.fx h (by have := G18.out.lt; omega))
  clear h G18 R18
  go_wp2_with fail
  refine (rfSub_any 4294967296 (addF (addF (mulF qy qy) (mulF qz qz)) (addF (mulF qy qy) (mulF qz qz))) b k _ _ (by omega) (by omega) (addF_in _ _).1 (addF_in _ _).2 G19.out.m).mono ?_
  rintro e w20 ⟨rfl, h⟩
  have G20 := Lib.hid (G19.out.fx h)
  have R20 := Lib.hid (R19.out.fx h (by have := G19.out.lt; omega))
  clear h G19 R19
  go_wp2_with fail
  refine (rfAdd_any (subF (mulF qx qy) (mulF qw qz)) (subF (mulF qx qy) (mulF qw qz)) b k _ _ (subF_in _ _).1 (subF_in _ _).2 (subF_in _ _).1 (subF_in _ _).2 G20.out.m).mono ?_
  rintro e w21 ⟨rfl, h⟩
  have G21 := Lib.hid (G20.out.fx h)
  have R21 := Lib.hid (R20.out.fx h (by have := G20.out.lt; omega))
  clear h G20 R20
  go_wp2_with fail
  refine (rfAdd_any (addF (mulF qx qz) (mulF qw qy)) (addF (mulF qx qz) (mulF qw qy)) b k _ _ (addF_in _ _).1 (addF_in _ _).2 (addF_in _ _).1 (addF_in _ _).2 G21.out.m).mono ?_
  rintro e w22 ⟨rfl, h⟩
  have G22 := Lib.hid (G21.out.fx h)
  have R22 := Lib.hid (R21.out.fx h (by have := G21.out.lt; omega))
  clear h G21 R21
  go_wp2_with fail
  refine (rfAdd_any (addF (mulF qx qy) (mulF qw qz)) (addF (mulF qx qy) (mulF qw qz)) b k _ _ (addF_in _ _).1 (addF_in _ _).2 (addF_in _ _).1 (addF_in _ _).2 G22.out.m).mono ?_
  rintro e w23 ⟨rfl, h⟩
  have G23 := Lib.hid (G22.out.fx h)
  have R23 := Lib.hid (R22.out.fx h (by have := G22.out.lt; omega))
  clear h G22 R22
  go_wp2_with fail
  refine (rfAdd_any (addF (mulF qx qx) (mulF qz qz)) (addF (mulF qx qx) (mulF qz qz)) b k _ _ (addF_in _ _).1 (addF_in _ _).2 (addF_in _ _).1 (addF_in _ _).2 G23.out.m).mono ?_
  rintro e w24 ⟨rfl, h⟩
  have G24 := Lib.hid (G23.out.fx h)
  have R24 := Lib.hid (R23.out.fx h (by have := G23.out.lt; omega))
  clear h G23 R23
  go_wp2_with fail
  refine (rfSub_any 4294967296 (addF (addF (mulF qx qx) (mulF qz qz)) (addF (mulF qx qx) (mulF qz qz))) b k _ _ (by omega) (by omega) (addF_in _ _).1 (addF_in _ _).2 G24.out.m).mono ?_
  rintro e w25 ⟨rfl, h⟩
  have G25 := Lib.hid (G24.out.fx h)
  have R25 := Lib.hid (R24.out.fx h (by have := G24.out.lt; omega))
  clear h G24 R24
  go_wp2_with fail
  refine (rfAdd_any (subF (mulF qy qz) (mulF qw qx)) (subF (mulF qy qz) (mulF qw qx)) b k _ _ (subF_in _ _).1 (subF_in _ _).2 (subF_in _ _).1 (subF_in _ _).2 G25.out.m).mono ?_
  rintro e w26 ⟨rfl, h⟩
  have G26 := Lib.hid (G25.out.fx h)
  have R26 := Lib.hid (R25.out.fx h (by have := G25.out.lt; omega))
  clear h G25 R25
  go_wp2_with fail
  refine (rfAdd_any (subF (mulF qx qz) (mulF qw qy)) (subF (mulF qx qz) (mulF qw qy)) b k _ _ (subF_in _ _).1 (subF_in _ _).2 (subF_in _ _).1 (subF_in _ _).2 G26.out.m).mono ?_
  rintro e w27 ⟨rfl, h⟩
  have G27 := Lib.hid (G26.out.fx h)
  have R27 := Lib.hid (R26.out.fx h (by have := G26.out.lt; omega))
  clear h G26 R26
  go_wp2_with fail
  refine (rfAdd_any (addF (mulF qy qz) (mulF qw qx)) (addF (mulF qy qz) (mulF qw qx)) b k _ _ (addF_in _ _).1 (addF_in _ _).2 (addF_in _ _).1 (addF_in _ _).2 G27.out.m).mono ?_
  rintro e w28 ⟨rfl, h⟩
  have G28 := Lib.hid (G27.out.fx h)
  have R28 := Lib.hid (R27.out.fx h (by have := G27.out.lt; omega))
  clear h G27 R27
  go_wp2_with fail
  refine (rfAdd_any (addF (mulF qx qx) (mulF qy qy)) (addF (mulF qx qx) (mulF qy qy)) b k _ _ (addF_in _ _).1 (addF_in _ _).2 (addF_in _ _).1 (addF_in _ _).2 G28.out.m).mono ?_
  rintro e w29 ⟨rfl, h⟩
  have G29 := Lib.hid (G28.out.fx h)
  have R29 := Lib.hid (R28.out.fx h (by have := G28.out.lt; omega))
  clear h G28 R28
  go_wp2_with fail
  refine (rfSub_any 4294967296 (addF (addF (mulF qx qx) (mulF qy qy)) (addF (mulF qx qx) (mulF qy qy))) b k _ _ (by omega) (by omega) (addF_in _ _).1 (addF_in _ _).2 G29.out.m).mono ?_
  rintro e w30 ⟨rfl, h⟩
  have G30 := Lib.hid (G29.out.fx h)
  have R30 := Lib.hid (R29.out.fx h (by have := G29.out.lt; omega))
  clear h G29 R29
  obtain ⟨r0, r1, r2, r3, r4, r5, r6, r7, r8⟩ := R30.out.h9
  have rf := R30.out.f
  go_wp2
  exact bodyPost_ret (v := .agg #[.int .i64 (diagF qy qz), .int .i64 (offF qx qy qw qz), .int .i64 (onF qx qz qw qy), .int .i64 (onF qx qy qw qz), .int .i64 (diagF qx qz), .int .i64 (offF qy qz qw qx), .int .i64 (offF qx qz qw qy), .int .i64 (onF qy qz qw qx), .int .i64 (diagF qx qy)]) (by simp [results, Try.results15, go_sem, r0, r1, r2, r3, r4, r5, r6, r7, r8, diagF, offF, onF]) rfl ⟨rfl, G30.out.put9 (by omega) _ _ _ _ _ _ _ _ _⟩
def dotO (a1 a2 a3 b1 b2 b3 : Int) : Bool := mulO a1 b1 || mulO a2 b2 || addO (mulF a1 b1) (mulF a2 b2) || mulO a3 b3 || addO (addF (mulF a1 b1) (mulF a2 b2)) (mulF a3 b3)
theorem rVDotO_any (a1 a2 a3 b1 b2 b3 : Int) (b k : Nat) (o : Bool) (w : World) (ha : In3 a1 a2 a3) (hb : In3 b1 b2 b3) (m : MAt w b k o) :
    Calls Try.prog 42 #[.pointer (some ⟨b, k, none⟩), .agg #[.int .i64 a1, .int .i64 a2, .int .i64 a3], .agg #[.int .i64 b1, .int .i64 b2, .int .i64 b3]] w fun e w' => e = .returned (.int .i64 (dotF a1 a2 a3 b1 b2 b3)) ∧ FxW w.heap.size w b k (o || dotO a1 a2 a3 b1 b2 b3) w' := by
  have E : (o || dotO a1 a2 a3 b1 b2 b3) = (o || mulO a1 b1 || mulO a2 b2 || addO (mulF a1 b1) (mulF a2 b2) || mulO a3 b3 || addO (addF (mulF a1 b1) (mulF a2 b2)) (mulF a3 b3)) := by unfold dotO; simp only [← Bool.or_assoc]
  rw [E]
  exact rVDot_any a1 a2 a3 b1 b2 b3 b k o w ha hb m
/-- a matrix whose parts fit -/
structure In9 (m1 m2 m3 m4 m5 m6 m7 m8 m9 : Int) : Prop where
  a : In3 m1 m2 m3
  b : In3 m4 m5 m6
  c : In3 m7 m8 m9
theorem in3_of {a b c : Int} (ha : In64 a) (hb : In64 b) (hc : In64 c) : In3 a b c := ⟨ha.1, ha.2, hb.1, hb.2, hc.1, hc.2⟩
theorem In3.q0 {a b c : Int} (h : In3 a b c) : In64 a ∧ In64 b ∧ In64 c := ⟨⟨h.x0, h.x1⟩, ⟨h.y0, h.y1⟩, ⟨h.z0, h.z1⟩⟩
theorem In9.turned {m1 m2 m3 m4 m5 m6 m7 m8 m9 : Int} (h : In9 m1 m2 m3 m4 m5 m6 m7 m8 m9) : In9 m1 m4 m7 m2 m5 m8 m3 m6 m9 :=
  ⟨in3_of h.a.q0.1 h.b.q0.1 h.c.q0.1, in3_of h.a.q0.2.1 h.b.q0.2.1 h.c.q0.2.1, in3_of h.a.q0.2.2 h.b.q0.2.2 h.c.q0.2.2⟩
theorem mat_in9 (qw qx qy qz : Int) : In9 (diagF qy qz) (offF qx qy qw qz) (onF qx qz qw qy) (onF qx qy qw qz) (diagF qx qz) (offF qy qz qw qx) (offF qx qz qw qy) (onF qy qz qw qx) (diagF qx qy) :=
  ⟨in3_of (subF_in _ _) (addF_in _ _) (addF_in _ _), in3_of (addF_in _ _) (subF_in _ _) (addF_in _ _), in3_of (addF_in _ _) (addF_in _ _) (subF_in _ _)⟩
set_option maxRecDepth 100000 in
set_option maxHeartbeats 4000000 in
theorem rQApply_any (m1 m2 m3 m4 m5 m6 m7 m8 m9 x y z : Int) (b k : Nat) (o : Bool) (w : World) (hm : In9 m1 m2 m3 m4 m5 m6 m7 m8 m9) (hv : In3 x y z) (m : MAt w b k o) :
    Calls Try.prog 17 #[.pointer (some ⟨b, k, none⟩), .agg #[.int .i64 m1, .int .i64 m2, .int .i64 m3, .int .i64 m4, .int .i64 m5, .int .i64 m6, .int .i64 m7, .int .i64 m8, .int .i64 m9], .agg #[.int .i64 x, .int .i64 y, .int .i64 z]] w fun e w' => e = .returned (.agg #[.int .i64 (dotF m1 m2 m3 x y z), .int .i64 (dotF m4 m5 m6 x y z), .int .i64 (dotF m7 m8 m9 x y z)]) ∧ FxW w.heap.size w b k (o || dotO m1 m2 m3 x y z || dotO m4 m5 m6 x y z || dotO m7 m8 m9 x y z) w' := by
  have HN := Lib.hid hm
  have HV := Lib.hid hv
  have HM := Lib.hid m
  clear hm hv m
  go_enter Try.func17, Try.ntmps17
  go_wp2_with fail
  refine wp_gen (S := fun W => BW W w.heap.size [.int .i64 m1, .int .i64 m2, .int .i64 m3, .int .i64 m4, .int .i64 m5, .int .i64 m6, .int .i64 m7, .int .i64 m8, .int .i64 m9] ∧ VW W (w.heap.size + 1) x y z ∧ VW W (w.heap.size + 1 + 1) 0 0 0 ∧ Below w.heap.size w W) ⟨((BW.new w w.heap.size [_, _, _, _, _, _, _, _, _] _ rfl).alloc _).alloc _, (VW.new _ (w.heap.size + 1) x y z _ (by simp)).alloc _, VW.new _ _ 0 0 0 _ (by simp), by repeat (first | exact Below.refl _ _ | assumption | refine Below.setCell ?_ (by first | omega | (simp; done) | (simp; omega)) _ | refine Below.alloc ?_ (by first | omega | (simp; done) | (simp; omega)) _ | refine below_drewN ?_ _ | refine Below.drew ?_ | refine Below.trans ?_ (Below.mono (by assumption) (by first | omega | (simp; done) | (simp; omega))))⟩ (fun W0 hS => ?_)
  have A0 := Lib.hid hS.1.drew
  have B0 := Lib.hid hS.2.1.drew
  have R0 := Lib.hid hS.2.2.1.drew
  have G0 := Lib.hid ((Flag.start HM.out hS.2.2.2).more ((Below.refl _ _).drew))
  clear hS HM
  refine wp_region_held_drew (S := fun W => (W.cell? ⟨w.heap.size, 0, none⟩ = some (.int .i64 m1) ∧ W.cell? ⟨w.heap.size, 1, none⟩ = some (.int .i64 m2) ∧ W.cell? ⟨w.heap.size, 2, none⟩ = some (.int .i64 m3) ∧ W.cell? ⟨w.heap.size, 3, none⟩ = some (.int .i64 m4) ∧ W.cell? ⟨w.heap.size, 4, none⟩ = some (.int .i64 m5) ∧ W.cell? ⟨w.heap.size, 5, none⟩ = some (.int .i64 m6) ∧ W.cell? ⟨w.heap.size, 6, none⟩ = some (.int .i64 m7) ∧ W.cell? ⟨w.heap.size, 7, none⟩ = some (.int .i64 m8) ∧ W.cell? ⟨w.heap.size, 8, none⟩ = some (.int .i64 m9)) ∧ (W.cell? ⟨w.heap.size + 1, 0, none⟩ = some (.int .i64 (x)) ∧ W.cell? ⟨w.heap.size + 1, 1, none⟩ = some (.int .i64 (y)) ∧ W.cell? ⟨w.heap.size + 1, 2, none⟩ = some (.int .i64 (z)))) (by kernel_rfl) ⟨A0.out.h9, B0.out.held⟩ (fun hHeld => ?_)
  refine wpAnyH_takeD 0 7 (v := ?_) (by kernel_rfl) (by kernel_rfl) (by kernel_rfl) (by kernel_rfl) (by rfl) (fun _ _ _ h => h) ?_ hHeld ?_
  rotate_left 1
  (intro o ho W hSw; simp only [List.getElem?_toArray, List.getElem?_cons_succ, List.getElem?_cons_zero, Option.some.injEq] at ho; subst ho; (try dsimp only at hSw); go_simp; try with_reducible rfl)
  (try simp only [Act.put, List.setIfInBounds_toArray, List.set_cons_zero, List.set_cons_succ])
  refine wpAnyH_takeD 1 8 (v := ?_) (by kernel_rfl) (by kernel_rfl) (by kernel_rfl) (by kernel_rfl) (by rfl) (fun _ _ _ h => h) ?_ hHeld ?_
  rotate_left 1
  (intro o ho W hSw; simp only [List.getElem?_toArray, List.getElem?_cons_succ, List.getElem?_cons_zero, Option.some.injEq] at ho; subst ho; (try dsimp only at hSw); go_simp; try with_reducible rfl)
  (try simp only [Act.put, List.setIfInBounds_toArray, List.set_cons_zero, List.set_cons_succ])
  refine wpAnyH_takeD 2 9 (v := ?_) (by kernel_rfl) (by kernel_rfl) (by kernel_rfl) (by kernel_rfl) (by rfl) (fun _ _ _ h => h) ?_ hHeld ?_
  rotate_left 1
  (intro o ho W hSw; simp only [List.getElem?_toArray, List.getElem?_cons_succ, List.getElem?_cons_zero, Option.some.injEq] at ho; subst ho; (try dsimp only at hSw); go_simp; try with_reducible rfl)
  (try simp only [Act.put, List.setIfInBounds_toArray, List.set_cons_zero, List.set_cons_succ])
  refine wpAnyH_takeD 3 10 (v := ?_) (by kernel_rfl) (by kernel_rfl) (by kernel_rfl) (by kernel_rfl) (by rfl) (fun _ _ _ h => h) ?_ hHeld ?_
  rotate_left 1
  (intro o ho W hSw; simp only [List.getElem?_toArray, List.getElem?_cons_succ, List.getElem?_cons_zero, Option.some.injEq] at ho; subst ho; (try dsimp only at hSw); go_simp; try with_reducible rfl)
  (try simp only [Act.put, List.setIfInBounds_toArray, List.set_cons_zero, List.set_cons_succ])
  refine wpAnyH_takeD 5 12 (v := ?_) (by kernel_rfl) (by kernel_rfl) (by kernel_rfl) (by kernel_rfl) (by rfl) (fun _ _ _ h => h) ?_ hHeld ?_
  rotate_left 1
  (intro o ho W hSw; simp only [List.getElem?_toArray, List.getElem?_cons_succ, List.getElem?_cons_zero, Option.some.injEq] at ho; subst ho; (try dsimp only at hSw); go_simp; try with_reducible rfl)
  (try simp only [Act.put, List.setIfInBounds_toArray, List.set_cons_zero, List.set_cons_succ])
  refine wpAnyH_takeD 6 13 (v := ?_) (by kernel_rfl) (by kernel_rfl) (by kernel_rfl) (by kernel_rfl) (by rfl) (fun _ _ _ h => h) ?_ hHeld ?_
  rotate_left 1
  (intro o ho W hSw; simp only [List.getElem?_toArray, List.getElem?_cons_succ, List.getElem?_cons_zero, Option.some.injEq] at ho; subst ho; (try dsimp only at hSw); go_simp; try with_reducible rfl)
  (try simp only [Act.put, List.setIfInBounds_toArray, List.set_cons_zero, List.set_cons_succ])
  refine wpAnyH_takeD 7 14 (v := ?_) (by kernel_rfl) (by kernel_rfl) (by kernel_rfl) (by kernel_rfl) (by rfl) (fun _ _ _ h => h) ?_ hHeld ?_
  rotate_left 1
  (intro o ho W hSw; simp only [List.getElem?_toArray, List.getElem?_cons_succ, List.getElem?_cons_zero, Option.some.injEq] at ho; subst ho; (try dsimp only at hSw); go_simp; try with_reducible rfl)
  (try simp only [Act.put, List.setIfInBounds_toArray, List.set_cons_zero, List.set_cons_succ])
  refine wpAnyH_takeD 8 15 (v := ?_) (by kernel_rfl) (by kernel_rfl) (by kernel_rfl) (by kernel_rfl) (by rfl) (fun _ _ _ h => h) ?_ hHeld ?_
  rotate_left 1
  (intro o ho W hSw; simp only [List.getElem?_toArray, List.getElem?_cons_succ, List.getElem?_cons_zero, Option.some.injEq] at ho; subst ho; (try dsimp only at hSw); go_simp; try with_reducible rfl)
  (try simp only [Act.put, List.setIfInBounds_toArray, List.set_cons_zero, List.set_cons_succ])
  refine wpAnyH_takeD 10 17 (v := ?_) (by kernel_rfl) (by kernel_rfl) (by kernel_rfl) (by kernel_rfl) (by rfl) (fun _ _ _ h => h) ?_ hHeld ?_
  rotate_left 1
  (intro o ho W hSw; simp only [List.getElem?_toArray, List.getElem?_cons_succ, List.getElem?_cons_zero, Option.some.injEq] at ho; subst ho; (try dsimp only at hSw); go_simp; try with_reducible rfl)
  (try simp only [Act.put, List.setIfInBounds_toArray, List.set_cons_zero, List.set_cons_succ])
  refine wpAnyH_takeD 11 18 (v := ?_) (by kernel_rfl) (by kernel_rfl) (by kernel_rfl) (by kernel_rfl) (by rfl) (fun _ _ _ h => h) ?_ hHeld ?_
  rotate_left 1
  (intro o ho W hSw; simp only [List.getElem?_toArray, List.getElem?_cons_succ, List.getElem?_cons_zero, Option.some.injEq] at ho; subst ho; (try dsimp only at hSw); go_simp; try with_reducible rfl)
  (try simp only [Act.put, List.setIfInBounds_toArray, List.set_cons_zero, List.set_cons_succ])
  refine wpAnyH_takeD 12 19 (v := ?_) (by kernel_rfl) (by kernel_rfl) (by kernel_rfl) (by kernel_rfl) (by rfl) (fun _ _ _ h => h) ?_ hHeld ?_
  rotate_left 1
  (intro o ho W hSw; simp only [List.getElem?_toArray, List.getElem?_cons_succ, List.getElem?_cons_zero, Option.some.injEq] at ho; subst ho; (try dsimp only at hSw); go_simp; try with_reducible rfl)
  (try simp only [Act.put, List.setIfInBounds_toArray, List.set_cons_zero, List.set_cons_succ])
  refine wpAnyH_takeD 13 20 (v := ?_) (by kernel_rfl) (by kernel_rfl) (by kernel_rfl) (by kernel_rfl) (by rfl) (fun _ _ _ h => h) ?_ hHeld ?_
  rotate_left 1
  (intro o ho W hSw; simp only [List.getElem?_toArray, List.getElem?_cons_succ, List.getElem?_cons_zero, Option.some.injEq] at ho; subst ho; (try dsimp only at hSw); go_simp; try with_reducible rfl)
  (try simp only [Act.put, List.setIfInBounds_toArray, List.set_cons_zero, List.set_cons_succ])
  refine wpAnyH_onlyD 4 (by kernel_rfl) (fun o ho K hK => ?_) (by kernel_rfl)
  simp only [List.getElem?_toArray, List.getElem?_cons_succ, List.getElem?_cons_zero, Option.some.injEq] at ho
  subst ho
  go_simp
  refine (rVDotO_any m1 m2 m3 x y z b k _ _ HN.out.a HV.out G0.out.m).mono ?_
  rintro e w1 ⟨rfl, h⟩
  have G1 := Lib.hid (G0.out.fx h)
  have A1 := Lib.hid (A0.out.fx h (by have := G0.out.lt; omega))
  (try have B1 := Lib.hid (B0.out.fx h (by have := G0.out.lt; omega)))
  (try have R1 := Lib.hid (R0.out.fx h (by have := G0.out.lt; omega)))
  (try have P1 := Lib.hid (P0.out.fx h))
  (try have I1 := Lib.hid (I0.out.fx h hbi))
  go_wp2_with fail
  refine hK.out _ _ (⟨A1.out.h9, B1.out.held⟩) ?_
  clear hK K hHeld
  intro hHeld
  clear h G0 A0
  (try clear B0)
  (try clear R0)
  (try clear P0)
  (try clear I0)
  refine wpAnyH_onlyD 9 (by kernel_rfl) (fun o ho K hK => ?_) (by kernel_rfl)
  simp only [List.getElem?_toArray, List.getElem?_cons_succ, List.getElem?_cons_zero, Option.some.injEq] at ho
  subst ho
  go_simp
  refine (rVDotO_any m4 m5 m6 x y z b k _ _ HN.out.b HV.out G1.out.m).mono ?_
  rintro e w2 ⟨rfl, h⟩
  have G2 := Lib.hid (G1.out.fx h)
  have A2 := Lib.hid (A1.out.fx h (by have := G1.out.lt; omega))
  (try have B2 := Lib.hid (B1.out.fx h (by have := G1.out.lt; omega)))
  (try have R2 := Lib.hid (R1.out.fx h (by have := G1.out.lt; omega)))
  (try have P2 := Lib.hid (P1.out.fx h))
  (try have I2 := Lib.hid (I1.out.fx h hbi))
  go_wp2_with fail
  refine hK.out _ _ (⟨A2.out.h9, B2.out.held⟩) ?_
  clear hK K hHeld
  intro hHeld
  clear h G1 A1
  (try clear B1)
  (try clear R1)
  (try clear P1)
  (try clear I1)
  refine wpAnyH_onlyD 14 (by kernel_rfl) (fun o ho K hK => ?_) (by kernel_rfl)
  simp only [List.getElem?_toArray, List.getElem?_cons_succ, List.getElem?_cons_zero, Option.some.injEq] at ho
  subst ho
  go_simp
  refine (rVDotO_any m7 m8 m9 x y z b k _ _ HN.out.c HV.out G2.out.m).mono ?_
  rintro e w3 ⟨rfl, h⟩
  have G3 := Lib.hid (G2.out.fx h)
  have A3 := Lib.hid (A2.out.fx h (by have := G2.out.lt; omega))
  (try have B3 := Lib.hid (B2.out.fx h (by have := G2.out.lt; omega)))
  (try have R3 := Lib.hid (R2.out.fx h (by have := G2.out.lt; omega)))
  (try have P3 := Lib.hid (P2.out.fx h))
  (try have I3 := Lib.hid (I2.out.fx h hbi))
  go_wp2_with fail
  refine hK.out _ _ (⟨A3.out.h9, B3.out.held⟩) ?_
  clear hK K hHeld
  intro hHeld
  clear h G2 A2
  (try clear B2)
  (try clear R2)
  (try clear P2)
  (try clear I2)
  refine wpAnyH_takeD 15 22 (v := ?_) (by kernel_rfl) (by kernel_rfl) (by kernel_rfl) (by kernel_rfl) (by rfl) (fun _ _ _ h => h) ?_ hHeld ?_
  rotate_left 1
  (intro o ho W hSw; simp only [List.getElem?_toArray, List.getElem?_cons_succ, List.getElem?_cons_zero, Option.some.injEq] at ho; subst ho; (try dsimp only at hSw); go_simp; try with_reducible rfl)
  (try simp only [Act.put, List.setIfInBounds_toArray, List.set_cons_zero, List.set_cons_succ])
  have r0 := R3.out.c0
  have r1 := R3.out.c1
  have r2 := R3.out.c2
  have rf := R3.out.f
  refine wpAnyH_onlyD 16 (by kernel_rfl) (fun o ho K hK => ?_) (by kernel_rfl)
  simp only [List.getElem?_toArray, List.getElem?_cons_succ, List.getElem?_cons_zero, Option.some.injEq] at ho
  subst ho
  go_simp
  refine hK.out _ _ (⟨(((A3.out.far (by omega) _ _).far (by omega) _ _).far (by omega) _ _).h9, (((B3.out.far (by omega) _ _).far (by omega) _ _).far (by omega) _ _).held⟩) ?_
  clear hK K hHeld
  intro hHeld
  refine wpAnyH_done (by kernel_rfl) ?_ _
  go_wp2
  exact bodyPost_ret (v := .agg #[.int .i64 (dotF m1 m2 m3 x y z), .int .i64 (dotF m4 m5 m6 x y z), .int .i64 (dotF m7 m8 m9 x y z)]) (by simp [results, Try.results17, go_sem, r0, r1, r2]) rfl ⟨rfl, G3.out.put3 (by omega) _ _ _⟩
set_option maxRecDepth 100000 in
set_option maxHeartbeats 2000000 in
theorem rQTurned_any (m1 m2 m3 m4 m5 m6 m7 m8 m9 : Int) (w : World) :
    Calls Try.prog 44 #[.agg #[.int .i64 m1, .int .i64 m2, .int .i64 m3, .int .i64 m4, .int .i64 m5, .int .i64 m6, .int .i64 m7, .int .i64 m8, .int .i64 m9]] w fun e w' => e = .returned (.agg #[.int .i64 m1, .int .i64 m4, .int .i64 m7, .int .i64 m2, .int .i64 m5, .int .i64 m8, .int .i64 m3, .int .i64 m6, .int .i64 m9]) ∧ Below w.heap.size w w' := by
  go_enter Try.func44, Try.ntmps44
  go_wp2
  exact bodyPost_ret (v := .agg #[.int .i64 m1, .int .i64 m4, .int .i64 m7, .int .i64 m2, .int .i64 m5, .int .i64 m8, .int .i64 m3, .int .i64 m6, .int .i64 m9]) (by simp [results, Try.results44, go_sem]) rfl ⟨rfl, by repeat (first | exact Below.refl _ _ | assumption | refine Below.setCell ?_ (by first | omega | (simp; done) | (simp; omega)) _ | refine Below.alloc ?_ (by first | omega | (simp; done) | (simp; omega)) _ | refine below_drewN ?_ _ | refine Below.drew ?_ | refine Below.trans ?_ (Below.mono (by assumption) (by first | omega | (simp; done) | (simp; omega))))⟩
set_option maxRecDepth 100000 in
set_option maxHeartbeats 4000000 in
theorem rQBack_any (m1 m2 m3 m4 m5 m6 m7 m8 m9 x y z : Int) (b k : Nat) (o : Bool) (w : World) (hm : In9 m1 m2 m3 m4 m5 m6 m7 m8 m9) (hv : In3 x y z) (m : MAt w b k o) :
    Calls Try.prog 19 #[.pointer (some ⟨b, k, none⟩), .agg #[.int .i64 m1, .int .i64 m2, .int .i64 m3, .int .i64 m4, .int .i64 m5, .int .i64 m6, .int .i64 m7, .int .i64 m8, .int .i64 m9], .agg #[.int .i64 x, .int .i64 y, .int .i64 z]] w fun e w' => e = .returned (.agg #[.int .i64 (dotF m1 m4 m7 x y z), .int .i64 (dotF m2 m5 m8 x y z), .int .i64 (dotF m3 m6 m9 x y z)]) ∧ FxW w.heap.size w b k (o || dotO m1 m4 m7 x y z || dotO m2 m5 m8 x y z || dotO m3 m6 m9 x y z) w' := by
  have HN := Lib.hid hm
  have HV := Lib.hid hv
  have HM := Lib.hid m
  clear hm hv m
  go_enter Try.func19, Try.ntmps19
  go_wp2_with fail
  refine wp_gen (S := fun W => BW W w.heap.size [.int .i64 m1, .int .i64 m2, .int .i64 m3, .int .i64 m4, .int .i64 m5, .int .i64 m6, .int .i64 m7, .int .i64 m8, .int .i64 m9] ∧ VW W (w.heap.size + 1) x y z ∧ VW W (w.heap.size + 1 + 1) 0 0 0 ∧ Below w.heap.size w W) ⟨((BW.new w w.heap.size [_, _, _, _, _, _, _, _, _] _ rfl).alloc _).alloc _, (VW.new _ (w.heap.size + 1) x y z _ (by simp)).alloc _, VW.new _ _ 0 0 0 _ (by simp), by repeat (first | exact Below.refl _ _ | assumption | refine Below.setCell ?_ (by first | omega | (simp; done) | (simp; omega)) _ | refine Below.alloc ?_ (by first | omega | (simp; done) | (simp; omega)) _ | refine below_drewN ?_ _ | refine Below.drew ?_ | refine Below.trans ?_ (Below.mono (by assumption) (by first | omega | (simp; done) | (simp; omega))))⟩ (fun W0 hS => ?_)
  have A0 := Lib.hid hS.1.drew
  have B0 := Lib.hid hS.2.1.drew
  have R0 := Lib.hid hS.2.2.1.drew
  have G0 := Lib.hid ((Flag.start HM.out hS.2.2.2).more ((Below.refl _ _).drew))
  clear hS HM
  refine wp_region_held_drew (S := fun W => (W.cell? ⟨w.heap.size, 0, none⟩ = some (.int .i64 m1) ∧ W.cell? ⟨w.heap.size, 1, none⟩ = some (.int .i64 m2) ∧ W.cell? ⟨w.heap.size, 2, none⟩ = some (.int .i64 m3) ∧ W.cell? ⟨w.heap.size, 3, none⟩ = some (.int .i64 m4) ∧ W.cell? ⟨w.heap.size, 4, none⟩ = some (.int .i64 m5) ∧ W.cell? ⟨w.heap.size, 5, none⟩ = some (.int .i64 m6) ∧ W.cell? ⟨w.heap.size, 6, none⟩ = some (.int .i64 m7) ∧ W.cell? ⟨w.heap.size, 7, none⟩ = some (.int .i64 m8) ∧ W.cell? ⟨w.heap.size, 8, none⟩ = some (.int .i64 m9)) ∧ (W.cell? ⟨w.heap.size + 1, 0, none⟩ = some (.int .i64 (x)) ∧ W.cell? ⟨w.heap.size + 1, 1, none⟩ = some (.int .i64 (y)) ∧ W.cell? ⟨w.heap.size + 1, 2, none⟩ = some (.int .i64 (z)))) (by kernel_rfl) ⟨A0.out.h9, B0.out.held⟩ (fun hHeld => ?_)
  refine wpAnyH_takeD 0 7 (v := ?_) (by kernel_rfl) (by kernel_rfl) (by kernel_rfl) (by kernel_rfl) (by rfl) (fun _ _ _ h => h) ?_ hHeld ?_
  rotate_left 1
  (intro o ho W hSw; simp only [List.getElem?_toArray, List.getElem?_cons_succ, List.getElem?_cons_zero, Option.some.injEq] at ho; subst ho; (try dsimp only at hSw); go_simp; try with_reducible rfl)
  (try simp only [Act.put, List.setIfInBounds_toArray, List.set_cons_zero, List.set_cons_succ])
  refine wpAnyH_takeD 1 8 (v := ?_) (by kernel_rfl) (by kernel_rfl) (by kernel_rfl) (by kernel_rfl) (by rfl) (fun _ _ _ h => h) ?_ hHeld ?_
  rotate_left 1
  (intro o ho W hSw; simp only [List.getElem?_toArray, List.getElem?_cons_succ, List.getElem?_cons_zero, Option.some.injEq] at ho; subst ho; (try dsimp only at hSw); go_simp; try with_reducible rfl)
  (try simp only [Act.put, List.setIfInBounds_toArray, List.set_cons_zero, List.set_cons_succ])
  refine wpAnyH_takeD 3 10 (v := ?_) (by kernel_rfl) (by kernel_rfl) (by kernel_rfl) (by kernel_rfl) (by rfl) (fun _ _ _ h => h) ?_ hHeld ?_
  rotate_left 1
  (intro o ho W hSw; simp only [List.getElem?_toArray, List.getElem?_cons_succ, List.getElem?_cons_zero, Option.some.injEq] at ho; subst ho; (try dsimp only at hSw); go_simp; try with_reducible rfl)
  (try simp only [Act.put, List.setIfInBounds_toArray, List.set_cons_zero, List.set_cons_succ])
  refine wpAnyH_onlyD 2 (by kernel_rfl) (fun o ho K hK => ?_) (by kernel_rfl)
  simp only [List.getElem?_toArray, List.getElem?_cons_succ, List.getElem?_cons_zero, Option.some.injEq] at ho
  subst ho
  go_simp
  refine (rQTurned_any m1 m2 m3 m4 m5 m6 m7 m8 m9 _).mono ?_
  rintro e w1 ⟨rfl, h⟩
  have G1 := Lib.hid (G0.out.more h)
  have A1 := Lib.hid (A0.out.below h A0.out.lt)
  have B1 := Lib.hid (B0.out.below h B0.out.lt)
  have R1 := Lib.hid (R0.out.below h R0.out.lt)
  go_wp2_with fail
  refine hK.out _ _ (⟨A1.out.h9, B1.out.held⟩) ?_
  clear hK K hHeld
  intro hHeld
  clear h G0 A0 B0 R0
  refine wpAnyH_onlyD 4 (by kernel_rfl) (fun o ho K hK => ?_) (by kernel_rfl)
  simp only [List.getElem?_toArray, List.getElem?_cons_succ, List.getElem?_cons_zero, Option.some.injEq] at ho
  subst ho
  go_simp
  refine (rQApply_any m1 m4 m7 m2 m5 m8 m3 m6 m9 x y z b k _ _ HN.out.turned HV.out G1.out.m).mono ?_
  rintro e w2 ⟨rfl, h⟩
  have G2 := Lib.hid (G1.out.fx h)
  have A2 := Lib.hid (A1.out.fx h (by have := G1.out.lt; omega))
  (try have B2 := Lib.hid (B1.out.fx h (by have := G1.out.lt; omega)))
  (try have R2 := Lib.hid (R1.out.fx h (by have := G1.out.lt; omega)))
  (try have P2 := Lib.hid (P1.out.fx h))
  (try have I2 := Lib.hid (I1.out.fx h hbi))
  go_wp2_with fail
  refine hK.out _ _ (⟨A2.out.h9, B2.out.held⟩) ?_
  clear hK K hHeld
  intro hHeld
  clear h G1 A1
  (try clear B1)
  (try clear R1)
  (try clear P1)
  (try clear I1)
  have r0 := R2.out.c0
  have r1 := R2.out.c1
  have r2 := R2.out.c2
  have rf := R2.out.f
  refine wpAnyH_onlyD 5 (by kernel_rfl) (fun o ho K hK => ?_) (by kernel_rfl)
  simp only [List.getElem?_toArray, List.getElem?_cons_succ, List.getElem?_cons_zero, Option.some.injEq] at ho
  subst ho
  go_simp
  refine hK.out _ _ (⟨(((A2.out.far (by omega) _ _).far (by omega) _ _).far (by omega) _ _).h9, (((B2.out.far (by omega) _ _).far (by omega) _ _).far (by omega) _ _).held⟩) ?_
  clear hK K hHeld
  intro hHeld
  refine wpAnyH_done (by kernel_rfl) ?_ _
  go_wp2
  exact bodyPost_ret (v := .agg #[.int .i64 (dotF m1 m4 m7 x y z), .int .i64 (dotF m2 m5 m8 x y z), .int .i64 (dotF m3 m6 m9 x y z)]) (by simp [results, Try.results19, go_sem, r0, r1, r2]) rfl ⟨rfl, G2.out.put3 (by omega) _ _ _⟩
set_option maxHeartbeats 1000000 in
theorem rQAbout_any (t : Int) (w : World) (t0 : 0 ≤ t) (t1 : t ≤ 4294967295) :
    Calls Try.prog 23 #[.int .u32 t] w fun e w' => e = .returned (.agg #[.int .i64 (cosF (t / 2)), .int .i64 0, .int .i64 0, .int .i64 (sinF (t / 2))]) ∧ Below w.heap.size w w' := by
  go_enter Try.func23, Try.ntmps23
  go_wp2_with fail
  refine calls_gen (S := fun W => BW W w.heap.size [.int .i64 0, .int .i64 0, .int .i64 0, .int .i64 0] ∧ Below w.heap.size w W) ⟨BW.new _ _ [_, _, _, _] _ rfl, by repeat (first | exact Below.refl _ _ | assumption | refine Below.setCell ?_ (by first | omega | (simp; done) | (simp; omega)) _ | refine Below.alloc ?_ (by first | omega | (simp; done) | (simp; omega)) _ | refine below_drewN ?_ _ | refine Below.drew ?_ | refine Below.trans ?_ (Below.mono (by assumption) (by first | omega | (simp; done) | (simp; omega))))⟩ (fun W0 hS => ?_)
  have R0 := Lib.hid hS.1
  have L0 := Lib.hid hS.2
  clear hS
  refine (rCos_any (t / 2) _ (by omega) (by omega)).mono ?_
  rintro e w1 ⟨rfl, h⟩
  have R1 := Lib.hid (R0.out.below h R0.out.lt)
  have L1 := Lib.hid (L0.out.trans (h.mono L0.out.size))
  clear h R0 L0
  go_wp2_with fail
  refine (rSin_any (t / 2) _ (by omega) (by omega)).mono ?_
  rintro e w2 ⟨rfl, h⟩
  have R2 := Lib.hid (R1.out.below h R1.out.lt)
  have L2 := Lib.hid (L1.out.trans (h.mono L1.out.size))
  clear h R1 L1
  obtain ⟨r0, r1, r2, r3⟩ := R2.out.h4
  have rf := R2.out.f
  go_wp2
  exact bodyPost_ret (v := .agg #[.int .i64 (cosF (t / 2)), .int .i64 0, .int .i64 0, .int .i64 (sinF (t / 2))]) (by simp [results, Try.results23, go_sem, r0, r1, r2, r3]) rfl ⟨rfl, (((L2.out.setCell (p := ⟨w.heap.size, 0, none⟩) (by simp) _).setCell (p := ⟨w.heap.size, 1, none⟩) (by simp) _).setCell (p := ⟨w.heap.size, 2, none⟩) (by simp) _).setCell (p := ⟨w.heap.size, 3, none⟩) (by simp) _⟩
end Go.Proofs.Ytldcmiomfahaoaa

/- The walk of SplineBegins. -/
import Derived.Test.YtjdhjabbojceeaaSi
import Derived.Test.YtjdhjabbojceeaaBx
namespace Go.Proofs.Ytjdhjabbojceeaa
open Go.RowKit
set_option linter.unusedVariables false
set_option linter.unusedSimpArgs false

/-- while a piece is looked at -/
structure BgW (w W : World) (a : Option Addr) (n c : Nat) (X Y : Nat → Int) (b m : Nat) (xq yq : Int) : Prop where
  d : Dots W a n c X Y
  f : MAt W b 0 false
  A : BW W m [.int .i64 xq, .int .i64 yq]
  B : BW W (m + 1) [.int .i64 xq, .int .i64 yq]
  l : Below w.heap.size w W
  z : w.heap.size ≤ b ∧ b < m
  e : 0 < n → ∀ x, a = some x → x.block < w.heap.size
theorem BgW.step {w W W' : World} {a : Option Addr} {n c : Nat} {X Y : Nat → Int} {b m : Nat} {xq yq : Int} (Q : BgW w W a n c X Y b m xq yq) (h : Below W.heap.size W W') : BgW w W' a n c X Y b m xq yq :=
  ⟨Q.d.below h (Nat.le_refl _), Q.f.below h Q.f.lt, Q.A.below h Q.A.lt, Q.B.below h Q.B.lt, Q.l.trans (h.mono Q.l.size), Q.z, Q.e⟩
theorem BgW.fx {w W W' : World} {a : Option Addr} {n c : Nat} {X Y : Nat → Int} {b m : Nat} {xq yq : Int} (Q : BgW w W a n c X Y b m xq yq) (h : FxW W.heap.size W b 0 false W') : BgW w W' a n c X Y b m xq yq :=
  ⟨Q.d.fx h (fun h0 x e => by have := Q.e h0 x e; have := Q.z; omega), h.at Q.f Q.f.lt, Q.A.fx h (by have := Q.z; omega), Q.B.fx h (by have := Q.z; omega), Q.l.trans (h.below Q.l.size Q.z.1), Q.z, Q.e⟩
def BgS (b m p off j : Nat) (x y xq yq : Int) (W : World) : Prop :=
  (W.cell? ⟨p, off + j * 2, none⟩ = some (.int .i64 x) ∧ W.cell? ⟨p, off + j * 2 + 1, none⟩ = some (.int .i64 y)) ∧ (W.cell? ⟨m, 0, none⟩ = some (.int .i64 xq) ∧ W.cell? ⟨m, 1, none⟩ = some (.int .i64 yq)) ∧ (W.cell? ⟨m + 1, 0, none⟩ = some (.int .i64 xq) ∧ W.cell? ⟨m + 1, 1, none⟩ = some (.int .i64 yq)) ∧ W.cell? ⟨b, 0, none⟩ = some (.bool false)
theorem BgW.s {w W : World} {n c p off : Nat} {X Y : Nat → Int} {b m : Nat} {xq yq : Int} (Q : BgW w W (some ⟨p, off, none⟩) n c X Y b m xq yq) {j : Nat} (h : j < n) : BgS b m p off j (X j) (Y j) xq yq W := by
  obtain ⟨p', off', e, -, hc⟩ := Q.d.at' (by omega)
  cases e
  exact ⟨hc j h, Q.A.h2'', Q.B.h2'', Q.f.c⟩
set_option maxRecDepth 100000 in
set_option maxHeartbeats 8000000 in
theorem sbegins_walk (C : SplineC) (a : Option Addr) (n c : Nat) (X Y : Nat → Int) (i : Int) (w : World) (hi : In64 i) (D : Dots w a n c X Y) :
    Calls Try.prog 7 #[.slice a n c, .int .i64 i] w fun e w' => e = .returned (.bool true) ∧ Below w.heap.size w w' := by
  have HC := Lib.hid C
  have HD := Lib.hid D
  have L0 := Lib.hid (Below.refl w.heap.size w)
  clear C D
  by_cases hn : n ≤ 100
  rotate_left
  · have g : (100 : Int) < n := by omega
    go_enter Try.func7, Try.ntmps7
    go_wp2_with fail
    refine (splineAwake_any HC.out _).mono ?_
    rintro e w9 ⟨rfl, h⟩
    have L9 := Lib.hid (L0.out.trans (h.mono L0.out.size))
    clear h
    go_wp2
    go_ret
    exact ⟨rfl, L9.out⟩
  have g : ¬ (100 : Int) < n := by omega
  have X1 := Lib.hid (fun (W : World) (D : Dots W a n c X Y) => HC.out.right a n c X Y W hn D)
  by_cases hl : lineR n X Y = 0
  rotate_left
  · generalize lineR n X Y = q at *
    go_enter Try.func7, Try.ntmps7
    go_wp2_with fail
    refine (X1.out _ HD.out).mono ?_
    rintro e w1 ⟨rfl, h⟩
    have L1 := Lib.hid h
    have D1 := Lib.hid (HD.out.below h (Nat.le_refl _))
    clear h
    go_wp2_with fail
    refine (splineAwake_any HC.out _).mono ?_
    rintro e w9 ⟨rfl, h⟩
    have L9 := Lib.hid (L1.out.trans (h.mono L1.out.size))
    clear h
    go_wp2
    go_ret
    exact ⟨rfl, L9.out⟩
  have PE := Lib.hid (fun (k : Nat) (hk : k < n) => place_ends hl hk)
  have NR := Lib.hid (lineR_ok hl).2.2
  rw [hl] at X1
  by_cases h0 : i < 0
  · skip
    go_enter Try.func7, Try.ntmps7
    go_wp2_with fail
    refine (X1.out _ HD.out).mono ?_
    rintro e w1 ⟨rfl, h⟩
    have L1 := Lib.hid h
    have D1 := Lib.hid (HD.out.below h (Nat.le_refl _))
    clear h
    go_wp2_with fail
    refine (splineAwake_any HC.out _).mono ?_
    rintro e w9 ⟨rfl, h⟩
    have L9 := Lib.hid (L1.out.trans (h.mono L1.out.size))
    clear h
    go_wp2
    go_ret
    exact ⟨rfl, L9.out⟩
  by_cases h1 : (n : Int) ≤ i
  · skip
    go_enter Try.func7, Try.ntmps7
    go_wp2_with fail
    refine (X1.out _ HD.out).mono ?_
    rintro e w1 ⟨rfl, h⟩
    have L1 := Lib.hid h
    have D1 := Lib.hid (HD.out.below h (Nat.le_refl _))
    clear h
    go_wp2_with fail
    refine (splineAwake_any HC.out _).mono ?_
    rintro e w9 ⟨rfl, h⟩
    have L9 := Lib.hid (L1.out.trans (h.mono L1.out.size))
    clear h
    go_wp2
    go_ret
    exact ⟨rfl, L9.out⟩
  obtain ⟨j, hj⟩ : ∃ j : Nat, i = (j : Int) := ⟨i.toNat, by omega⟩
  subst hj
  have hjn : j < n := by omega
  have hn0 : 0 < n := by omega
  obtain ⟨⟨s1, s2, s3⟩, t1, t2, t3⟩ := PE.out j hjn
  have X2 := Lib.hid (fun (b : Nat) (W : World) (D : Dots W a n c X Y) (m : MAt W b 0 false) (hne : 0 < n → ∀ p, a = some p → p.block ≠ b) => by
    have := HC.out.at_ a n c X Y (j : Int) 4294967296 b 0 false W hn hi ⟨by omega, by omega⟩ D m hne
    rw [t1, t2, t3] at this
    exact this)
  have X3 := Lib.hid (fun (b : Nat) (W : World) (D : Dots W a n c X Y) (m : MAt W b 0 false) (hne : 0 < n → ∀ p, a = some p → p.block ≠ b) => by
    have := HC.out.at_ a n c X Y (j : Int) 0 b 0 false W hn hi ⟨by omega, by omega⟩ D m hne
    rw [s1, s2, s3] at this
    exact this)
  have hq : (j + 1) % n < n := Nat.mod_lt _ hn0
  have e2 : Int.tmod ((j : Int) + 1) (n : Int) = (((j + 1) % n : Nat) : Int) := on_tmod 1
  have X5 := Lib.hid (fun (b : Nat) (W : World) (m : MAt W b 0 false) => by
    have := fxAbs_any 0 b 0 false W (by omega) (by omega) m
    rw [show absF 0 = 0 from rfl, show (false || absO 0) = false from rfl] at this
    exact this)
  generalize (j + 1) % n = q at *
  obtain ⟨p, off, ha, hp, -⟩ := HD.out.at' hn0
  subst ha
  clear s1 s2 s3 t1 t2 t3 PE NR hl h1 hi
  have h1 : ¬ (n : Int) ≤ (j : Int) := by omega
  go_enter Try.func7, Try.ntmps7
  go_wp2_with fail
  refine (X1.out _ HD.out).mono ?_
  rintro e w1 ⟨rfl, h⟩
  have L1 := Lib.hid h
  have D1 := Lib.hid (HD.out.below h (Nat.le_refl _))
  clear h
  have hz : w.heap.size ≤ w1.heap.size := L1.out.size
  have hp1 : p < w1.heap.size := by omega
  go_wp2_with fail
  refine calls_gen (S := fun W => (Dots W (some ⟨p, off, none⟩) n c X Y ∧ MAt W w1.heap.size 0 false) ∧ Below w.heap.size w W) ⟨⟨D1.out.below ((Below.refl _ _).alloc (Nat.le_refl _) _) (Nat.le_refl _), MAt.new w1 _ _⟩, L1.out.alloc hz _⟩ (fun W2 hS => ?_)
  have D2 := Lib.hid hS.1.1
  have M2 := Lib.hid hS.1.2
  have L2 := Lib.hid hS.2
  clear hS D1 L1
  generalize w1.heap.size = b at *
  refine (X2.out b _ D2.out M2.out (fun _ x e => by cases e; show p ≠ b; omega)).mono ?_
  rintro e w3 ⟨rfl, h⟩
  have D3 := Lib.hid (D2.out.fx h (fun _ x e => by cases e; show p ≠ b; omega))
  have M3 := Lib.hid (h.at M2.out M2.out.lt)
  have L3 := Lib.hid (L2.out.trans (h.below L2.out.size hz))
  clear h D2 M2 L2
  obtain ⟨p', off', ea, hp3, hc⟩ := D3.out.at' hn0
  obtain ⟨rfl, rfl⟩ : p = p' ∧ off = off' := by cases ea; exact ⟨rfl, rfl⟩
  obtain ⟨c2, c3⟩ := hc q hq
  have z0 : (j : Int) < (n : Int) := by omega
  have z1 : (q : Int) < (n : Int) := Int.ofNat_lt.mpr hq
  have z2 : (0 : Int) ≤ (j : Int) := by omega
  have zn : ¬ (n : Int) = 0 := by omega
  have hp4 : p < w3.heap.size + 1 := by omega
  have hb3 : b < w3.heap.size := M3.out.lt
  clear hc ea
  go_wp2_with fail
  refine wp_gen (S := fun W => BgW w W (some ⟨p, off, none⟩) n c X Y b w3.heap.size (X q) (Y q)) ⟨(D3.out.below ((Below.refl _ _).alloc (Nat.le_refl _) _) (Nat.le_refl _)).below ((Below.refl _ _).alloc (Nat.le_refl _) _) (Nat.le_refl _), (M3.out.alloc _).alloc _, (BW.new w3 _ [_, _] _ rfl).alloc _, BW.new _ _ [_, _] _ (by simp), (L3.out.alloc L3.out.size _).alloc (by simp; have := L3.out.size; omega) _, ⟨hz, hb3⟩, fun _ x e => by cases e; exact hp⟩ (fun W4 hS => ?_)
  have Q0 := Lib.hid (hS.step (Below.refl _ _).drew)
  clear hS D3 M3 L3 c2 c3
  generalize w3.heap.size = m at *
  refine wp_region_held_drew (S := BgS b m p off j (X j) (Y j) (X q) (Y q)) (by kernel_rfl) (Q0.out.s hjn) (fun hHeld => ?_)
  generalize W4.drew = w0 at *
  unfold BgS at hHeld ⊢
  refine wpAnyH_takeD 0 41 (v := ?_) (by kernel_rfl) (by kernel_rfl) (by kernel_rfl) (by kernel_rfl) (by rfl) (fun _ _ _ h => h) ?_ hHeld ?_
  rotate_left 1
  (intro o ho W hSw; simp only [List.getElem?_toArray, List.getElem?_cons_succ, List.getElem?_cons_zero, Option.some.injEq] at ho; subst ho; (try dsimp only at hSw); go_simp; try with_reducible rfl)
  (try simp only [Act.put, List.setIfInBounds_toArray, List.set_cons_zero, List.set_cons_succ])
  refine wpAnyH_takeD 1 42 (v := ?_) (by kernel_rfl) (by kernel_rfl) (by kernel_rfl) (by kernel_rfl) (by rfl) (fun _ _ _ h => h) ?_ hHeld ?_
  rotate_left 1
  (intro o ho W hSw; simp only [List.getElem?_toArray, List.getElem?_cons_succ, List.getElem?_cons_zero, Option.some.injEq] at ho; subst ho; (try dsimp only at hSw); go_simp; try with_reducible rfl)
  (try simp only [Act.put, List.setIfInBounds_toArray, List.set_cons_zero, List.set_cons_succ])
  refine wpAnyH_takeD 2 43 (v := ?_) (by kernel_rfl) (by kernel_rfl) (by kernel_rfl) (by kernel_rfl) (by rfl) (fun _ _ _ h => h) ?_ hHeld ?_
  rotate_left 1
  (intro o ho W hSw; simp only [List.getElem?_toArray, List.getElem?_cons_succ, List.getElem?_cons_zero, Option.some.injEq] at ho; subst ho; (try dsimp only at hSw); go_simp; try with_reducible rfl)
  (try simp only [Act.put, List.setIfInBounds_toArray, List.set_cons_zero, List.set_cons_succ])
  refine wpAnyH_takeD 4 45 (v := ?_) (by kernel_rfl) (by kernel_rfl) (by kernel_rfl) (by kernel_rfl) (by rfl) (fun _ _ _ h => h) ?_ hHeld ?_
  rotate_left 1
  (intro o ho W hSw; simp only [List.getElem?_toArray, List.getElem?_cons_succ, List.getElem?_cons_zero, Option.some.injEq] at ho; subst ho; (try dsimp only at hSw); go_simp; try with_reducible rfl)
  (try simp only [Act.put, List.setIfInBounds_toArray, List.set_cons_zero, List.set_cons_succ])
  refine wpAnyH_takeD 5 46 (v := ?_) (by kernel_rfl) (by kernel_rfl) (by kernel_rfl) (by kernel_rfl) (by rfl) (fun _ _ _ h => h) ?_ hHeld ?_
  rotate_left 1
  (intro o ho W hSw; simp only [List.getElem?_toArray, List.getElem?_cons_succ, List.getElem?_cons_zero, Option.some.injEq] at ho; subst ho; (try dsimp only at hSw); go_simp; try with_reducible rfl)
  (try simp only [Act.put, List.setIfInBounds_toArray, List.set_cons_zero, List.set_cons_succ])
  refine wpAnyH_takeD 6 47 (v := ?_) (by kernel_rfl) (by kernel_rfl) (by kernel_rfl) (by kernel_rfl) (by rfl) (fun _ _ _ h => h) ?_ hHeld ?_
  rotate_left 1
  (intro o ho W hSw; simp only [List.getElem?_toArray, List.getElem?_cons_succ, List.getElem?_cons_zero, Option.some.injEq] at ho; subst ho; (try dsimp only at hSw); go_simp; try with_reducible rfl)
  (try simp only [Act.put, List.setIfInBounds_toArray, List.set_cons_zero, List.set_cons_succ])
  refine wpAnyH_takeD 7 48 (v := ?_) (by kernel_rfl) (by kernel_rfl) (by kernel_rfl) (by kernel_rfl) (by rfl) (fun _ _ _ h => h) ?_ hHeld ?_
  rotate_left 1
  (intro o ho W hSw; simp only [List.getElem?_toArray, List.getElem?_cons_succ, List.getElem?_cons_zero, Option.some.injEq] at ho; subst ho; (try dsimp only at hSw); go_simp; try with_reducible rfl)
  (try simp only [Act.put, List.setIfInBounds_toArray, List.set_cons_zero, List.set_cons_succ])
  refine wpAnyH_onlyD 3 (by kernel_rfl) (fun o ho K hK => ?_) (by kernel_rfl)
  simp only [List.getElem?_toArray, List.getElem?_cons_succ, List.getElem?_cons_zero, Option.some.injEq] at ho
  subst ho
  go_simp
  refine (X3.out b _ Q0.out.d Q0.out.f (fun _ x e => by cases e; show p ≠ b; omega)).mono ?_
  rintro e w5 ⟨rfl, h⟩
  have Q5 := Lib.hid (Q0.out.fx (h))
  go_wp2_with fail
  refine hK.out _ _ (Q5.out.s hjn) ?_
  clear hK K hHeld
  intro hHeld
  clear h Q0
  refine wpAnyH_takeD 8 49 (v := ?_) (by kernel_rfl) (by kernel_rfl) (by kernel_rfl) (by kernel_rfl) (by rfl) (fun _ _ _ h => h) ?_ hHeld ?_
  rotate_left 1
  (intro o ho W hSw; simp only [List.getElem?_toArray, List.getElem?_cons_succ, List.getElem?_cons_zero, Option.some.injEq] at ho; subst ho; (try dsimp only at hSw); go_simp; try with_reducible rfl)
  (try simp only [Act.put, List.setIfInBounds_toArray, List.set_cons_zero, List.set_cons_succ])
  refine wpAnyH_takeD 9 50 (v := ?_) (by kernel_rfl) (by kernel_rfl) (by kernel_rfl) (by kernel_rfl) (by rfl) (fun _ _ _ h => h) ?_ hHeld ?_
  rotate_left 1
  (intro o ho W hSw; simp only [List.getElem?_toArray, List.getElem?_cons_succ, List.getElem?_cons_zero, Option.some.injEq] at ho; subst ho; (try dsimp only at hSw); go_simp; try with_reducible rfl)
  (try simp only [Act.put, List.setIfInBounds_toArray, List.set_cons_zero, List.set_cons_succ])
  refine wpAnyH_takeD 10 51 (v := ?_) (by kernel_rfl) (by kernel_rfl) (by kernel_rfl) (by kernel_rfl) (by rfl) (fun _ _ _ h => h) ?_ hHeld ?_
  rotate_left 1
  (intro o ho W hSw; simp only [List.getElem?_toArray, List.getElem?_cons_succ, List.getElem?_cons_zero, Option.some.injEq] at ho; subst ho; (try dsimp only at hSw); go_simp; try with_reducible rfl)
  (try simp only [Act.put, List.setIfInBounds_toArray, List.set_cons_zero, List.set_cons_succ])
  refine wpAnyH_takeD 11 52 (v := ?_) (by kernel_rfl) (by kernel_rfl) (by kernel_rfl) (by kernel_rfl) (by rfl) (fun _ _ _ h => h) ?_ hHeld ?_
  rotate_left 1
  (intro o ho W hSw; simp only [List.getElem?_toArray, List.getElem?_cons_succ, List.getElem?_cons_zero, Option.some.injEq] at ho; subst ho; (try dsimp only at hSw); go_simp; try with_reducible rfl)
  (try simp only [Act.put, List.setIfInBounds_toArray, List.set_cons_zero, List.set_cons_succ])
  refine wpAnyH_takeD 12 53 (v := ?_) (by kernel_rfl) (by kernel_rfl) (by kernel_rfl) (by kernel_rfl) (by rfl) (fun _ _ _ h => h) ?_ hHeld ?_
  rotate_left 1
  (intro o ho W hSw; simp only [List.getElem?_toArray, List.getElem?_cons_succ, List.getElem?_cons_zero, Option.some.injEq] at ho; subst ho; (try dsimp only at hSw); go_simp; try with_reducible rfl)
  (try simp only [Act.put, List.setIfInBounds_toArray, List.set_cons_zero, List.set_cons_succ])
  refine wpAnyH_takeD 13 54 (v := ?_) (by kernel_rfl) (by kernel_rfl) (by kernel_rfl) (by kernel_rfl) (by rfl) (fun _ _ _ h => h) ?_ hHeld ?_
  rotate_left 1
  (intro o ho W hSw; simp only [List.getElem?_toArray, List.getElem?_cons_succ, List.getElem?_cons_zero, Option.some.injEq] at ho; subst ho; (try dsimp only at hSw); go_simp; try with_reducible rfl)
  (try simp only [Act.put, List.setIfInBounds_toArray, List.set_cons_zero, List.set_cons_succ])
  refine wpAnyH_takeD 14 55 (v := ?_) (by kernel_rfl) (by kernel_rfl) (by kernel_rfl) (by kernel_rfl) (by rfl) (fun _ _ _ h => h) ?_ hHeld ?_
  rotate_left 1
  (intro o ho W hSw; simp only [List.getElem?_toArray, List.getElem?_cons_succ, List.getElem?_cons_zero, Option.some.injEq] at ho; subst ho; (try dsimp only at hSw); go_simp; try with_reducible rfl)
  (try simp only [Act.put, List.setIfInBounds_toArray, List.set_cons_zero, List.set_cons_succ])
  refine wpAnyH_takeD 15 56 (v := ?_) (by kernel_rfl) (by kernel_rfl) (by kernel_rfl) (by kernel_rfl) (by rfl) (fun _ _ _ h => h) ?_ hHeld ?_
  rotate_left 1
  (intro o ho W hSw; simp only [List.getElem?_toArray, List.getElem?_cons_succ, List.getElem?_cons_zero, Option.some.injEq] at ho; subst ho; (try dsimp only at hSw); go_simp; try with_reducible rfl)
  (try simp only [Act.put, List.setIfInBounds_toArray, List.set_cons_zero, List.set_cons_succ])
  refine wpAnyH_onlyD 16 (by kernel_rfl) (fun o ho K hK => ?_) (by kernel_rfl)
  simp only [List.getElem?_toArray, List.getElem?_cons_succ, List.getElem?_cons_zero, Option.some.injEq] at ho
  subst ho
  go_simp
  refine (X5.out b _ Q5.out.f).mono ?_
  rintro e w6 ⟨rfl, h⟩
  have Q6 := Lib.hid (Q5.out.fx (h))
  go_wp2_with fail
  refine hK.out _ _ (Q6.out.s hjn) ?_
  clear hK K hHeld
  intro hHeld
  clear h Q5
  refine wpAnyH_takeD 17 58 (v := ?_) (by kernel_rfl) (by kernel_rfl) (by kernel_rfl) (by kernel_rfl) (by rfl) (fun _ _ _ h => h) ?_ hHeld ?_
  rotate_left 1
  (intro o ho W hSw; simp only [List.getElem?_toArray, List.getElem?_cons_succ, List.getElem?_cons_zero, Option.some.injEq] at ho; subst ho; (try dsimp only at hSw); go_simp; try with_reducible rfl)
  (try simp only [Act.put, List.setIfInBounds_toArray, List.set_cons_zero, List.set_cons_succ])
  refine wpAnyH_takeD 18 59 (v := ?_) (by kernel_rfl) (by kernel_rfl) (by kernel_rfl) (by kernel_rfl) (by rfl) (fun _ _ _ h => h) ?_ hHeld ?_
  rotate_left 1
  (intro o ho W hSw; simp only [List.getElem?_toArray, List.getElem?_cons_succ, List.getElem?_cons_zero, Option.some.injEq] at ho; subst ho; (try dsimp only at hSw); go_simp; try with_reducible rfl)
  (try simp only [Act.put, List.setIfInBounds_toArray, List.set_cons_zero, List.set_cons_succ])
  refine wpAnyH_takeD 19 60 (v := ?_) (by kernel_rfl) (by kernel_rfl) (by kernel_rfl) (by kernel_rfl) (by rfl) (fun _ _ _ h => h) ?_ hHeld ?_
  rotate_left 1
  (intro o ho W hSw; simp only [List.getElem?_toArray, List.getElem?_cons_succ, List.getElem?_cons_zero, Option.some.injEq] at ho; subst ho; (try dsimp only at hSw); go_simp; try with_reducible rfl)
  (try simp only [Act.put, List.setIfInBounds_toArray, List.set_cons_zero, List.set_cons_succ])
  refine wpAnyH_takeD 20 61 (v := ?_) (by kernel_rfl) (by kernel_rfl) (by kernel_rfl) (by kernel_rfl) (by rfl) (fun _ _ _ h => h) ?_ hHeld ?_
  rotate_left 1
  (intro o ho W hSw; simp only [List.getElem?_toArray, List.getElem?_cons_succ, List.getElem?_cons_zero, Option.some.injEq] at ho; subst ho; (try dsimp only at hSw); go_simp; try with_reducible rfl)
  (try simp only [Act.put, List.setIfInBounds_toArray, List.set_cons_zero, List.set_cons_succ])
  refine wpAnyH_takeD 21 62 (v := ?_) (by kernel_rfl) (by kernel_rfl) (by kernel_rfl) (by kernel_rfl) (by rfl) (fun _ _ _ h => h) ?_ hHeld ?_
  rotate_left 1
  (intro o ho W hSw; simp only [List.getElem?_toArray, List.getElem?_cons_succ, List.getElem?_cons_zero, Option.some.injEq] at ho; subst ho; (try dsimp only at hSw); go_simp; try with_reducible rfl)
  (try simp only [Act.put, List.setIfInBounds_toArray, List.set_cons_zero, List.set_cons_succ])
  refine wpAnyH_takeD 22 63 (v := ?_) (by kernel_rfl) (by kernel_rfl) (by kernel_rfl) (by kernel_rfl) (by rfl) (fun _ _ _ h => h) ?_ hHeld ?_
  rotate_left 1
  (intro o ho W hSw; simp only [List.getElem?_toArray, List.getElem?_cons_succ, List.getElem?_cons_zero, Option.some.injEq] at ho; subst ho; (try dsimp only at hSw); go_simp; try with_reducible rfl)
  (try simp only [Act.put, List.setIfInBounds_toArray, List.set_cons_zero, List.set_cons_succ])
  refine wpAnyH_takeD 23 64 (v := ?_) (by kernel_rfl) (by kernel_rfl) (by kernel_rfl) (by kernel_rfl) (by rfl) (fun _ _ _ h => h) ?_ hHeld ?_
  rotate_left 1
  (intro o ho W hSw; simp only [List.getElem?_toArray, List.getElem?_cons_succ, List.getElem?_cons_zero, Option.some.injEq] at ho; subst ho; (try dsimp only at hSw); go_simp; try with_reducible rfl)
  (try simp only [Act.put, List.setIfInBounds_toArray, List.set_cons_zero, List.set_cons_succ])
  refine wpAnyH_takeD 24 65 (v := ?_) (by kernel_rfl) (by kernel_rfl) (by kernel_rfl) (by kernel_rfl) (by rfl) (fun _ _ _ h => h) ?_ hHeld ?_
  rotate_left 1
  (intro o ho W hSw; simp only [List.getElem?_toArray, List.getElem?_cons_succ, List.getElem?_cons_zero, Option.some.injEq] at ho; subst ho; (try dsimp only at hSw); go_simp; try with_reducible rfl)
  (try simp only [Act.put, List.setIfInBounds_toArray, List.set_cons_zero, List.set_cons_succ])
  refine wpAnyH_takeD 25 66 (v := ?_) (by kernel_rfl) (by kernel_rfl) (by kernel_rfl) (by kernel_rfl) (by rfl) (fun _ _ _ h => h) ?_ hHeld ?_
  rotate_left 1
  (intro o ho W hSw; simp only [List.getElem?_toArray, List.getElem?_cons_succ, List.getElem?_cons_zero, Option.some.injEq] at ho; subst ho; (try dsimp only at hSw); go_simp; try with_reducible rfl)
  (try simp only [Act.put, List.setIfInBounds_toArray, List.set_cons_zero, List.set_cons_succ])
  refine wpAnyH_onlyD 26 (by kernel_rfl) (fun o ho K hK => ?_) (by kernel_rfl)
  simp only [List.getElem?_toArray, List.getElem?_cons_succ, List.getElem?_cons_zero, Option.some.injEq] at ho
  subst ho
  go_simp
  refine (X5.out b _ Q6.out.f).mono ?_
  rintro e w7 ⟨rfl, h⟩
  have Q7 := Lib.hid (Q6.out.fx (h))
  go_wp2_with fail
  refine hK.out _ _ (Q7.out.s hjn) ?_
  clear hK K hHeld
  intro hHeld
  clear h Q6
  refine wpAnyH_takeD 27 68 (v := ?_) (by kernel_rfl) (by kernel_rfl) (by kernel_rfl) (by kernel_rfl) (by rfl) (fun _ _ _ h => h) ?_ hHeld ?_
  rotate_left 1
  (intro o ho W hSw; simp only [List.getElem?_toArray, List.getElem?_cons_succ, List.getElem?_cons_zero, Option.some.injEq] at ho; subst ho; (try dsimp only at hSw); go_simp; try with_reducible rfl)
  (try simp only [Act.put, List.setIfInBounds_toArray, List.set_cons_zero, List.set_cons_succ])
  refine wpAnyH_takeD 28 69 (v := ?_) (by kernel_rfl) (by kernel_rfl) (by kernel_rfl) (by kernel_rfl) (by rfl) (fun _ _ _ h => h) ?_ hHeld ?_
  rotate_left 1
  (intro o ho W hSw; simp only [List.getElem?_toArray, List.getElem?_cons_succ, List.getElem?_cons_zero, Option.some.injEq] at ho; subst ho; (try dsimp only at hSw); go_simp; try with_reducible rfl)
  (try simp only [Act.put, List.setIfInBounds_toArray, List.set_cons_zero, List.set_cons_succ])
  refine wpAnyH_takeD 29 70 (v := ?_) (by kernel_rfl) (by kernel_rfl) (by kernel_rfl) (by kernel_rfl) (by rfl) (fun _ _ _ h => h) ?_ hHeld ?_
  rotate_left 1
  (intro o ho W hSw; simp only [List.getElem?_toArray, List.getElem?_cons_succ, List.getElem?_cons_zero, Option.some.injEq] at ho; subst ho; (try dsimp only at hSw); go_simp; try with_reducible rfl)
  (try simp only [Act.put, List.setIfInBounds_toArray, List.set_cons_zero, List.set_cons_succ])
  refine wpAnyH_takeD 30 71 (v := ?_) (by kernel_rfl) (by kernel_rfl) (by kernel_rfl) (by kernel_rfl) (by rfl) (fun _ _ _ h => h) ?_ hHeld ?_
  rotate_left 1
  (intro o ho W hSw; simp only [List.getElem?_toArray, List.getElem?_cons_succ, List.getElem?_cons_zero, Option.some.injEq] at ho; subst ho; (try dsimp only at hSw); go_simp; try with_reducible rfl)
  (try simp only [Act.put, List.setIfInBounds_toArray, List.set_cons_zero, List.set_cons_succ])
  refine wpAnyH_takeD 31 72 (v := ?_) (by kernel_rfl) (by kernel_rfl) (by kernel_rfl) (by kernel_rfl) (by rfl) (fun _ _ _ h => h) ?_ hHeld ?_
  rotate_left 1
  (intro o ho W hSw; simp only [List.getElem?_toArray, List.getElem?_cons_succ, List.getElem?_cons_zero, Option.some.injEq] at ho; subst ho; (try dsimp only at hSw); go_simp; try with_reducible rfl)
  (try simp only [Act.put, List.setIfInBounds_toArray, List.set_cons_zero, List.set_cons_succ])
  refine wpAnyH_takeD 32 73 (v := ?_) (by kernel_rfl) (by kernel_rfl) (by kernel_rfl) (by kernel_rfl) (by rfl) (fun _ _ _ h => h) ?_ hHeld ?_
  rotate_left 1
  (intro o ho W hSw; simp only [List.getElem?_toArray, List.getElem?_cons_succ, List.getElem?_cons_zero, Option.some.injEq] at ho; subst ho; (try dsimp only at hSw); go_simp; try with_reducible rfl)
  (try simp only [Act.put, List.setIfInBounds_toArray, List.set_cons_zero, List.set_cons_succ])
  refine wpAnyH_takeD 33 74 (v := ?_) (by kernel_rfl) (by kernel_rfl) (by kernel_rfl) (by kernel_rfl) (by rfl) (fun _ _ _ h => h) ?_ hHeld ?_
  rotate_left 1
  (intro o ho W hSw; simp only [List.getElem?_toArray, List.getElem?_cons_succ, List.getElem?_cons_zero, Option.some.injEq] at ho; subst ho; (try dsimp only at hSw); go_simp; try with_reducible rfl)
  (try simp only [Act.put, List.setIfInBounds_toArray, List.set_cons_zero, List.set_cons_succ])
  refine wpAnyH_takeD 34 75 (v := ?_) (by kernel_rfl) (by kernel_rfl) (by kernel_rfl) (by kernel_rfl) (by rfl) (fun _ _ _ h => h) ?_ hHeld ?_
  rotate_left 1
  (intro o ho W hSw; simp only [List.getElem?_toArray, List.getElem?_cons_succ, List.getElem?_cons_zero, Option.some.injEq] at ho; subst ho; (try dsimp only at hSw); go_simp; try with_reducible rfl)
  (try simp only [Act.put, List.setIfInBounds_toArray, List.set_cons_zero, List.set_cons_succ])
  refine wpAnyH_takeD 35 76 (v := ?_) (by kernel_rfl) (by kernel_rfl) (by kernel_rfl) (by kernel_rfl) (by rfl) (fun _ _ _ h => h) ?_ hHeld ?_
  rotate_left 1
  (intro o ho W hSw; simp only [List.getElem?_toArray, List.getElem?_cons_succ, List.getElem?_cons_zero, Option.some.injEq] at ho; subst ho; (try dsimp only at hSw); go_simp; try with_reducible rfl)
  (try simp only [Act.put, List.setIfInBounds_toArray, List.set_cons_zero, List.set_cons_succ])
  refine wpAnyH_takeD 36 77 (v := ?_) (by kernel_rfl) (by kernel_rfl) (by kernel_rfl) (by kernel_rfl) (by rfl) (fun _ _ _ h => h) ?_ hHeld ?_
  rotate_left 1
  (intro o ho W hSw; simp only [List.getElem?_toArray, List.getElem?_cons_succ, List.getElem?_cons_zero, Option.some.injEq] at ho; subst ho; (try dsimp only at hSw); go_simp; try with_reducible rfl)
  (try simp only [Act.put, List.setIfInBounds_toArray, List.set_cons_zero, List.set_cons_succ])
  refine wpAnyH_onlyD 37 (by kernel_rfl) (fun o ho K hK => ?_) (by kernel_rfl)
  simp only [List.getElem?_toArray, List.getElem?_cons_succ, List.getElem?_cons_zero, Option.some.injEq] at ho
  subst ho
  go_simp
  refine (splineAwake_any HC.out _).mono ?_
  rintro e w8 ⟨rfl, h⟩
  have Q8 := Lib.hid (Q7.out.step (h))
  go_wp2_with fail
  refine hK.out _ _ (Q8.out.s hjn) ?_
  clear hK K hHeld
  intro hHeld
  clear h Q7
  refine wpAnyH_takeD 38 79 (v := ?_) (by kernel_rfl) (by kernel_rfl) (by kernel_rfl) (by kernel_rfl) (by rfl) (fun _ _ _ h => h) ?_ hHeld ?_
  rotate_left 1
  (intro o ho W hSw; simp only [List.getElem?_toArray, List.getElem?_cons_succ, List.getElem?_cons_zero, Option.some.injEq] at ho; subst ho; (try dsimp only at hSw); go_simp; try with_reducible rfl)
  (try simp only [Act.put, List.setIfInBounds_toArray, List.set_cons_zero, List.set_cons_succ])
  refine wpAnyH_takeD 39 4 (v := ?_) (by kernel_rfl) (by kernel_rfl) (by kernel_rfl) (by kernel_rfl) (by rfl) (fun _ _ _ h => h) ?_ hHeld ?_
  rotate_left 1
  (intro o ho W hSw; simp only [List.getElem?_toArray, List.getElem?_cons_succ, List.getElem?_cons_zero, Option.some.injEq] at ho; subst ho; (try dsimp only at hSw); go_simp; try with_reducible rfl)
  (try simp only [Act.put, List.setIfInBounds_toArray, List.set_cons_zero, List.set_cons_succ])
  refine wpAnyH_done (by kernel_rfl) ?_ _
  clear hHeld
  go_wp2
  go_ret
  exact ⟨rfl, Q8.out.l⟩
end Go.Proofs.Ytjdhjabbojceeaa

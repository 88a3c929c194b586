/- The contract of the document's Row of panes. -/
import Derived.Test.YtbggakbjppnchaaPe
import Derived.Test.YtbggakbjppnchaaBk
namespace Go.Proofs.Ytbggakbjppnchaa
open Go.RowKit
set_option linter.unusedVariables false
set_option linter.unusedSimpArgs false

theorem dotInfo : (Try.prog.info? 50).map (fun i => (i.zero, i.size, i.bytes)) = some (some (.agg #[.int .i64 0, .int .i64 0]), 2, 16) := by kernel_rfl
def rowM (p : Pn) (i : Int) : Nat := if 0 ≤ i then rowN p i.toNat else 0
theorem PQ.stepB {w W W' : World} {B C m : Nat} {p : Pn} (Q : PQ w W B m p) (h : Below C W W') (hm : m < C) (hw : w.heap.size ≤ C) : PQ w W' B m p :=
  ⟨Q.k.below h hm, Q.l.trans (h.mono hw), Q.p.keep h (by have := Q.z; omega), Q.z⟩
/-- the cells that a point of a row is read from -/
def RwS (m bx ox b off br orr i k : Nat) (sx sr s : Value) (x v : Int) (W : World) : Prop :=
  W.cell? ⟨m, 0, none⟩ = some sx ∧ W.cell? ⟨m, 2, none⟩ = some sr ∧ W.cell? ⟨bx, ox + k, none⟩ = some (.int .i64 x) ∧ W.cell? ⟨b, off + i, none⟩ = some s ∧ W.cell? ⟨br, orr + k, none⟩ = some (.int .i64 v)
theorem RwS.keep {m bx ox b off br orr i k : Nat} {sx sr s : Value} {x v : Int} {W W' : World} {C : Nat} (h : Below C W W') (h1 : m < C ∧ bx < C ∧ b < C ∧ br < C) (S : RwS m bx ox b off br orr i k sx sr s x v W) : RwS m bx ox b off br orr i k sx sr s x v W' :=
  ⟨(h.cell (p := ⟨m, 0, none⟩) h1.1).trans S.1, (h.cell (p := ⟨m, 2, none⟩) h1.1).trans S.2.1, (h.cell (p := ⟨bx, _, none⟩) h1.2.1).trans S.2.2.1, (h.cell (p := ⟨b, _, none⟩) h1.2.2.1).trans S.2.2.2.1, (h.cell (p := ⟨br, _, none⟩) h1.2.2.2).trans S.2.2.2.2⟩
set_option maxRecDepth 100000 in
set_option maxHeartbeats 8000000 in
theorem rPRow_any (p : Pn) (i : Int) (B : Nat) (w : World) (hB : B ≤ w.heap.size) (F : fewP p) (K : Pan B w p) (hi : In64 i) :
    Calls Try.prog 14 #[.agg #[.slice p.x.a p.x.n p.x.c, .slice p.y.a p.y.n p.y.c, .slice p.a p.n p.c], .int .i64 i] w fun e w' => ∃ a c, e = .returned (.slice a (rowM p i) c) ∧ Dots w' a (rowM p i) c p.x.v (p.r i.toNat).v ∧ Below w.heap.size w w' := by
  have Q0 := Lib.hid (PQ.new 25 K hB)
  by_cases hin : 0 ≤ i ∧ i < (p.n : Int)
  rotate_left
  · have M : rowM p i = 0 := by
      unfold rowM
      by_cases h0 : 0 ≤ i
      · rw [if_pos h0]; unfold rowN; rw [if_neg (by omega)]
      · rw [if_neg h0]
    rw [M]
    clear M K F
    by_cases h0 : i < 0
    · go_enter Try.func14, Try.ntmps14
      go_wp2
      go_ret
      exact ⟨none, 0, rfl, ⟨by unfold maxLen; omega, by omega, fun i h => absurd h (by omega), fun h => absurd h (by omega)⟩, Q0.out.l⟩
    · have h1 : ¬ i < (p.n : Int) := by omega
      have h2 : (p.n : Int) ≤ i := by omega
      go_enter Try.func14, Try.ntmps14
      go_wp2
      go_ret
      exact ⟨none, 0, rfl, ⟨by unfold maxLen; omega, by omega, fun i h => absurd h (by omega), fun h => absurd h (by omega)⟩, Q0.out.l⟩
  obtain ⟨j, hj⟩ : ∃ j : Nat, i = (j : Int) := ⟨i.toNat, by omega⟩
  subst hj
  have hjn : j < p.n := by omega
  have M : rowM p (j : Int) = min p.x.n (p.r j).n := by unfold rowM rowN; rw [if_pos (by omega), if_pos (by omega)]; rfl
  rw [M, show (j : Int).toNat = j from rfl]
  have F1 := F.1
  have F2 := F.2.2.2 j hjn
  have F3 := F.2.2.1
  clear M hi hin F
  obtain ⟨⟨xa, xn, xc, xv⟩, ⟨ya, yn, yc, yv⟩, a, n, c, r⟩ := p
  dsimp only at *
  obtain ⟨i0, hi, hz0, hz1, hz2⟩ := info_parts dotInfo
  have U := Try.underlying33
  obtain ⟨b, off, ha, hb, hcell⟩ := K.at' (by show 0 < n; omega)
  dsimp only at ha hcell
  subst ha
  have c3 : w.cell? ⟨b, off + j, none⟩ = some (.slice (r j).a (r j).n (r j).c) := hcell j hjn
  have C3 := Lib.hid c3
  have KX := Lib.hid K.x
  have KR := Lib.hid (K.r j hjn)
  dsimp only at KX KR
  generalize hr : r j = s at *
  obtain ⟨ra, rn, rc, rv⟩ := s
  dsimp only at *
  have R := Lib.hid hr
  obtain ⟨N, hN⟩ : ∃ N, min xn rn = N := ⟨_, rfl⟩
  rw [hN]
  clear hcell c3 hr K
  go_enter Try.func14, Try.ntmps14
  have z4 : ¬ (j : Int) < 0 := by omega
  have z5 : ¬ (n : Int) ≤ (j : Int) := by omega
  go_wp2_with fail
  refine wp_gen (S := fun W => PQ w W B w.heap.size ⟨⟨xa, xn, xc, xv⟩, ⟨ya, yn, yc, yv⟩, some ⟨b, off, none⟩, n, c, r⟩ ∧ w.heap.size + 1 ≤ W.heap.size) ⟨Q0.out, by simp⟩ (fun W1 hS => ?_)
  have Q1 := Lib.hid hS.1
  have Z1 := hS.2
  clear hS Q0
  go_loopw [5, 6] (fun v i wr => ∃ k : Nat, k ≤ N ∧ i = .int .i64 k ∧ wr.ownsRow (w.heap.size + 1) 50 2 v k (dotL xv rv k) ∧ PQ w wr B w.heap.size ⟨⟨xa, xn, xc, xv⟩, ⟨ya, yn, yc, yv⟩, some ⟨b, off, none⟩, n, c, r⟩ ∧ w.heap.size + 1 ≤ wr.heap.size) (fun _ i _ => N - (intOf i).toNat)
  case atStart => exact ⟨0, by omega, rfl, World.ownsRow_nil _ _ _ _, Q1.out, Z1⟩
  case round =>
    obtain ⟨k, hk, rfl, hO, hQ, hZ⟩ := hrel
    have Q2 := Lib.hid hQ
    have O2 := Lib.hid hO
    clear hO hQ Q1 Z1
    have c4 : wr.cell? ⟨b, off + j, none⟩ = some (.slice ra rn rc) := (Q2.out.l.cell (p := ⟨b, off + j, none⟩) (by show b < w.heap.size; omega)).trans C3.out
    obtain ⟨c0, c1, c2⟩ := Q2.out.k.h3
    dsimp only at c0 c1 c2
    have z0 : (0 : Int) ≤ (j : Int) := by omega
    have z1 : (j : Int) < (n : Int) := by omega
    by_cases hlt : k < N
    · have z2 : (k : Int) < (xn : Int) := by omega
      have z3 : (k : Int) < (rn : Int) := by omega
      have z6 : (0 : Int) ≤ (k : Int) := by omega
      obtain ⟨bx, ox, hxa, hbx, hcx⟩ := KX.out.at' (by show 0 < xn; omega)
      obtain ⟨br, orr, hra, hbr, hcr⟩ := KR.out.at' (by show 0 < rn; omega)
      dsimp only at hxa hra hcx hcr
      subst hxa
      subst hra
      have c5 : wr.cell? ⟨bx, ox + k, none⟩ = some (.int .i64 (xv k)) := (Q2.out.l.cell (p := ⟨bx, _, none⟩) (by show bx < w.heap.size; omega)).trans (hcx k (by omega))
      have c6 : wr.cell? ⟨br, orr + k, none⟩ = some (.int .i64 (rv k)) := (Q2.out.l.cell (p := ⟨br, _, none⟩) (by show br < w.heap.size; omega)).trans (hcr k (by omega))
      clear hcx hcr
      have S0 : RwS w.heap.size bx ox b off br orr j k (.slice (some ⟨bx, ox, none⟩) xn xc) (.slice (some ⟨b, off, none⟩) n c) (.slice (some ⟨br, orr, none⟩) rn rc) (xv k) (rv k) wr.drew := ⟨c0, c2, c5, c4, c6⟩
      have T0 := Lib.hid S0
      have hbs : w.heap.size < w.heap.size + 1 ∧ bx < w.heap.size + 1 ∧ b < w.heap.size + 1 ∧ br < w.heap.size + 1 := by omega
      clear S0
      go_wp2_with fail
      refine wp_region_held_drew (S := RwS w.heap.size bx ox b off br orr j k (.slice (some ⟨bx, ox, none⟩) xn xc) (.slice (some ⟨b, off, none⟩) n c) (.slice (some ⟨br, orr, none⟩) rn rc) (xv k) (rv k)) (by kernel_rfl) T0.out (fun hHeld => ?_)
      have Q3 := Lib.hid Q2.out.drew
      have O3 := Lib.hid (show wr.drew.ownsRow (w.heap.size + 1) 50 2 _ k (dotL xv rv k) from O2.out)
      have hZ3 : w.heap.size + 1 ≤ wr.drew.heap.size := hZ
      clear Q2 O2 hZ c0 c1 c2 c4 c5 c6
      generalize wr.drew = w0 at *
      unfold RwS at hHeld ⊢
      refine wpAnyH_takeD 0 34 (v := ?_) (by kernel_rfl) (by kernel_rfl) (by kernel_rfl) (by kernel_rfl) (by rfl) (fun _ _ _ h => h) ?_ hHeld ?_
      rotate_left 1
      (intro o ho W hSw; simp only [List.getElem?_toArray, List.getElem?_cons_succ, List.getElem?_cons_zero, Option.some.injEq] at ho; subst ho; (try dsimp only at hSw); go_simp; try with_reducible rfl)
      (try simp only [Act.put, List.setIfInBounds_toArray, List.set_cons_zero, List.set_cons_succ])
      refine wpAnyH_takeD 1 35 (v := ?_) (by kernel_rfl) (by kernel_rfl) (by kernel_rfl) (by kernel_rfl) (by rfl) (fun _ _ _ h => h) ?_ hHeld ?_
      rotate_left 1
      (intro o ho W hSw; simp only [List.getElem?_toArray, List.getElem?_cons_succ, List.getElem?_cons_zero, Option.some.injEq] at ho; subst ho; (try dsimp only at hSw); go_simp; try with_reducible rfl)
      (try simp only [Act.put, List.setIfInBounds_toArray, List.set_cons_zero, List.set_cons_succ])
      refine wpAnyH_takeD 2 36 (v := ?_) (by kernel_rfl) (by kernel_rfl) (by kernel_rfl) (by kernel_rfl) (by rfl) (fun _ _ _ h => h) ?_ hHeld ?_
      rotate_left 1
      (intro o ho W hSw; simp only [List.getElem?_toArray, List.getElem?_cons_succ, List.getElem?_cons_zero, Option.some.injEq] at ho; subst ho; (try dsimp only at hSw); go_simp; try with_reducible rfl)
      (try simp only [Act.put, List.setIfInBounds_toArray, List.set_cons_zero, List.set_cons_succ])
      refine wpAnyH_takeD 3 37 (v := ?_) (by kernel_rfl) (by kernel_rfl) (by kernel_rfl) (by kernel_rfl) (by rfl) (fun _ _ _ h => h) ?_ hHeld ?_
      rotate_left 1
      (intro o ho W hSw; simp only [List.getElem?_toArray, List.getElem?_cons_succ, List.getElem?_cons_zero, Option.some.injEq] at ho; subst ho; (try dsimp only at hSw); go_simp; try with_reducible rfl)
      (try simp only [Act.put, List.setIfInBounds_toArray, List.set_cons_zero, List.set_cons_succ])
      refine wpAnyH_takeD 4 38 (v := ?_) (by kernel_rfl) (by kernel_rfl) (by kernel_rfl) (by kernel_rfl) (by rfl) (fun _ _ _ h => h) ?_ hHeld ?_
      rotate_left 1
      (intro o ho W hSw; simp only [List.getElem?_toArray, List.getElem?_cons_succ, List.getElem?_cons_zero, Option.some.injEq] at ho; subst ho; (try dsimp only at hSw); go_simp; try with_reducible rfl)
      (try simp only [Act.put, List.setIfInBounds_toArray, List.set_cons_zero, List.set_cons_succ])
      refine wpAnyH_takeD 5 39 (v := ?_) (by kernel_rfl) (by kernel_rfl) (by kernel_rfl) (by kernel_rfl) (by rfl) (fun _ _ _ h => h) ?_ hHeld ?_
      rotate_left 1
      (intro o ho W hSw; simp only [List.getElem?_toArray, List.getElem?_cons_succ, List.getElem?_cons_zero, Option.some.injEq] at ho; subst ho; (try dsimp only at hSw); go_simp; try with_reducible rfl)
      (try simp only [Act.put, List.setIfInBounds_toArray, List.set_cons_zero, List.set_cons_succ])
      refine wpAnyH_takeD 6 40 (v := ?_) (by kernel_rfl) (by kernel_rfl) (by kernel_rfl) (by kernel_rfl) (by rfl) (fun _ _ _ h => h) ?_ hHeld ?_
      rotate_left 1
      (intro o ho W hSw; simp only [List.getElem?_toArray, List.getElem?_cons_succ, List.getElem?_cons_zero, Option.some.injEq] at ho; subst ho; (try dsimp only at hSw); go_simp; try with_reducible rfl)
      (try simp only [Act.put, List.setIfInBounds_toArray, List.set_cons_zero, List.set_cons_succ])
      refine wpAnyH_takeD 7 41 (v := ?_) (by kernel_rfl) (by kernel_rfl) (by kernel_rfl) (by kernel_rfl) (by rfl) (fun _ _ _ h => h) ?_ hHeld ?_
      rotate_left 1
      (intro o ho W hSw; simp only [List.getElem?_toArray, List.getElem?_cons_succ, List.getElem?_cons_zero, Option.some.injEq] at ho; subst ho; (try dsimp only at hSw); go_simp; try with_reducible rfl)
      (try simp only [Act.put, List.setIfInBounds_toArray, List.set_cons_zero, List.set_cons_succ])
      refine wpAnyH_takeD 8 42 (v := ?_) (by kernel_rfl) (by kernel_rfl) (by kernel_rfl) (by kernel_rfl) (by rfl) (fun _ _ _ h => h) ?_ hHeld ?_
      rotate_left 1
      (intro o ho W hSw; simp only [List.getElem?_toArray, List.getElem?_cons_succ, List.getElem?_cons_zero, Option.some.injEq] at ho; subst ho; (try dsimp only at hSw); go_simp; try with_reducible rfl)
      (try simp only [Act.put, List.setIfInBounds_toArray, List.set_cons_zero, List.set_cons_succ])
      refine wpAnyH_takeD 9 43 (v := ?_) (by kernel_rfl) (by kernel_rfl) (by kernel_rfl) (by kernel_rfl) (by rfl) (fun _ _ _ h => h) ?_ hHeld ?_
      rotate_left 1
      (intro o ho W hSw; simp only [List.getElem?_toArray, List.getElem?_cons_succ, List.getElem?_cons_zero, Option.some.injEq] at ho; subst ho; (try dsimp only at hSw); go_simp; try with_reducible rfl)
      (try simp only [Act.put, List.setIfInBounds_toArray, List.set_cons_zero, List.set_cons_succ])
      refine wpAnyH_takeD 10 44 (v := ?_) (by kernel_rfl) (by kernel_rfl) (by kernel_rfl) (by kernel_rfl) (by rfl) (fun _ _ _ h => h) ?_ hHeld ?_
      rotate_left 1
      (intro o ho W hSw; simp only [List.getElem?_toArray, List.getElem?_cons_succ, List.getElem?_cons_zero, Option.some.injEq] at ho; subst ho; (try dsimp only at hSw); go_simp; try with_reducible rfl)
      (try simp only [Act.put, List.setIfInBounds_toArray, List.set_cons_zero, List.set_cons_succ])
      refine wpAnyH_takeD 11 45 (v := ?_) (by kernel_rfl) (by kernel_rfl) (by kernel_rfl) (by kernel_rfl) (by rfl) (fun _ _ _ h => h) ?_ hHeld ?_
      rotate_left 1
      (intro o ho W hSw; simp only [List.getElem?_toArray, List.getElem?_cons_succ, List.getElem?_cons_zero, Option.some.injEq] at ho; subst ho; (try dsimp only at hSw); go_simp; try with_reducible rfl)
      (try simp only [Act.put, List.setIfInBounds_toArray, List.set_cons_zero, List.set_cons_succ])
      refine wpAnyH_takeD 12 46 (v := ?_) (by kernel_rfl) (by kernel_rfl) (by kernel_rfl) (by kernel_rfl) (by rfl) (fun _ _ _ h => h) ?_ hHeld ?_
      rotate_left 1
      (intro o ho W hSw; simp only [List.getElem?_toArray, List.getElem?_cons_succ, List.getElem?_cons_zero, Option.some.injEq] at ho; subst ho; (try dsimp only at hSw); go_simp; try with_reducible rfl)
      (try simp only [Act.put, List.setIfInBounds_toArray, List.set_cons_zero, List.set_cons_succ])
      refine wpAnyH_takeD 13 47 (v := ?_) (by kernel_rfl) (by kernel_rfl) (by kernel_rfl) (by kernel_rfl) (by rfl) (fun _ _ _ h => h) ?_ hHeld ?_
      rotate_left 1
      (intro o ho W hSw; simp only [List.getElem?_toArray, List.getElem?_cons_succ, List.getElem?_cons_zero, Option.some.injEq] at ho; subst ho; (try dsimp only at hSw); go_simp; try with_reducible rfl)
      (try simp only [Act.put, List.setIfInBounds_toArray, List.set_cons_zero, List.set_cons_succ])
      refine wpAnyH_takeD 14 48 (v := ?_) (by kernel_rfl) (by kernel_rfl) (by kernel_rfl) (by kernel_rfl) (by rfl) (fun _ _ _ h => h) ?_ hHeld ?_
      rotate_left 1
      (intro o ho W hSw; simp only [List.getElem?_toArray, List.getElem?_cons_succ, List.getElem?_cons_zero, Option.some.injEq] at ho; subst ho; (try dsimp only at hSw); go_simp; try with_reducible rfl)
      (try simp only [Act.put, List.setIfInBounds_toArray, List.set_cons_zero, List.set_cons_succ])
      refine wpAnyH_onlyD 15 (by kernel_rfl) (fun o ho K hK => ?_) (by kernel_rfl)
      simp only [List.getElem?_toArray, List.getElem?_cons_succ, List.getElem?_cons_zero, Option.some.injEq] at ho
      subst ho
      go_simp
      refine hK.out _ _ (RwS.keep ((Below.refl (w.heap.size + 1) w0).alloc hZ3 _) hbs T0.out) ?_
      clear hK K hHeld
      intro hHeld
      refine wpAnyH_onlyD 16 (by kernel_rfl) (fun o ho K hK => ?_) (by kernel_rfl)
      simp only [List.getElem?_toArray, List.getElem?_cons_succ, List.getElem?_cons_zero, Option.some.injEq] at ho
      subst ho
      refine step_append_lies _ (by rfl) (.tmp 34) (.tmp 49) 33 (by rfl) (w.heap.size + 1) 50 i0 (.agg #[.int .i64 0, .int .i64 0]) 2 16 U hi hz0 hz1 hz2 rfl (by omega) _ k (dotL xv rv k) (by rfl) (O3.out.alloc _) ⟨w0.heap.size, 0, none⟩ 1 1 [.int .i64 (xv k), .int .i64 (rv k)] (by rfl) rfl (World.news_of_block (heap_alloc_new w0 _)) (by simp [Value.oneCell']) (by omega) (by unfold maxLen; omega) (by omega) (by simp; omega) _ rfl ?_
      intro g cap w1 hO hG hat hlt2
      have HB := (Below.refl (w.heap.size + 1) (w0.alloc (.cells #[.int .i64 (xv k), .int .i64 (rv k)] 50))).grown hG (by simp; omega) (fun m e => (O3.out.lt m e).1)
      have HB2 := ((Below.refl (w.heap.size + 1) w0).alloc hZ3 (.cells #[.int .i64 (xv k), .int .i64 (rv k)] 50)).trans HB
      have Q4 := Lib.hid (Q3.out.stepB HB2 (by omega) (by omega))
      have O4 := Lib.hid hO
      have hZ4 : w.heap.size + 1 ≤ w1.heap.size := by have := HB2.size; omega
      refine hK.out _ _ (RwS.keep HB2 hbs T0.out) ?_
      clear hK K hHeld T0 hO hG HB HB2 hat Q3 O3
      intro hHeld
      refine wpAnyH_takeD 17 5 (v := ?_) (by kernel_rfl) (by kernel_rfl) (by kernel_rfl) (by kernel_rfl) (by rfl) (fun _ _ _ h => h) ?_ hHeld ?_
      rotate_left 1
      (intro o ho W hSw; simp only [List.getElem?_toArray, List.getElem?_cons_succ, List.getElem?_cons_zero, Option.some.injEq] at ho; subst ho; (try dsimp only at hSw); go_simp; try with_reducible rfl)
      (try simp only [Act.put, List.setIfInBounds_toArray, List.set_cons_zero, List.set_cons_succ])
      refine wpAnyH_done (by kernel_rfl) ?_ _
      clear hHeld
      go_wp2
      go_roundw
      case rel => exact ⟨k + 1, by omega, by go_num, O4.out, Q4.out, hZ4⟩
      case measure => simp [intOf]; omega
    · have e : k = N := by omega
      subst e
      obtain ⟨a', c', hv, D, -⟩ := owned_dots O2.out (fun m hm => ⟨KX.out.wf m (by show m < xn; omega), KR.out.wf m (by show m < rn; omega)⟩)
      have D2 := Lib.hid D
      subst hv
      clear D O2
      by_cases hx : k < xn
      · have z2 : (k : Int) < (xn : Int) := by omega
        have z3 : ¬ (k : Int) < (rn : Int) := by omega
        go_wp2
        go_ret
        exact ⟨a', c', rfl, D2.out, Q2.out.l⟩
      · have z2 : ¬ (k : Int) < (xn : Int) := by omega
        go_wp2
        go_ret
        exact ⟨a', c', rfl, D2.out, Q2.out.l⟩
end Go.Proofs.Ytbggakbjppnchaa

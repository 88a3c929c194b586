/- The contract of the document's Lengths of curves. -/
import Derived.Test.YtjdhjabbojceeaaSd
import Derived.Test.YtjdhjabbojceeaaBr
import Derived.Test.YtjdhjabbojceeaaZj
namespace Go.Proofs.Ytjdhjabbojceeaa
open Go.RowKit
set_option linter.unusedVariables false
set_option linter.unusedSimpArgs false

theorem fxInfo : (Try.prog.info? 23).map (fun i => (i.zero, i.size, i.bytes)) = some (some (.int .i64 0), 1, 8) := by kernel_rfl
/-- numbers one behind the other, as values -/
def numL (f : Nat → Int) : Nat → List Value
  | 0 => []
  | n + 1 => numL f n ++ [.int .i64 (f n)]
theorem numL_len (f : Nat → Int) : ∀ n, (numL f n).length = n
  | 0 => rfl
  | n + 1 => by show (numL f n ++ _).length = _; rw [List.length_append, numL_len f n]; rfl
theorem numL_at (f : Nat → Int) : ∀ n i, i < n → (numL f n)[i]? = some (.int .i64 (f i))
  | 0, i, h => absurd h (by omega)
  | n + 1, i, h => by
    show (numL f n ++ _)[i]? = _
    rcases Nat.lt_or_ge i n with l | l
    · rw [List.getElem?_append_left (by rw [numL_len]; exact l)]
      exact numL_at f n i l
    · have e : i = n := by omega
      subst e
      rw [List.getElem?_append_right (by rw [numL_len]; omega), numL_len, Nat.sub_self]; rfl
theorem own_num {w : World} {base g cap n : Nat} {e : TypeId} {f : Nat → Int} (h : w.ownsRow base e 1 (.slice (some ⟨g, 0, none⟩) n cap) n (numL f n)) {i : Nat} (hi : i < n) : w.cell? ⟨g, i, none⟩ = some (.int .i64 (f i)) := by
  have k := h.cells (g := g) rfl i _ (numL_at f n i hi)
  have a : (⟨g, 0, none⟩ : Addr).add i = ⟨g, i, none⟩ := by simp [Addr.add]; omega
  rw [a] at k; exact k
/-- a list of numbers made by append reads as those numbers -/
theorem owned_nums {w : World} {base : Nat} {e : TypeId} {v : Value} {n : Nat} {f : Nat → Int} (h : w.ownsRow base e 1 v n (numL f n)) (wf : ∀ i, i < n → (Lit.int .i64 (f i)).wf = true) :
    ∃ a c, v = .slice a n c ∧ Nums w.heap.size w ⟨a, n, c, f⟩ ∧ ∀ p, a = some p → base ≤ p.block := by
  have h' := h
  obtain ⟨_, ⟨rfl, rfl⟩ | ⟨g, cap, cur, rfl, hb, hg, hn, hm, hs, ht⟩⟩ := h
  · exact ⟨none, 0, rfl, ⟨by show 0 ≤ maxLen; unfold maxLen; omega, Nat.le_refl _, wf, fun h => absurd h (by show ¬ 0 < 0; omega)⟩, fun p e => by cases e⟩
  · refine ⟨_, cap, rfl, ⟨hm, hn, wf, fun h0 => ⟨g, 0, rfl, ?_, fun i hi => ?_⟩⟩, fun p e => by cases e; exact hb⟩
    · rcases Nat.lt_or_ge g w.heap.size with l | l
      · exact l
      · rw [Array.getElem?_eq_none l] at hg; cases hg
    · rw [Nat.zero_add]; exact own_num h' hi
/-- a round of Lengths -/
structure LgW (w W : World) (b k : Nat) (o : Bool) (a : Option Addr) (n c : Nat) (X Y : Nat → Int) (g cap j n1 : Nat) (f : Nat → Int) (xj yj xq yq : Int) : Prop where
  q : SmW w W b k o a n c X Y
  r : W.ownsRow w.heap.size 23 1 (.slice (some ⟨g, 0, none⟩) (j + 1) cap) (j + 1) (numL f (j + 1))
  A : BW W n1 [.int .i64 xj, .int .i64 yj]
  B : BW W (n1 + 1) [.int .i64 xq, .int .i64 yq]
  z : b < n1
theorem LgW.fx {w W W' : World} {b k : Nat} {o p : Bool} {a : Option Addr} {n c : Nat} {X Y : Nat → Int} {g cap j n1 : Nat} {f : Nat → Int} {xj yj xq yq : Int} (Q : LgW w W b k o a n c X Y g cap j n1 f xj yj xq yq) (h : FxW W.heap.size W b k p W') : LgW w W' b k p a n c X Y g cap j n1 f xj yj xq yq :=
  ⟨Q.q.fx h, own_fx Q.r h Q.q.f.lt, Q.A.fx h (by have := Q.z; omega), Q.B.fx h (by have := Q.z; omega), Q.z⟩
theorem LgW.drew {w W : World} {b k : Nat} {o : Bool} {a : Option Addr} {n c : Nat} {X Y : Nat → Int} {g cap j n1 : Nat} {f : Nat → Int} {xj yj xq yq : Int} (Q : LgW w W b k o a n c X Y g cap j n1 f xj yj xq yq) : LgW w W.drew b k o a n c X Y g cap j n1 f xj yj xq yq :=
  ⟨Q.q.more (Below.refl _ _).drew, Q.r, Q.A.drew, Q.B.drew, Q.z⟩
def LgS (g j n1 : Nat) (v xj yj xq yq : Int) (W : World) : Prop :=
  W.cell? ⟨g, j, none⟩ = some (.int .i64 v) ∧ (W.cell? ⟨n1, 0, none⟩ = some (.int .i64 xj) ∧ W.cell? ⟨n1, 1, none⟩ = some (.int .i64 yj)) ∧ (W.cell? ⟨n1 + 1, 0, none⟩ = some (.int .i64 xq) ∧ W.cell? ⟨n1 + 1, 1, none⟩ = some (.int .i64 yq))
theorem LgW.s {w W : World} {b k : Nat} {o : Bool} {a : Option Addr} {n c : Nat} {X Y : Nat → Int} {g cap j n1 : Nat} {f : Nat → Int} {xj yj xq yq : Int} (Q : LgW w W b k o a n c X Y g cap j n1 f xj yj xq yq) : LgS g j n1 (f j) xj yj xq yq W :=
  ⟨own_num Q.r (by omega), Q.A.h2'', Q.B.h2''⟩
theorem LgS.keep {g j n1 C : Nat} {v xj yj xq yq : Int} {W W' : World} (S : LgS g j n1 v xj yj xq yq W) (h : Below C W W') (h1 : g < C) (h2 : n1 + 1 < C) : LgS g j n1 v xj yj xq yq W' :=
  ⟨(h.cell (p := ⟨g, _, none⟩) h1).trans S.1, ⟨(h.cell (p := ⟨n1, _, none⟩) (by show n1 < C; omega)).trans S.2.1.1, (h.cell (p := ⟨n1, _, none⟩) (by show n1 < C; omega)).trans S.2.1.2⟩, (h.cell (p := ⟨n1 + 1, _, none⟩) h2).trans S.2.2.1, (h.cell (p := ⟨n1 + 1, _, none⟩) h2).trans S.2.2.2⟩
theorem LgS.put {g j n1 : Nat} {v xj yj xq yq : Int} {W W' : World} (S : LgS g j n1 v xj yj xq yq W) {row : Option Nat} (h : W.grownBy W' row) (h1 : W'.cell? ⟨g, j, none⟩ = some (.int .i64 v)) (h2 : some n1 ≠ row) (h3 : some (n1 + 1) ≠ row) : LgS g j n1 v xj yj xq yq W' :=
  ⟨h1, ⟨h.cell S.2.1.1 h2, h.cell S.2.1.2 h2⟩, h.cell S.2.2.1 h3, h.cell S.2.2.2 h3⟩
set_option maxRecDepth 100000 in
set_option maxHeartbeats 8000000 in
theorem rLengths_any (a : Option Addr) (n c : Nat) (X Y : Nat → Int) (b k : Nat) (o : Bool) (w : World) (hmax : n ≤ 1000) (D : Dots w a n c X Y) (m : MAt w b k o) (hne : 0 < n → ∀ p, a = some p → p.block ≠ b) :
    Calls Try.prog 19 #[.pointer (some ⟨b, k, none⟩), .slice a n c] w fun e w' => ∃ a' c', e = .returned (.slice a' (n + 1) c') ∧ Nums w'.heap.size w' ⟨a', n + 1, c', lenS n X Y⟩ ∧ FxW w.heap.size w b k (o || lenSO n X Y n) w' ∧ (∀ p, a' = some p → w.heap.size ≤ p.block) := by
  have hlt := m.lt
  have Q0 := Lib.hid (show SmW w w b k o a n c X Y from ⟨D, Flag.start m (Below.refl _ _), fun h0 p e => ⟨hne h0 p e, by obtain ⟨mb, off, e2, hb, _⟩ := D.at' h0; rw [e2] at e; cases e; exact hb⟩⟩)
  have HD := Lib.hid D
  obtain ⟨i0, hi, hz0, hz1, hz2⟩ := info_parts fxInfo
  have U := Try.underlying42
  have WF := Lib.hid (fun (i : Nat) (h : i < n) => And.intro (show In64 (X i) from bounds_i64 (D.wf i h).1) (show In64 (Y i) from bounds_i64 (D.wf i h).2))
  clear D m
  go_enter Try.func19, Try.ntmps19
  go_wp2_with fail
  refine wp_gen (S := fun W => SmW w W b k o a n c X Y ∧ W.ownsRow w.heap.size 23 1 (.slice (some ⟨w.heap.size, 0, none⟩) 1 1) 1 (numL (lenS n X Y) 1)) ⟨Q0.out.more ((Below.refl _ _).alloc (Nat.le_refl _) _), ⟨rfl, .inr ⟨w.heap.size, 1, #[.int .i64 0], rfl, Nat.le_refl _, heap_alloc_new w _, Nat.le_refl _, by unfold maxLen; omega, rfl, rfl⟩⟩⟩ (fun W1 hS => ?_)
  have Q1 := Lib.hid hS.1
  have O1 := Lib.hid hS.2
  clear hS Q0
  go_loopw [5, 6] (fun v i wr => ∃ j g cap : Nat, j ≤ n ∧ i = .int .i64 j ∧ v = .slice (some ⟨g, 0, none⟩) (j + 1) cap ∧ wr.ownsRow w.heap.size 23 1 (.slice (some ⟨g, 0, none⟩) (j + 1) cap) (j + 1) (numL (lenS n X Y) (j + 1)) ∧ SmW w wr b k (o || lenSO n X Y j) a n c X Y) (fun _ i _ => n - (intOf i).toNat)
  case atStart => exact ⟨0, w.heap.size, 1, by omega, rfl, rfl, O1.out, by have := Q1.out; show SmW _ _ _ _ (o || false) _ _ _ _ _; rw [Bool.or_false]; exact this⟩
  case round =>
    obtain ⟨j, g, cap, hj, rfl, rfl, hO, hQ⟩ := hrel
    have O2 := Lib.hid hO
    have Q2 := Lib.hid hQ
    clear hO hQ O1 Q1
    by_cases hlj : j < n
    · have hn0 : 0 < n := by omega
      have hq : (j + 1) % n < n := Nat.mod_lt _ hn0
      have e2 : Int.tmod ((j : Int) + 1) (n : Int) = (((j + 1) % n : Nat) : Int) := on_tmod 1
      have L1 := Lib.hid (show lenS n X Y (j + 1) = addF (lenS n X Y j) (lenF (wayX n X j * wayX n X j + wayX n Y j * wayX n Y j)) from rfl)
      have L2 := Lib.hid (show (o || lenSO n X Y (j + 1)) = (o || (lenSO n X Y j || (subO (X ((j + 1) % n)) (X j) || subO (Y ((j + 1) % n)) (Y j) || lenO (wayX n X j * wayX n X j + wayX n Y j * wayX n Y j) || addO (lenS n X Y j) (lenF (wayX n X j * wayX n X j + wayX n Y j * wayX n Y j))))) from rfl)
      unfold wayX at L1 L2
      have IL : In64 (lenS n X Y j) := by cases j with | zero => exact ⟨by show (-9223372036854775808 : Int) ≤ 0; omega, by show (0 : Int) ≤ 9223372036854775807; omega⟩ | succ j => exact addF_in _ _
      generalize (j + 1) % n = q at *
      obtain ⟨mb, off, ha, hb, hcell⟩ := Q2.out.d.at' hn0
      have hbw : mb < w.heap.size := (Q2.out.e hn0 _ ha).2
      subst ha
      obtain ⟨c0, d0⟩ := hcell j hlj
      obtain ⟨c1, d1⟩ := hcell q hq
      have z0 : (0 : Int) ≤ (j : Int) := by omega
      have z1 : (j : Int) < (n : Int) := by omega
      have z2 : (q : Int) < (n : Int) := Int.ofNat_lt.mpr hq
      have z4 : (j : Int) < ((j + 1 : Nat) : Int) := by omega
      have z5 : (j : Int) < (j : Int) + 1 := by omega
      have z6 : j < j + 1 := by omega
      have z3 : (0 : Int) ≤ (q : Int) := by omega
      have zn : ¬ (n : Int) = 0 := by omega
      have hb1 : mb < wr.heap.size + 1 := by omega
      have hg : g < wr.heap.size := (O2.out.lt g rfl).2
      have hzw : w.heap.size ≤ wr.heap.size := Q2.out.f.f.size
      have IJ := WF.out j hlj
      have IQ := WF.out q hq
      clear hcell
      go_wp2_with fail
      refine wp_gen (S := fun W => LgW w W b k (o || lenSO n X Y j) (some ⟨mb, off, none⟩) n c X Y g cap j wr.heap.size (lenS n X Y) (X j) (Y j) (X q) (Y q)) ⟨(Q2.out.more ((Below.refl _ _).alloc (Nat.le_refl _) _)).more ((Below.refl _ _).alloc (Nat.le_refl _) _), (O2.out.alloc _).alloc _, (BW.new wr _ [_, _] _ rfl).alloc _, BW.new _ _ [_, _] _ (by simp), by omega⟩ (fun W2 hS => ?_)
      have R0 := Lib.hid hS.drew
      clear hS Q2 O2 c0 d0 c1 d1
      have hgn : g < wr.heap.size := hg
      generalize wr.heap.size = n1 at *
      have Q0 := R0
      clear R0
      refine wp_region_held_drew (S := LgS g j n1 (lenS n X Y j) (X j) (Y j) (X q) (Y q)) (by kernel_rfl) Q0.out.s (fun hHeld => ?_)
      generalize W2.drew = w0 at *
      unfold LgS at hHeld ⊢
      refine wpAnyH_takeD 0 28 (v := ?_) (by kernel_rfl) (by kernel_rfl) (by kernel_rfl) (by kernel_rfl) (by rfl) (fun _ _ _ h => h) ?_ hHeld ?_
      rotate_left 1
      (intro o ho W hSw; simp only [List.getElem?_toArray, List.getElem?_cons_succ, List.getElem?_cons_zero, Option.some.injEq] at ho; subst ho; (try dsimp only at hSw); go_simp; try with_reducible rfl)
      (try simp only [Act.put, List.setIfInBounds_toArray, List.set_cons_zero, List.set_cons_succ])
      refine wpAnyH_takeD 1 29 (v := ?_) (by kernel_rfl) (by kernel_rfl) (by kernel_rfl) (by kernel_rfl) (by rfl) (fun _ _ _ h => h) ?_ hHeld ?_
      rotate_left 1
      (intro o ho W hSw; simp only [List.getElem?_toArray, List.getElem?_cons_succ, List.getElem?_cons_zero, Option.some.injEq] at ho; subst ho; (try dsimp only at hSw); go_simp; try with_reducible rfl)
      (try simp only [Act.put, List.setIfInBounds_toArray, List.set_cons_zero, List.set_cons_succ])
      refine wpAnyH_takeD 2 30 (v := ?_) (by kernel_rfl) (by kernel_rfl) (by kernel_rfl) (by kernel_rfl) (by rfl) (fun _ _ _ h => h) ?_ hHeld ?_
      rotate_left 1
      (intro o ho W hSw; simp only [List.getElem?_toArray, List.getElem?_cons_succ, List.getElem?_cons_zero, Option.some.injEq] at ho; subst ho; (try dsimp only at hSw); go_simp; try with_reducible rfl)
      (try simp only [Act.put, List.setIfInBounds_toArray, List.set_cons_zero, List.set_cons_succ])
      refine wpAnyH_takeD 3 31 (v := ?_) (by kernel_rfl) (by kernel_rfl) (by kernel_rfl) (by kernel_rfl) (by rfl) (fun _ _ _ h => h) ?_ hHeld ?_
      rotate_left 1
      (intro o ho W hSw; simp only [List.getElem?_toArray, List.getElem?_cons_succ, List.getElem?_cons_zero, Option.some.injEq] at ho; subst ho; (try dsimp only at hSw); go_simp; try with_reducible rfl)
      (try simp only [Act.put, List.setIfInBounds_toArray, List.set_cons_zero, List.set_cons_succ])
      refine wpAnyH_takeD 4 32 (v := ?_) (by kernel_rfl) (by kernel_rfl) (by kernel_rfl) (by kernel_rfl) (by rfl) (fun _ _ _ h => h) ?_ hHeld ?_
      rotate_left 1
      (intro o ho W hSw; simp only [List.getElem?_toArray, List.getElem?_cons_succ, List.getElem?_cons_zero, Option.some.injEq] at ho; subst ho; (try dsimp only at hSw); go_simp; try with_reducible rfl)
      (try simp only [Act.put, List.setIfInBounds_toArray, List.set_cons_zero, List.set_cons_succ])
      refine wpAnyH_takeD 5 33 (v := ?_) (by kernel_rfl) (by kernel_rfl) (by kernel_rfl) (by kernel_rfl) (by rfl) (fun _ _ _ h => h) ?_ hHeld ?_
      rotate_left 1
      (intro o ho W hSw; simp only [List.getElem?_toArray, List.getElem?_cons_succ, List.getElem?_cons_zero, Option.some.injEq] at ho; subst ho; (try dsimp only at hSw); go_simp; try with_reducible rfl)
      (try simp only [Act.put, List.setIfInBounds_toArray, List.set_cons_zero, List.set_cons_succ])
      refine wpAnyH_takeD 6 34 (v := ?_) (by kernel_rfl) (by kernel_rfl) (by kernel_rfl) (by kernel_rfl) (by rfl) (fun _ _ _ h => h) ?_ hHeld ?_
      rotate_left 1
      (intro o ho W hSw; simp only [List.getElem?_toArray, List.getElem?_cons_succ, List.getElem?_cons_zero, Option.some.injEq] at ho; subst ho; (try dsimp only at hSw); go_simp; try with_reducible rfl)
      (try simp only [Act.put, List.setIfInBounds_toArray, List.set_cons_zero, List.set_cons_succ])
      refine wpAnyH_takeD 7 35 (v := ?_) (by kernel_rfl) (by kernel_rfl) (by kernel_rfl) (by kernel_rfl) (by rfl) (fun _ _ _ h => h) ?_ hHeld ?_
      rotate_left 1
      (intro o ho W hSw; simp only [List.getElem?_toArray, List.getElem?_cons_succ, List.getElem?_cons_zero, Option.some.injEq] at ho; subst ho; (try dsimp only at hSw); go_simp; try with_reducible rfl)
      (try simp only [Act.put, List.setIfInBounds_toArray, List.set_cons_zero, List.set_cons_succ])
      refine wpAnyH_takeD 8 36 (v := ?_) (by kernel_rfl) (by kernel_rfl) (by kernel_rfl) (by kernel_rfl) (by rfl) (fun _ _ _ h => h) ?_ hHeld ?_
      rotate_left 1
      (intro o ho W hSw; simp only [List.getElem?_toArray, List.getElem?_cons_succ, List.getElem?_cons_zero, Option.some.injEq] at ho; subst ho; (try dsimp only at hSw); go_simp; try with_reducible rfl)
      (try simp only [Act.put, List.setIfInBounds_toArray, List.set_cons_zero, List.set_cons_succ])
      refine wpAnyH_takeD 9 37 (v := ?_) (by kernel_rfl) (by kernel_rfl) (by kernel_rfl) (by kernel_rfl) (by rfl) (fun _ _ _ h => h) ?_ hHeld ?_
      rotate_left 1
      (intro o ho W hSw; simp only [List.getElem?_toArray, List.getElem?_cons_succ, List.getElem?_cons_zero, Option.some.injEq] at ho; subst ho; (try dsimp only at hSw); go_simp; try with_reducible rfl)
      (try simp only [Act.put, List.setIfInBounds_toArray, List.set_cons_zero, List.set_cons_succ])
      refine wpAnyH_takeD 10 38 (v := ?_) (by kernel_rfl) (by kernel_rfl) (by kernel_rfl) (by kernel_rfl) (by rfl) (fun _ _ _ h => h) ?_ hHeld ?_
      rotate_left 1
      (intro o ho W hSw; simp only [List.getElem?_toArray, List.getElem?_cons_succ, List.getElem?_cons_zero, Option.some.injEq] at ho; subst ho; (try dsimp only at hSw); go_simp; try with_reducible rfl)
      (try simp only [Act.put, List.setIfInBounds_toArray, List.set_cons_zero, List.set_cons_succ])
      refine wpAnyH_takeD 11 39 (v := ?_) (by kernel_rfl) (by kernel_rfl) (by kernel_rfl) (by kernel_rfl) (by rfl) (fun _ _ _ h => h) ?_ hHeld ?_
      rotate_left 1
      (intro o ho W hSw; simp only [List.getElem?_toArray, List.getElem?_cons_succ, List.getElem?_cons_zero, Option.some.injEq] at ho; subst ho; (try dsimp only at hSw); go_simp; try with_reducible rfl)
      (try simp only [Act.put, List.setIfInBounds_toArray, List.set_cons_zero, List.set_cons_succ])
      refine wpAnyH_takeD 13 41 (v := ?_) (by kernel_rfl) (by kernel_rfl) (by kernel_rfl) (by kernel_rfl) (by rfl) (fun _ _ _ h => h) ?_ hHeld ?_
      rotate_left 1
      (intro o ho W hSw; simp only [List.getElem?_toArray, List.getElem?_cons_succ, List.getElem?_cons_zero, Option.some.injEq] at ho; subst ho; (try dsimp only at hSw); go_simp; try with_reducible rfl)
      (try simp only [Act.put, List.setIfInBounds_toArray, List.set_cons_zero, List.set_cons_succ])
      refine wpAnyH_takeD 14 42 (v := ?_) (by kernel_rfl) (by kernel_rfl) (by kernel_rfl) (by kernel_rfl) (by rfl) (fun _ _ _ h => h) ?_ hHeld ?_
      rotate_left 1
      (intro o ho W hSw; simp only [List.getElem?_toArray, List.getElem?_cons_succ, List.getElem?_cons_zero, Option.some.injEq] at ho; subst ho; (try dsimp only at hSw); go_simp; try with_reducible rfl)
      (try simp only [Act.put, List.setIfInBounds_toArray, List.set_cons_zero, List.set_cons_succ])
      refine wpAnyH_takeD 15 43 (v := ?_) (by kernel_rfl) (by kernel_rfl) (by kernel_rfl) (by kernel_rfl) (by rfl) (fun _ _ _ h => h) ?_ hHeld ?_
      rotate_left 1
      (intro o ho W hSw; simp only [List.getElem?_toArray, List.getElem?_cons_succ, List.getElem?_cons_zero, Option.some.injEq] at ho; subst ho; (try dsimp only at hSw); go_simp; try with_reducible rfl)
      (try simp only [Act.put, List.setIfInBounds_toArray, List.set_cons_zero, List.set_cons_succ])
      refine wpAnyH_takeD 16 44 (v := ?_) (by kernel_rfl) (by kernel_rfl) (by kernel_rfl) (by kernel_rfl) (by rfl) (fun _ _ _ h => h) ?_ hHeld ?_
      rotate_left 1
      (intro o ho W hSw; simp only [List.getElem?_toArray, List.getElem?_cons_succ, List.getElem?_cons_zero, Option.some.injEq] at ho; subst ho; (try dsimp only at hSw); go_simp; try with_reducible rfl)
      (try simp only [Act.put, List.setIfInBounds_toArray, List.set_cons_zero, List.set_cons_succ])
      refine wpAnyH_takeD 17 45 (v := ?_) (by kernel_rfl) (by kernel_rfl) (by kernel_rfl) (by kernel_rfl) (by rfl) (fun _ _ _ h => h) ?_ hHeld ?_
      rotate_left 1
      (intro o ho W hSw; simp only [List.getElem?_toArray, List.getElem?_cons_succ, List.getElem?_cons_zero, Option.some.injEq] at ho; subst ho; (try dsimp only at hSw); go_simp; try with_reducible rfl)
      (try simp only [Act.put, List.setIfInBounds_toArray, List.set_cons_zero, List.set_cons_succ])
      refine wpAnyH_onlyD 12 (by kernel_rfl) (fun o ho K hK => ?_) (by kernel_rfl)
      simp only [List.getElem?_toArray, List.getElem?_cons_succ, List.getElem?_cons_zero, Option.some.injEq] at ho
      subst ho
      go_simp
      refine (rfSub_any (X q) (X j) b k _ _ IQ.1.1 IQ.1.2 IJ.1.1 IJ.1.2 Q0.out.q.f.m).mono ?_
      rintro e w1 ⟨rfl, h⟩
      have Q1 := Lib.hid (Q0.out.fx h)
      go_wp2_with fail
      refine hK.out _ _ (Q1.out.s) ?_
      clear hK K hHeld
      intro hHeld
      clear h Q0
      refine wpAnyH_onlyD 18 (by kernel_rfl) (fun o ho K hK => ?_) (by kernel_rfl)
      simp only [List.getElem?_toArray, List.getElem?_cons_succ, List.getElem?_cons_zero, Option.some.injEq] at ho
      subst ho
      go_simp
      refine (rfSub_any (Y q) (Y j) b k _ _ IQ.2.1 IQ.2.2 IJ.2.1 IJ.2.2 Q1.out.q.f.m).mono ?_
      rintro e w2 ⟨rfl, h⟩
      have Q2 := Lib.hid (Q1.out.fx h)
      go_wp2_with fail
      refine hK.out _ _ (Q2.out.s) ?_
      clear hK K hHeld
      intro hHeld
      clear h Q1
      refine wpAnyH_onlyD 19 (by kernel_rfl) (fun o ho K hK => ?_) (by kernel_rfl)
      simp only [List.getElem?_toArray, List.getElem?_cons_succ, List.getElem?_cons_zero, Option.some.injEq] at ho
      subst ho
      go_simp
      refine (rLen2_any (subF (X q) (X j)) (subF (Y q) (Y j)) b k _ _ (subF_in _ _).1 (subF_in _ _).2 (subF_in _ _).1 (subF_in _ _).2 Q2.out.q.f.m).mono ?_
      rintro e w3 ⟨rfl, h⟩
      have Q3 := Lib.hid (Q2.out.fx h)
      go_wp2_with fail
      refine hK.out _ _ (Q3.out.s) ?_
      clear hK K hHeld
      intro hHeld
      clear h Q2
      have LB := lenF_in (subF (X q) (X j) * subF (X q) (X j) + subF (Y q) (Y j) * subF (Y q) (Y j))
      refine wpAnyH_onlyD 20 (by kernel_rfl) (fun o ho K hK => ?_) (by kernel_rfl)
      simp only [List.getElem?_toArray, List.getElem?_cons_succ, List.getElem?_cons_zero, Option.some.injEq] at ho
      subst ho
      go_simp
      refine (rfAdd_any (lenS n X Y j) (lenF (subF (X q) (X j) * subF (X q) (X j) + subF (Y q) (Y j) * subF (Y q) (Y j))) b k _ _ IL.1 IL.2 (by omega) LB.2 Q3.out.q.f.m).mono ?_
      rintro e w4 ⟨rfl, h⟩
      have Q4 := Lib.hid (Q3.out.fx h)
      go_wp2_with fail
      refine hK.out _ _ (Q4.out.s) ?_
      clear hK K hHeld
      intro hHeld
      clear h Q3
      rw [← L1.out]
      have hz4 : w.heap.size ≤ w4.heap.size := Q4.out.q.f.f.size
      have hnl : n1 + 1 < w4.heap.size := Q4.out.B.lt
      have hgl : g < w4.heap.size := (Q4.out.r.lt g rfl).2
      refine wpAnyH_onlyD 21 (by kernel_rfl) (fun o ho K hK => ?_) (by kernel_rfl)
      simp only [List.getElem?_toArray, List.getElem?_cons_succ, List.getElem?_cons_zero, Option.some.injEq] at ho
      subst ho
      go_simp
      refine hK.out _ _ (Q4.out.s.keep ((Below.refl _ _).alloc (Nat.le_refl _) _) hgl hnl) ?_
      clear hK K hHeld
      intro hHeld
      refine wpAnyH_onlyD 22 (by kernel_rfl) (fun o ho K hK => ?_) (by kernel_rfl)
      simp only [List.getElem?_toArray, List.getElem?_cons_succ, List.getElem?_cons_zero, Option.some.injEq] at ho
      subst ho
      refine step_append_keep (by rfl) (.tmp 28) (.tmp 49) 42 (by rfl) w.heap.size 23 i0 (.int .i64 0) 1 8 U hi hz0 hz1 hz2 rfl (by omega) g (j + 1) cap (numL (lenS n X Y) (j + 1)) (by rfl) (Q4.out.r.alloc _) ⟨w4.heap.size, 0, none⟩ 1 1 [.int .i64 (lenS n X Y (j + 1))] (by rfl) rfl (World.news_of_block (heap_alloc_new w4 _)) (by simp [Value.oneCell']) (by omega) (by unfold maxLen; omega) (by omega) (by simp; omega) ?_
      intro g' cap' w5 hO hG hC
      have HB := (Below.refl w.heap.size (w4.alloc (.cells #[.int .i64 (lenS n X Y (j + 1))] 23))).grown hG (by simp; omega) (fun m e => (Q4.out.r.lt m e).1)
      have HB2 := ((Below.refl w.heap.size w4).alloc hz4 (.cells #[.int .i64 (lenS n X Y (j + 1))] 23)).trans HB
      have hcg : w5.cell? ⟨g, j, none⟩ = some (.int .i64 (lenS n X Y j)) := by
        have k := hC j _ (numL_at (lenS n X Y) (j + 1) j (by omega))
        have e : (⟨g, 0, none⟩ : Addr).add j = ⟨g, j, none⟩ := by simp [Addr.add]; omega
        rw [e] at k; exact k
      have QQ := Lib.hid (Q4.out.q.below HB2 (Nat.le_refl _))
      have OO := Lib.hid hO
      refine hK.out _ _ (((Q4.out.s.keep ((Below.refl _ _).alloc (Nat.le_refl _) _) hgl hnl).put hG hcg (by intro e; cases e; omega) (by intro e; cases e; omega))) ?_
      clear hK K hHeld hO hG hC HB HB2 Q4 hcg
      intro hHeld
      refine wpAnyH_takeD 23 5 (v := ?_) (by kernel_rfl) (by kernel_rfl) (by kernel_rfl) (by kernel_rfl) (by rfl) (fun _ _ _ h => h) ?_ hHeld ?_
      rotate_left 1
      (intro o ho W hSw; simp only [List.getElem?_toArray, List.getElem?_cons_succ, List.getElem?_cons_zero, Option.some.injEq] at ho; subst ho; (try dsimp only at hSw); go_simp; try with_reducible rfl)
      (try simp only [Act.put, List.setIfInBounds_toArray, List.set_cons_zero, List.set_cons_succ])
      refine wpAnyH_done (by kernel_rfl) ?_ _
      clear hHeld
      go_wp2
      go_roundw
      case rel => exact ⟨j + 1, g', cap', by omega, by go_num, by go_num, OO.out, by rw [L2.out]; have := QQ.out; simp only [Bool.or_assoc] at this ⊢; exact this⟩
      case measure => simp [intOf]; omega
    · have e : j = n := by omega
      subst e
      obtain ⟨a', c', hv, D', hb⟩ := owned_nums O2.out (fun i hi => wf_in (by cases i with | zero => exact ⟨by show (-9223372036854775808 : Int) ≤ 0; omega, by show (0 : Int) ≤ 9223372036854775807; omega⟩ | succ i => exact addF_in _ _))
      have D2 := Lib.hid D'
      have HB := Lib.hid hb
      rw [hv]
      clear D' O2 hb hv
      go_wp2
      go_ret
      exact ⟨a', c', rfl, D2.out, Q2.out.f.f, HB.out⟩
end Go.Proofs.Ytjdhjabbojceeaa

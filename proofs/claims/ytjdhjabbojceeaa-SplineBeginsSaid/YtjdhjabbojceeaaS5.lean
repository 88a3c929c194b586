/- The program's spline: Lengths. -/
import Derived.Test.YtjdhjabbojceeaaS4
import Derived.Test.YtjdhjabbojceeaaSe
namespace Go.Proofs.Ytjdhjabbojceeaa
open Go.RowKit
set_option linter.unusedVariables false
set_option linter.unusedSimpArgs false

/-- make of a list of m elements, with room for n -/
theorem wpList_make_some {P : Program} (w : World) {ops : Array Oper} {rest : List Oper} {o : Oper} {a : Act} {Q : Exit → Act → World → Prop}
    (hg : o.guard = none) (l c : Operand) (t : TypeId) (hop : o.op = Op.makeSlice t l c)
    (e : TypeId) (i : TypeInfo) (z : Value) (h1 : P.underlying t = some (.slice e)) (h2 : P.info? e = some i) (h3 : i.zero = some z)
    (kl kc : IntKind) (L C : Int) (m n : Nat) (hl : a.eval l = .int kl L) (hc : a.eval c = .int kc C) (hL : L = (m : Int)) (hC : C = (n : Int)) (hmn : m ≤ n) (b2 : i.bytes * n ≤ 281474976710656) (b3 : n ≤ maxLen)
    (hK : ∀ w', w' = w.alloc (.cells (madeCells z.cells (n * i.size)) e) → wpList P ops Q rest (a.put o.dst (.slice (some ⟨w.heap.size, 0, none⟩) m n)) w') :
    wpList P ops Q (o :: rest) a w := by
  refine wpList_plain hg fun K hK' => ?_
  have h63' : (n : Int) ≤ 9223372036854775807 := by simp only [maxLen] at b3; omega
  have hb' : (i.bytes : Int) * (n : Int) ≤ 281474976710656 := by
    have h : ((i.bytes * n : Nat) : Int) ≤ 281474976710656 := by omega
    rwa [Int.natCast_mul] at h
  have hr := run_make (P := P) w t e i z h1 h2 h3 kl kc (m : Int) (n : Int) (by omega) (by omega) hb' h63'
  simp only [Int.toNat_natCast] at hr
  subst hL
  subst hC
  unfold Oper.wp
  simp [execOp, hop, hl, hc, hr, Result.andThen]
  exact hK' _ _ (hK _ rfl)
theorem made_one (n : Nat) (h : 0 < n) : (madeCells (Value.int .i64 0).cells n).toList.take 1 = [.int .i64 0] := by
  have h2 : (Value.int .i64 0).cells = #[.int .i64 0] := rfl
  rw [h2]
  unfold madeCells
  obtain ⟨m, rfl⟩ : ∃ m, n = m + 1 := ⟨n - 1, by omega⟩
  rw [Array.toList_map, Array.toList_range, List.range_succ_eq_map]
  rfl
theorem made_owns {w : World} {base : Nat} {t : TypeId} {n : Nat} {f : Nat → Int} (h : base ≤ w.heap.size) (h0 : 0 < n) (hn : n ≤ maxLen) (hf : f 0 = 0) : (w.alloc (.cells (madeCells (Value.int .i64 0).cells (n * 1)) t)).ownsRow base t 1 (.slice (some ⟨w.heap.size, 0, none⟩) 1 n) 1 (numL f 1) :=
  ⟨rfl, .inr ⟨w.heap.size, n, _, rfl, h, heap_alloc_new w _, h0, hn, size_madeCells _ _, by rw [Nat.mul_one, Nat.mul_one]; exact (made_one n h0).trans (by show _ = [Value.int .i64 (f 0)]; rw [hf])⟩⟩
theorem sp_next {n : Nat} (h : n ≤ 1000) : IntKind.i64.wrap ((n : Int) + 1) = ((n + 1 : Nat) : Int) ∧ wrap64 ((n : Int) + 1) = ((n + 1 : Nat) : Int) := by
  obtain ⟨u, v⟩ := wrap_in (n := (n : Int) + 1) (by unfold In64; omega)
  exact ⟨u.trans (by omega), v.trans (by omega)⟩
set_option maxRecDepth 100000 in
set_option maxHeartbeats 8000000 in
theorem spLengths_any (a : Option Addr) (n c : Nat) (X Y : Nat → Int) (b k : Nat) (o : Bool) (w : World) (hmax : n ≤ 1000) (D : Dots w a n c X Y) (m : MAt w b k o) (hne : 0 < n → ∀ p, a = some p → p.block ≠ b) :
    Calls Try.prog 18 #[.pointer (some ⟨b, k, none⟩), .slice a n c] w fun e w' => ∃ a' c', e = .returned (.slice a' (n + 1) c') ∧ Nums w'.heap.size w' ⟨a', n + 1, c', lenS n X Y⟩ ∧ FxW w.heap.size w b k (o || lenSO n X Y n) w' ∧ (∀ p, a' = some p → w.heap.size ≤ p.block) := by
  have hlt := m.lt
  have Q0 := Lib.hid (show SmW w w b k o a n c X Y from ⟨D, Flag.start m (Below.refl _ _), fun h0 p e => ⟨hne h0 p e, by obtain ⟨mb, off, e2, hb, _⟩ := D.at' h0; rw [e2] at e; cases e; exact hb⟩⟩)
  obtain ⟨i0, hi, hz0, hz1, hz2⟩ := info_parts fxInfo
  have U := Try.underlying42
  have WF := Lib.hid (fun (i : Nat) (h : i < n) => And.intro (show In64 (X i) from bounds_i64 (D.wf i h).1) (show In64 (Y i) from bounds_i64 (D.wf i h).2))
  have OC := Lib.hid (sp_next hmax)
  clear D m
  go_enter Try.func18, Try.ntmps18
  obtain ⟨oc1, oc2⟩ := OC.out
  go_wp2_with (at_make; refine wpList_make_some _ rfl _ _ 42 rfl 23 i0 (Value.int .i64 0) U hi hz0 .i64 .i64 _ _ 1 (n + 1) rfl rfl rfl rfl (by omega) (by rw [hz2]; omega) (by unfold maxLen; omega) ?_; clear oc1 oc2; intro W1 hW1; have Q1 := Lib.hid (show SmW w W1 b k o a n c X Y from hW1 ▸ Q0.out.more ((Below.refl _ _).alloc (Nat.le_refl _) _)); have O1 := Lib.hid (show W1.ownsRow w.heap.size 23 1 (.slice (some ⟨w.heap.size, 0, none⟩) 1 (n + 1)) 1 (numL (lenS n X Y) 1) from by rw [hW1, hz1]; exact made_owns (Nat.le_refl _) (by omega) (by unfold maxLen; omega) rfl); clear hW1 Q0)
  go_loopw [5, 16] (fun v i wr => ∃ j g cap : Nat, j ≤ n ∧ i = .int .i64 j ∧ v = .slice (some ⟨g, 0, none⟩) (j + 1) cap ∧ wr.ownsRow w.heap.size 23 1 (.slice (some ⟨g, 0, none⟩) (j + 1) cap) (j + 1) (numL (lenS n X Y) (j + 1)) ∧ SmW w wr b k (o || lenSO n X Y j) a n c X Y) (fun _ i _ => n - (intOf i).toNat)
  case atStart => exact ⟨0, w.heap.size, n + 1, by omega, rfl, rfl, O1.out, by have := Q1.out; show SmW _ _ _ _ (o || false) _ _ _ _ _; rw [Bool.or_false]; exact this⟩
  case round =>
    obtain ⟨j, g, cap, hj, rfl, rfl, hO, hQ⟩ := hrel
    have O2 := Lib.hid hO
    have Q2 := Lib.hid hQ
    clear hO hQ O1 Q1
    by_cases hlj : j < n
    · have hn0 : 0 < n := by omega
      have hq : (j + 1) % n < n := Nat.mod_lt _ hn0
      have e2 : Int.tmod ((j : Int) + 1) (n : Int) = (((j + 1) % n : Nat) : Int) := on_tmod 1
      have L1 := Lib.hid (show lenS n X Y (j + 1) = addF (lenS n X Y j) (lenF (wayX n X j * wayX n X j + wayX n Y j * wayX n Y j)) from rfl)
      have L2 := Lib.hid (show (o || lenSO n X Y (j + 1)) = (o || (lenSO n X Y j || (subO (X ((j + 1) % n)) (X j) || subO (Y ((j + 1) % n)) (Y j) || lenO (wayX n X j * wayX n X j + wayX n Y j * wayX n Y j) || addO (lenS n X Y j) (lenF (wayX n X j * wayX n X j + wayX n Y j * wayX n Y j))))) from rfl)
      unfold wayX at L1 L2
      have IL : In64 (lenS n X Y j) := by cases j with | zero => exact ⟨by show (-9223372036854775808 : Int) ≤ 0; omega, by show (0 : Int) ≤ 9223372036854775807; omega⟩ | succ j => exact addF_in _ _
      generalize (j + 1) % n = q at *
      obtain ⟨mb, off, ha, hb, hcell⟩ := Q2.out.d.at' hn0
      have hbw : mb < w.heap.size := (Q2.out.e hn0 _ ha).2
      subst ha
      obtain ⟨c0, d0⟩ := hcell j hlj
      obtain ⟨c1, d1⟩ := hcell q hq
      have z0 : (0 : Int) ≤ (j : Int) := by omega
      have z1 : (j : Int) < (n : Int) := by omega
      have z2 : (q : Int) < (n : Int) := Int.ofNat_lt.mpr hq
      have z4 : (j : Int) < ((j + 1 : Nat) : Int) := by omega
      have z5 : (j : Int) < (j : Int) + 1 := by omega
      have z6 : j < j + 1 := by omega
      have z3 : (0 : Int) ≤ (q : Int) := by omega
      have zn : ¬ (n : Int) = 0 := by omega
      have hb1 : mb < wr.heap.size + 1 := by omega
      have hg : g < wr.heap.size := (O2.out.lt g rfl).2
      have hzw : w.heap.size ≤ wr.heap.size := Q2.out.f.f.size
      have IJ := WF.out j hlj
      have IQ := WF.out q hq
      clear hcell
      go_wp2_with fail
      refine wp_gen (S := fun W => LgW w W b k (o || lenSO n X Y j) (some ⟨mb, off, none⟩) n c X Y g cap j wr.heap.size (lenS n X Y) (X j) (Y j) (X q) (Y q)) ⟨(Q2.out.more ((Below.refl _ _).alloc (Nat.le_refl _) _)).more ((Below.refl _ _).alloc (Nat.le_refl _) _), (O2.out.alloc _).alloc _, (BW.new wr _ [_, _] _ rfl).alloc _, BW.new _ _ [_, _] _ (by simp), by omega⟩ (fun W2 hS => ?_)
      have R0 := Lib.hid hS.drew
      clear hS Q2 O2 c0 d0 c1 d1
      have hgn : g < wr.heap.size := hg
      generalize wr.heap.size = n1 at *
      have Q0 := R0
      clear R0
      refine wp_region_held_drew (S := LgS g j n1 (lenS n X Y j) (X j) (Y j) (X q) (Y q)) (by kernel_rfl) Q0.out.s (fun hHeld => ?_)
      generalize W2.drew = w0 at *
      unfold LgS at hHeld ⊢
      refine wpAnyH_takeD 0 29 (v := ?_) (by kernel_rfl) (by kernel_rfl) (by kernel_rfl) (by kernel_rfl) (by rfl) (fun _ _ _ h => h) ?_ hHeld ?_
      rotate_left 1
      (intro o ho W hSw; simp only [List.getElem?_toArray, List.getElem?_cons_succ, List.getElem?_cons_zero, Option.some.injEq] at ho; subst ho; (try dsimp only at hSw); go_simp; try with_reducible rfl)
      (try simp only [Act.put, List.setIfInBounds_toArray, List.set_cons_zero, List.set_cons_succ])
      refine wpAnyH_takeD 1 30 (v := ?_) (by kernel_rfl) (by kernel_rfl) (by kernel_rfl) (by kernel_rfl) (by rfl) (fun _ _ _ h => h) ?_ hHeld ?_
      rotate_left 1
      (intro o ho W hSw; simp only [List.getElem?_toArray, List.getElem?_cons_succ, List.getElem?_cons_zero, Option.some.injEq] at ho; subst ho; (try dsimp only at hSw); go_simp; try with_reducible rfl)
      (try simp only [Act.put, List.setIfInBounds_toArray, List.set_cons_zero, List.set_cons_succ])
      refine wpAnyH_takeD 2 31 (v := ?_) (by kernel_rfl) (by kernel_rfl) (by kernel_rfl) (by kernel_rfl) (by rfl) (fun _ _ _ h => h) ?_ hHeld ?_
      rotate_left 1
      (intro o ho W hSw; simp only [List.getElem?_toArray, List.getElem?_cons_succ, List.getElem?_cons_zero, Option.some.injEq] at ho; subst ho; (try dsimp only at hSw); go_simp; try with_reducible rfl)
      (try simp only [Act.put, List.setIfInBounds_toArray, List.set_cons_zero, List.set_cons_succ])
      refine wpAnyH_takeD 3 32 (v := ?_) (by kernel_rfl) (by kernel_rfl) (by kernel_rfl) (by kernel_rfl) (by rfl) (fun _ _ _ h => h) ?_ hHeld ?_
      rotate_left 1
      (intro o ho W hSw; simp only [List.getElem?_toArray, List.getElem?_cons_succ, List.getElem?_cons_zero, Option.some.injEq] at ho; subst ho; (try dsimp only at hSw); go_simp; try with_reducible rfl)
      (try simp only [Act.put, List.setIfInBounds_toArray, List.set_cons_zero, List.set_cons_succ])
      refine wpAnyH_takeD 4 33 (v := ?_) (by kernel_rfl) (by kernel_rfl) (by kernel_rfl) (by kernel_rfl) (by rfl) (fun _ _ _ h => h) ?_ hHeld ?_
      rotate_left 1
      (intro o ho W hSw; simp only [List.getElem?_toArray, List.getElem?_cons_succ, List.getElem?_cons_zero, Option.some.injEq] at ho; subst ho; (try dsimp only at hSw); go_simp; try with_reducible rfl)
      (try simp only [Act.put, List.setIfInBounds_toArray, List.set_cons_zero, List.set_cons_succ])
      refine wpAnyH_takeD 5 34 (v := ?_) (by kernel_rfl) (by kernel_rfl) (by kernel_rfl) (by kernel_rfl) (by rfl) (fun _ _ _ h => h) ?_ hHeld ?_
      rotate_left 1
      (intro o ho W hSw; simp only [List.getElem?_toArray, List.getElem?_cons_succ, List.getElem?_cons_zero, Option.some.injEq] at ho; subst ho; (try dsimp only at hSw); go_simp; try with_reducible rfl)
      (try simp only [Act.put, List.setIfInBounds_toArray, List.set_cons_zero, List.set_cons_succ])
      refine wpAnyH_takeD 7 36 (v := ?_) (by kernel_rfl) (by kernel_rfl) (by kernel_rfl) (by kernel_rfl) (by rfl) (fun _ _ _ h => h) ?_ hHeld ?_
      rotate_left 1
      (intro o ho W hSw; simp only [List.getElem?_toArray, List.getElem?_cons_succ, List.getElem?_cons_zero, Option.some.injEq] at ho; subst ho; (try dsimp only at hSw); go_simp; try with_reducible rfl)
      (try simp only [Act.put, List.setIfInBounds_toArray, List.set_cons_zero, List.set_cons_succ])
      refine wpAnyH_takeD 8 37 (v := ?_) (by kernel_rfl) (by kernel_rfl) (by kernel_rfl) (by kernel_rfl) (by rfl) (fun _ _ _ h => h) ?_ hHeld ?_
      rotate_left 1
      (intro o ho W hSw; simp only [List.getElem?_toArray, List.getElem?_cons_succ, List.getElem?_cons_zero, Option.some.injEq] at ho; subst ho; (try dsimp only at hSw); go_simp; try with_reducible rfl)
      (try simp only [Act.put, List.setIfInBounds_toArray, List.set_cons_zero, List.set_cons_succ])
      refine wpAnyH_takeD 9 38 (v := ?_) (by kernel_rfl) (by kernel_rfl) (by kernel_rfl) (by kernel_rfl) (by rfl) (fun _ _ _ h => h) ?_ hHeld ?_
      rotate_left 1
      (intro o ho W hSw; simp only [List.getElem?_toArray, List.getElem?_cons_succ, List.getElem?_cons_zero, Option.some.injEq] at ho; subst ho; (try dsimp only at hSw); go_simp; try with_reducible rfl)
      (try simp only [Act.put, List.setIfInBounds_toArray, List.set_cons_zero, List.set_cons_succ])
      refine wpAnyH_takeD 10 39 (v := ?_) (by kernel_rfl) (by kernel_rfl) (by kernel_rfl) (by kernel_rfl) (by rfl) (fun _ _ _ h => h) ?_ hHeld ?_
      rotate_left 1
      (intro o ho W hSw; simp only [List.getElem?_toArray, List.getElem?_cons_succ, List.getElem?_cons_zero, Option.some.injEq] at ho; subst ho; (try dsimp only at hSw); go_simp; try with_reducible rfl)
      (try simp only [Act.put, List.setIfInBounds_toArray, List.set_cons_zero, List.set_cons_succ])
      refine wpAnyH_takeD 11 40 (v := ?_) (by kernel_rfl) (by kernel_rfl) (by kernel_rfl) (by kernel_rfl) (by rfl) (fun _ _ _ h => h) ?_ hHeld ?_
      rotate_left 1
      (intro o ho W hSw; simp only [List.getElem?_toArray, List.getElem?_cons_succ, List.getElem?_cons_zero, Option.some.injEq] at ho; subst ho; (try dsimp only at hSw); go_simp; try with_reducible rfl)
      (try simp only [Act.put, List.setIfInBounds_toArray, List.set_cons_zero, List.set_cons_succ])
      refine wpAnyH_onlyD 6 (by kernel_rfl) (fun o ho K hK => ?_) (by kernel_rfl)
      simp only [List.getElem?_toArray, List.getElem?_cons_succ, List.getElem?_cons_zero, Option.some.injEq] at ho
      subst ho
      go_simp
      refine (fxSub_any (X q) (X j) b k _ _ IQ.1.1 IQ.1.2 IJ.1.1 IJ.1.2 Q0.out.q.f.m).mono ?_
      rintro e w1 ⟨rfl, h⟩
      have Q1 := Lib.hid (Q0.out.fx h)
      go_wp2_with fail
      refine hK.out _ _ (Q1.out.s) ?_
      clear hK K hHeld
      intro hHeld
      clear h Q0
      refine wpAnyH_onlyD 12 (by kernel_rfl) (fun o ho K hK => ?_) (by kernel_rfl)
      simp only [List.getElem?_toArray, List.getElem?_cons_succ, List.getElem?_cons_zero, Option.some.injEq] at ho
      subst ho
      go_simp
      refine (fxSub_any (Y q) (Y j) b k _ _ IQ.2.1 IQ.2.2 IJ.2.1 IJ.2.2 Q1.out.q.f.m).mono ?_
      rintro e w2 ⟨rfl, h⟩
      have Q2 := Lib.hid (Q1.out.fx h)
      go_wp2_with fail
      refine hK.out _ _ (Q2.out.s) ?_
      clear hK K hHeld
      intro hHeld
      clear h Q1
      refine wpAnyH_onlyD 13 (by kernel_rfl) (fun o ho K hK => ?_) (by kernel_rfl)
      simp only [List.getElem?_toArray, List.getElem?_cons_succ, List.getElem?_cons_zero, Option.some.injEq] at ho
      subst ho
      go_simp
      refine (Len2_any (subF (X q) (X j)) (subF (Y q) (Y j)) b k _ _ (subF_in _ _).1 (subF_in _ _).2 (subF_in _ _).1 (subF_in _ _).2 Q2.out.q.f.m).mono ?_
      rintro e w3 ⟨rfl, h⟩
      have Q3 := Lib.hid (Q2.out.fx h)
      go_wp2_with fail
      refine hK.out _ _ (Q3.out.s) ?_
      clear hK K hHeld
      intro hHeld
      clear h Q2
      have LB := lenF_in (subF (X q) (X j) * subF (X q) (X j) + subF (Y q) (Y j) * subF (Y q) (Y j))
      refine wpAnyH_takeD 14 9 (v := ?_) (by kernel_rfl) (by kernel_rfl) (by kernel_rfl) (by kernel_rfl) (by rfl) (fun _ _ _ h => h) ?_ hHeld ?_
      rotate_left 1
      (intro o ho W hSw; simp only [List.getElem?_toArray, List.getElem?_cons_succ, List.getElem?_cons_zero, Option.some.injEq] at ho; subst ho; (try dsimp only at hSw); go_simp; try with_reducible rfl)
      (try simp only [Act.put, List.setIfInBounds_toArray, List.set_cons_zero, List.set_cons_succ])
      refine wpAnyH_done (by kernel_rfl) ?_ _
      clear hHeld
      have lc := own_num (Q3.out.r) (i := j) (by omega)
      go_wp2_with fail
      refine (fxAdd_any (lenS n X Y j) (lenF (subF (X q) (X j) * subF (X q) (X j) + subF (Y q) (Y j) * subF (Y q) (Y j))) b k _ _ IL.1 IL.2 (by omega) LB.2 Q3.out.q.f.m).mono ?_
      rintro e w4 ⟨rfl, h⟩
      have Q4 := Lib.hid (Q3.out.fx h)
      clear h Q3 lc
      rw [← L1.out]
      have hz4 : w.heap.size ≤ w4.heap.size := Q4.out.q.f.f.size
      go_wp2_with (at_builtin; refine wpList_append_lies _ rfl (.tmp 43) (.tmp 51) 42 rfl w.heap.size 23 i0 (.int .i64 0) 1 8 U hi hz0 hz1 hz2 rfl (by omega) _ (j + 1) (numL (lenS n X Y) (j + 1)) rfl (Q4.out.r.alloc _) ⟨w4.heap.size, 0, none⟩ 1 1 [.int .i64 (lenS n X Y (j + 1))] rfl rfl (World.news_of_block (heap_alloc_new w4 _)) (by simp [Value.oneCell']) (by omega) (by unfold maxLen; omega) (by omega) (by simp; omega) _ rfl ?_)
      intro g' cap' w5 hO hG hat hlt2
      have HB := (Below.refl w.heap.size (w4.alloc (.cells #[.int .i64 (lenS n X Y (j + 1))] 23))).grown hG (by simp; omega) (fun m e => (Q4.out.r.lt m e).1)
      have HB2 := ((Below.refl w.heap.size w4).alloc hz4 (.cells #[.int .i64 (lenS n X Y (j + 1))] 23)).trans HB
      have QQ := Lib.hid (Q4.out.q.below HB2 (Nat.le_refl _))
      have OO := Lib.hid hO
      clear hO hG hat HB HB2 Q4 hlt2
      go_wp2
      go_roundw
      case rel => exact ⟨j + 1, g', cap', by omega, by go_num, by go_num, OO.out, by rw [L2.out]; have := QQ.out; simp only [Bool.or_assoc] at this ⊢; exact this⟩
      case measure => simp [intOf]; omega
    · have e : j = n := by omega
      subst e
      obtain ⟨a', c', hv, D', hb⟩ := owned_nums O2.out (fun i hi => wf_in (by cases i with | zero => exact ⟨by show (-9223372036854775808 : Int) ≤ 0; omega, by show (0 : Int) ≤ 9223372036854775807; omega⟩ | succ i => exact addF_in _ _))
      have D2 := Lib.hid D'
      have HB := Lib.hid hb
      rw [hv]
      clear D' O2 hb hv
      go_wp2
      go_ret
      exact ⟨a', c', rfl, D2.out, Q2.out.f.f, HB.out⟩
end Go.Proofs.Ytjdhjabbojceeaa

/- The document's Right of cars: what stands behind the wheels. -/
import Derived.Test.YtbpmbdnhfkfkhaaZc
import Derived.Test.YtbpmbdnhfkfkhaaBk
namespace Go.Proofs.Ytbpmbdnhfkfkhaa
open Go.RowKit
set_option linter.unusedVariables false
set_option linter.unusedSimpArgs false

theorem BW.range {W : World} {m : Nat} {l : List Value} (K : BW W m l) : W.rangeAt m 0 l := fun j v h => by rw [Nat.zero_add]; exact K.c j v h
/-- a whole row is read: the operation's own value -/
theorem ld_mid {P : Program} {w : World} {o : Oper} {a : Act} (ty : TypeId) (x : Operand) (ho : o.op = .load ty x)
    (b off : Nat) (hx : a.eval x = .pointer (some ⟨b, off, none⟩)) (cs : List Value) (d : TypeDesc) (hc : w.rangeAt b off cs)
    (hu : P.underlying ty = some d) (hd : d.isRow = true) (hi : (P.info? ty).map (·.size) = some cs.length) : (execOp a.eval o).run P w = .ok (.value (.agg cs.toArray)) w := by
  unfold execOp
  simp only [ho, hx, Sem.run_bind, Sem.run_pure, Result.andThen_ok, run_loadAt_mid w b off ty cs d hc hu hd hi]
/-- the code from region n on -/
def fsR : Code → Option Nat
  | .region k _ _ => some k
  | .seq a _ => fsR a
  | _ => none
def atC (n : Nat) : Code → Option Code
  | .seq a b => if fsR a = some n then some (.seq a b) else match atC n a with
    | some c => some c
    | none => atC n b
  | .loop c => atC n c
  | .block _ c => atC n c
  | .scope c => atC n c
  | _ => none
noncomputable def rcT (n : Nat) : Code := ((Try.f8.body.bind (atC n)).getD .skip)
/-- the tables' slices in a car's copy -/
def slS (m : Nat) (c : Cr) (W : World) : Prop :=
  W.cell? ⟨m, 46, none⟩ = some (.slice c.d.a c.d.n c.d.c) ∧ W.cell? ⟨m, 47, none⟩ = some (.slice c.t.x.a c.t.x.n c.t.x.c) ∧ W.cell? ⟨m, 48, none⟩ = some (.slice c.t.y.a c.t.y.n c.t.y.c) ∧ W.cell? ⟨m, 49, none⟩ = some (.slice c.t.a c.t.n c.t.c) ∧ W.cell? ⟨m, 50, none⟩ = some (.slice c.q.a c.q.n c.q.c) ∧ W.cell? ⟨m, 51, none⟩ = some (.slice c.r.a c.r.n c.r.c)
theorem BW.slS {W : World} {m : Nat} {c : Cr} (K : BW W m (carL c)) : slS m c W := ⟨K.c 46 _ rfl, K.c 47 _ rfl, K.c 48 _ rfl, K.c 49 _ rfl, K.c 50 _ rfl, K.c 51 _ rfl⟩
theorem fst_zero : ∀ {l : List Int} {j : Nat}, (∀ x ∈ l, x = 0) → fstC l j = (0, 0)
  | [], _, _ => rfl
  | x :: l, j, h => by unfold fstC; rw [if_pos (h x (by simp))]; exact fst_zero (fun y hy => h y (by simp [hy]))
theorem fst_at : ∀ {l : List Int} {j k : Nat} {x : Int}, (∀ i, i < k → l[i]? = some 0) → l[k]? = some x → x ≠ 0 → fstC l j = (x, j + k)
  | [], _, k, _, _, h, _ => by rw [List.getElem?_nil] at h; cases h
  | y :: l, j, 0, x, _, h, n => by cases h; unfold fstC; rw [if_neg n]; rfl
  | y :: l, j, k + 1, x, h, hx, n => by
    have e := h 0 (by omega)
    cases e
    unfold fstC
    rw [if_pos rfl, fst_at (j := j + 1) (fun i hi => h (i + 1) (by omega)) hx n]
    congr 1
    omega
theorem ob_cell {base : Nat} {W : World} {v : Value} {xs : List Value} (h : OB base W v xs) (n0 : 0 < xs.length) : ∃ g cap, v = .slice (some ⟨g, 0, none⟩) xs.length cap ∧ ∀ j u, xs[j]? = some u → W.cell? ⟨g, j, none⟩ = some u := by
  rcases h with ⟨rfl, rfl⟩ | ⟨g, cap, hv, -, -, -, -, -, -, hx⟩
  · exact absurd n0 (by simp)
  · exact ⟨g, cap, hv, hx⟩
/-- append of whatever yields elements, inside a held region -/
theorem step_oz {P : Program} {w : World} {ops : Array Oper} {o : Oper} {a : Act} {K : Act → World → Prop} {Q : Exit → Act → World → Prop} {E : Prop} (hgd : o.guard = none) (s x : Operand) (t tx : TypeId)
    (ho : o.op = .call { callee := .builtin .append, args := #[s, x], argTypes := #[t, tx] })
    {base : Nat} {v : Value} {xs : List Value} (T : TypeId) (i : TypeInfo) (z : Value) (ht : P.underlying t = some (.slice T)) (hi : P.info? T = some i) (hz : i.zero = some z)
    (hzs : z.cells.size = 1) (h1 : i.size = 1) (hby : i.bytes ≤ 8) (h : OB base w v xs) (hv : a.eval s = v) (xv : Value) (m : Nat) (news : List Value) (hx : a.eval x = xv) (hs : Src P 1 tx xv m news w) (hf : xs.length + m ≤ 1000000000) (hbase : base ≤ w.heap.size)
    (hK : ∀ v' w', OB base w' v' (xs ++ news) → w.grownBy w' v.ownBlock → (v'.ownBlock = v.ownBlock ∨ v'.ownBlock = some w.heap.size) → K (a.put o.dst v') w') :
    if Region.wanted o (yielded ops a.tmps) = true then Oper.wp P o a w K Q else E := by
  rw [if_pos (by simp [Region.wanted, hgd])]
  obtain ⟨v', w', hrun, r1, r2, r3⟩ := ob_append (P := P) t tx o.type T i z ht hi hz hzs h1 hby h xv m news hs hf hbase
  unfold Oper.wp execOp
  simp only [ho, resolve, invoke, builtin, Sem.run_bind, Sem.run_pure, Result.andThen_ok, List.map_toArray, List.map_cons, List.map_nil, hv, hx, hrun]
  exact hK v' w' r1 r2 r3
set_option maxRecDepth 100000 in
set_option maxHeartbeats 8000000 in
/-- the loop over the errors -/
theorem rc_end (c : Cr) (B : Nat) (w W : World) (L : List Int) (v : Value) (S : RcS w W B c v L) (LL : L.length = 14) (HE : L = errC c) (c5 c6 c7 c8 c9 c10 c11 c12 c13 c14 c15 c16 c17 c18 c19 c20 c21 c22 c23 c24 c25 c26 c27 c28 c29 c30 c31 c32 c33 c34 c35 c36 c37 c38 c39 c40 c41 c42 c43 c44 c45 c46 c47 c48 c49 c50 c51 c52 c53 c54 c55 c56 c57 c58 c59 c60 c61 c62 c63 c64 c65 c66 c67 c68 c69 c70 c71 c72 c73 c74 c75 c76 c77 c78 c79 c80 c81 c82 c83 c84 c85 c86 c87 c88 c89 : Value) :
    Code.wp Try.prog (rcT 10) (bodyPost Try.prog Try.f8 fun e w' => e = .returned (.tuple #[.int .i64 (rgtC c).1, .int .i64 (rgtC c).2]) ∧ Below w.heap.size w w') ⟨#[.agg (carL c).toArray, .pointer (some ⟨w.heap.size, 0, none⟩), .int .i64 0, .int .i64 0, v, c5, c6, c7, c8, c9, c10, c11, c12, c13, c14, c15, c16, c17, c18, c19, c20, c21, c22, c23, c24, c25, c26, c27, c28, c29, c30, c31, c32, c33, c34, c35, c36, c37, c38, c39, c40, c41, c42, c43, c44, c45, c46, c47, c48, c49, c50, c51, c52, c53, c54, c55, c56, c57, c58, c59, c60, c61, c62, c63, c64, c65, c66, c67, c68, c69, c70, c71, c72, c73, c74, c75, c76, c77, c78, c79, c80, c81, c82, c83, c84, c85, c86, c87, c88, c89], []⟩ W := by
  have S0 := Lib.hid S
  have ER := Lib.hid (show rgtC c = fstC L 0 by rw [HE]; rfl)
  have BL := Lib.hid S.q.l
  obtain ⟨g, cap, rfl, hc⟩ := ob_cell S.o (by rw [eiV_len]; omega)
  rw [show (eiV L).length = 14 by rw [eiV_len]; exact LL] at *
  have HC := Lib.hid (fun (j : Nat) (x : Int) (h : L[j]? = some x) => hc j _ (eiV_at h))
  rw [ER.out]
  have FZ := Lib.hid (fun (h : ∀ x ∈ L, x = 0) => fst_zero (j := 0) h)
  have FA := Lib.hid (fun (k : Nat) (x : Int) (h : ∀ i, i < k → L[i]? = some 0) (hx : L[k]? = some x) (n : x ≠ 0) => fst_at (j := 0) h hx n)
  have LN := Lib.hid LL
  generalize fstC L 0 = R at *
  clear S hc HE ER LL S0
  conv => arg 2; whnf
  go_wp2
  go_loopw [6] (fun i wr => wr = W ∧ ∃ j : Nat, j ≤ 14 ∧ i = .int .i64 j ∧ ∀ i, i < j → L[i]? = some 0) (fun i _ => 14 - (intOf i).toNat)
  case atStart => exact ⟨by trivial, 0, by omega, rfl, fun i h => absurd h (by omega)⟩
  case round =>
    obtain ⟨rfl, j, hj, rfl, hz⟩ := hrel
    have HZ := Lib.hid hz
    clear hz
    by_cases hlt : j < 14
    · obtain ⟨x, hx⟩ : ∃ x, L[j]? = some x := ⟨_, List.getElem?_eq_getElem (by rw [LN.out]; exact hlt)⟩
      have HX := Lib.hid hx
      have cj : wr.cell? ⟨g, j, none⟩ = some (.int .i64 x) := HC.out j x hx
      clear hx
      by_cases x0 : x = 0
      · have XZ := Lib.hid (show ∀ i, i < j + 1 → L[i]? = some 0 from fun i hi => by
          by_cases e : i = j
          · rw [e, HX.out, x0]
          · exact HZ.out i (by omega))
        subst x0
        go_wp2
        go_roundw
        case rel => exact ⟨by trivial, j + 1, by omega, by go_num, XZ.out⟩
        case measure => simp [intOf]; omega
      · have F := Lib.hid (FA.out j x HZ.out HX.out x0)
        have xb : (x != 0) = true := bne_iff_ne.mpr x0
        go_wp2
        go_ret2
        exact ⟨by rw [F.out, Nat.zero_add]; rfl, BL.out⟩
    · have j4 : j = 14 := by omega
      subst j4
      have F := Lib.hid (FZ.out (fun x hx => by
        obtain ⟨i, hi⟩ := List.getElem?_of_mem hx
        have : i < 14 := by
          rcases Nat.lt_or_ge i 14 with l | l
          · exact l
          · rw [List.getElem?_eq_none (by rw [LN.out]; exact l)] at hi; cases hi
        rw [HZ.out i this] at hi; cases hi; rfl))
      go_wp2
      go_ret2
      exact ⟨by rw [F.out]; rfl, BL.out⟩
set_option maxRecDepth 100000 in
set_option maxHeartbeats 8000000 in
/-- engine, gears, rest, ease -/
theorem rc_nine (c : Cr) (B : Nat) (w W : World) (L : List Int) (v : Value) (hB : B ≤ w.heap.size) (S : RcS w W B c v L) (LL : L.length = 10) (HE : L ++ [rCEngineN c, rCGearsN c, rngC (rCRestB c), rCEaseN c] = errC c) (c5 c6 c7 c8 c9 c10 c11 c12 c13 c14 c15 c16 c17 c18 c19 c20 c21 c22 c23 c24 c25 c26 c27 c28 c29 c30 c31 c32 c33 c34 c35 c36 c37 c38 c39 c40 c41 c42 c43 c44 c45 c46 c47 c48 c49 c50 c51 c52 c53 c54 c55 c56 c57 c58 c59 c60 c61 c62 c63 c64 c65 c66 c67 c68 c69 c70 c71 c72 c73 c74 c75 c76 c77 c78 c79 c80 c81 c82 c83 c84 c85 c86 c87 c88 c89 : Value) :
    Code.wp Try.prog (rcT 9) (bodyPost Try.prog Try.f8 fun e w' => e = .returned (.tuple #[.int .i64 (rgtC c).1, .int .i64 (rgtC c).2]) ∧ Below w.heap.size w w') ⟨#[.agg (carL c).toArray, .pointer (some ⟨w.heap.size, 0, none⟩), .int .i64 0, .int .i64 0, v, c5, c6, c7, c8, c9, c10, c11, c12, c13, c14, c15, c16, c17, c18, c19, c20, c21, c22, c23, c24, c25, c26, c27, c28, c29, c30, c31, c32, c33, c34, c35, c36, c37, c38, c39, c40, c41, c42, c43, c44, c45, c46, c47, c48, c49, c50, c51, c52, c53, c54, c55, c56, c57, c58, c59, c60, c61, c62, c63, c64, c65, c66, c67, c68, c69, c70, c71, c72, c73, c74, c75, c76, c77, c78, c79, c80, c81, c82, c83, c84, c85, c86, c87, c88, c89], []⟩ W := by
  have S0 := Lib.hid S.drew
  have LL := Lib.hid LL
  have X1 := Lib.hid (fun (W : World) => rCEngine_any c W)
  have X2 := Lib.hid (fun (W : World) (S : RcS w W B c v L) => rCGears_any c B W S.q.bz S.q.M.g)
  have X3 := Lib.hid (fun (W : World) => rCRest_any c W)
  have X4 := Lib.hid (fun (W : World) => rCEase_any c W)
  obtain ⟨e1, h1⟩ : ∃ e, rCEngineN c = e := ⟨_, rfl⟩
  obtain ⟨e2, h2⟩ : ∃ e, rCGearsN c = e := ⟨_, rfl⟩
  obtain ⟨b3, hb3⟩ : ∃ e, rCRestB c = e := ⟨_, rfl⟩
  obtain ⟨e3, h3⟩ : ∃ e, rngC (rCRestB c) = e := ⟨_, rfl⟩
  obtain ⟨e4, h4⟩ : ∃ e, rCEaseN c = e := ⟨_, rfl⟩
  rw [h1, h2, h3, h4] at HE
  rw [h1] at X1; rw [h2] at X2; rw [hb3] at X3; rw [h4] at X4
  rw [hb3] at h3
  have XR := Lib.hid (fun (W : World) => h3 ▸ rCRanged_any b3 W)
  have HE := Lib.hid HE
  clear S h1 h2 hb3 h3 h4
  conv => arg 2; whnf
  go_wp2_with fail
  rename_i K0 a0
  have A0 := Lib.hid a0
  clear a0
  refine wp_region_held_drew (S := fun W => BW W w.heap.size (carL c)) (by kernel_rfl) S0.out.q.k (fun hHeld => ?_)
  generalize World.drew _ = w0 at *
  refine tkD 0 62 (v := ?_) ?_ hHeld ?_
  rotate_left 1
  (intro W hSw; (try dsimp only at hSw); go_simp; try with_reducible rfl)
  (try simp only [putA, putB, putC, putD])
  refine tkD 1 63 (v := .agg (carL c).toArray) ?_ hHeld ?_
  · exact fun W hS => ld_mid 37 (.tmp 1) rfl w.heap.size 0 rfl (carL c) _ (BW.range hS) Try.underlying37 rfl (by kernel_rfl)
  (try simp only [putA, putB, putC, putD])
  refine tkD 3 65 (v := .agg (carL c).toArray) ?_ hHeld ?_
  · exact fun W hS => ld_mid 37 (.tmp 1) rfl w.heap.size 0 rfl (carL c) _ (BW.range hS) Try.underlying37 rfl (by kernel_rfl)
  (try simp only [putA, putB, putC, putD])
  refine tkD 5 67 (v := .agg (carL c).toArray) ?_ hHeld ?_
  · exact fun W hS => ld_mid 37 (.tmp 1) rfl w.heap.size 0 rfl (carL c) _ (BW.range hS) Try.underlying37 rfl (by kernel_rfl)
  (try simp only [putA, putB, putC, putD])
  refine tkD 8 70 (v := .agg (carL c).toArray) ?_ hHeld ?_
  · exact fun W hS => ld_mid 37 (.tmp 1) rfl w.heap.size 0 rfl (carL c) _ (BW.range hS) Try.underlying37 rfl (by kernel_rfl)
  (try simp only [putA, putB, putC, putD])
  refine onlD 2 (fun K hK => ?_)
  go_simp
  refine (X1.out _).mono ?_
  rintro e w1 ⟨rfl, h⟩
  have S1 := Lib.hid (S0.out.step h)
  go_wp2_with fail
  refine hK.out _ _ (S1.out.q.k) ?_
  clear hK K hHeld
  intro hHeld
  clear h S0
  refine onlD 4 (fun K hK => ?_)
  go_simp
  refine (X2.out _ S1.out).mono ?_
  rintro e w2 ⟨rfl, h⟩
  have S2 := Lib.hid (S1.out.step h)
  go_wp2_with fail
  refine hK.out _ _ (S2.out.q.k) ?_
  clear hK K hHeld
  intro hHeld
  clear h S1
  refine onlD 6 (fun K hK => ?_)
  go_simp
  refine (X3.out _).mono ?_
  rintro e w3 ⟨rfl, h⟩
  have S3 := Lib.hid (S2.out.step h)
  go_wp2_with fail
  refine hK.out _ _ (S3.out.q.k) ?_
  clear hK K hHeld
  intro hHeld
  clear h S2
  refine tkC 7 69 (fun W _ => XR.out W) hHeld ?_
  (try simp only [putA, putB, putC, putD])
  refine onlD 9 (fun K hK => ?_)
  go_simp
  refine (X4.out _).mono ?_
  rintro e w4 ⟨rfl, h⟩
  have S4 := Lib.hid (S3.out.step h)
  go_wp2_with fail
  refine hK.out _ _ (S4.out.q.k) ?_
  clear hK K hHeld
  intro hHeld
  clear h S3
  refine onlD 10 (fun K hK => ?_)
  go_simp
  have O4 := Lib.hid (S4.out.o.below ((Below.refl _ _).alloc (Nat.le_refl _) (.cells #[.int .i64 e1, .int .i64 e2, .int .i64 e3, .int .i64 e4] 39)))
  have sz := S4.out.q.k.lt
  refine hK.out _ _ ((S4.out.step ((Below.refl _ _).alloc (Nat.le_refl _) (.cells #[.int .i64 e1, .int .i64 e2, .int .i64 e3, .int .i64 e4] 39))).q.k) ?_
  clear hK K hHeld
  intro hHeld
  refine wpAnyH_onlyD 11 (by kernel_rfl) (fun o ho K hK => ?_) (by kernel_rfl)
  simp only [List.getElem?_toArray, List.getElem?_cons_succ, List.getElem?_cons_zero, Option.some.injEq] at ho
  subst ho
  refine step_oz (by rfl) (.tmp 62) (.tmp 72) 52 52 (by rfl) 39 _ (.int .i64 0) Try.underlying52 rfl rfl rfl rfl (by decide) (O4.out) (by rfl) _ 4 [.int .i64 e1, .int .i64 e2, .int .i64 e3, .int .i64 e4] (by rfl) (src_new Try.underlying52 _ [.int .i64 e1, .int .i64 e2, .int .i64 e3, .int .i64 e4] 39 4 rfl (one_ints .i64 [e1, e2, e3, e4])) (by rw [eiV_len, LL.out]; omega) (by simp; omega) ?_
  intro v' w5 o1 g1 p1
  have S5 := Lib.hid (show RcS w w5 B c v' (L ++ [e1, e2, e3, e4]) from by
    have Bl := O4.out.up g1 (by simp; omega)
    have S3 := S4.out.step ((Below.refl _ _).alloc (Nat.le_refl _) (.cells #[.int .i64 e1, .int .i64 e2, .int .i64 e3, .int .i64 e4] 39))
    exact ⟨S3.q.stepB Bl (by omega) (by omega), by rw [eiV_add]; exact o1⟩)
  refine hK.out _ _ S5.out.q.k ?_
  clear hK K hHeld o1 g1 p1 O4 S4
  intro hHeld
  refine tkD 12 4 (v := ?_) ?_ hHeld ?_
  rotate_left 1
  (intro W hSw; (try dsimp only at hSw); go_simp; try with_reducible rfl)
  (try simp only [putA, putB, putC, putD])
  refine wpAnyH_done (by kernel_rfl) ?_ _
  clear hHeld
  go_wp2_with fail
  exact A0.out _ _ (rc_end c B w w5 _ v' S5.out (by rw [List.length_append, LL.out]; rfl) HE.out _ _ _ _ _ _ _ _ _ _ _ _ _ _ _ _ _ _ _ _ _ _ _ _ _ _ _ _ _ _ _ _ _ _ _ _ _ _ _ _ _ _ _ _ _ _ _ _ _ _ _ _ _ _ _ _ _ _ _ _ _ _ _ _ _ _ _ _ _ _ _ _ _ _ _ _ _ _ _ _ _ _ _ _ _)
set_option maxRecDepth 100000 in
set_option maxHeartbeats 8000000 in
/-- tables and tyre -/
theorem rc_eight (c : Cr) (B : Nat) (w W : World) (L : List Int) (v : Value) (hB : B ≤ w.heap.size) (few : fewC c) (S : RcS w W B c v L) (LL : L.length = 6) (HE : (L ++ [dotsN c.d.n c.d.x c.d.y (-140737488355328) 140737488355328 true, tyreN c.t, dotsN c.q.n c.q.x c.q.y (-17592186044416) 17592186044416 false, dotsN c.r.n c.r.x c.r.y 0 140737488355328 false]) ++ [rCEngineN c, rCGearsN c, rngC (rCRestB c), rCEaseN c] = errC c) (c5 c6 c7 c8 c9 c10 c11 c12 c13 c14 c15 c16 c17 c18 c19 c20 c21 c22 c23 c24 c25 c26 c27 c28 c29 c30 c31 c32 c33 c34 c35 c36 c37 c38 c39 c40 c41 c42 c43 c44 c45 c46 c47 c48 c49 c50 c51 c52 c53 c54 c55 c56 c57 c58 c59 c60 c61 c62 c63 c64 c65 c66 c67 c68 c69 c70 c71 c72 c73 c74 c75 c76 c77 c78 c79 c80 c81 c82 c83 c84 c85 c86 c87 c88 c89 : Value) :
    Code.wp Try.prog (rcT 8) (bodyPost Try.prog Try.f8 fun e w' => e = .returned (.tuple #[.int .i64 (rgtC c).1, .int .i64 (rgtC c).2]) ∧ Below w.heap.size w w') ⟨#[.agg (carL c).toArray, .pointer (some ⟨w.heap.size, 0, none⟩), .int .i64 0, .int .i64 0, v, c5, c6, c7, c8, c9, c10, c11, c12, c13, c14, c15, c16, c17, c18, c19, c20, c21, c22, c23, c24, c25, c26, c27, c28, c29, c30, c31, c32, c33, c34, c35, c36, c37, c38, c39, c40, c41, c42, c43, c44, c45, c46, c47, c48, c49, c50, c51, c52, c53, c54, c55, c56, c57, c58, c59, c60, c61, c62, c63, c64, c65, c66, c67, c68, c69, c70, c71, c72, c73, c74, c75, c76, c77, c78, c79, c80, c81, c82, c83, c84, c85, c86, c87, c88, c89], []⟩ W := by
  have S0 := Lib.hid S.drew
  have LL := Lib.hid LL
  have X1 := Lib.hid (fun (W : World) (S : RcS w W B c v L) => rCDots_any c.d.a c.d.n c.d.c c.d.x c.d.y (-140737488355328) 140737488355328 true W (by have := few.1; omega) (S.q.M.d.dots S.q.bz))
  have X2 := Lib.hid (fun (W : World) (S : RcS w W B c v L) => rCTyre_any c.t B W S.q.bz few.2.2.2.2 S.q.M.t)
  have X3 := Lib.hid (fun (W : World) (S : RcS w W B c v L) => rCDots_any c.q.a c.q.n c.q.c c.q.x c.q.y (-17592186044416) 17592186044416 false W (by have := few.2.1; omega) (S.q.M.q.dots S.q.bz))
  have X4 := Lib.hid (fun (W : World) (S : RcS w W B c v L) => rCDots_any c.r.a c.r.n c.r.c c.r.x c.r.y 0 140737488355328 false W (by have := few.2.2.1; omega) (S.q.M.r.dots S.q.bz))
  generalize dotsN c.d.n c.d.x c.d.y (-140737488355328) 140737488355328 true = e1 at *
  generalize tyreN c.t = e2 at *
  generalize dotsN c.q.n c.q.x c.q.y (-17592186044416) 17592186044416 false = e3 at *
  generalize dotsN c.r.n c.r.x c.r.y 0 140737488355328 false = e4 at *
  have HE := Lib.hid HE
  have HB := Lib.hid hB
  clear S hB few
  conv => arg 2; whnf
  go_wp2_with fail
  rename_i K0 a0
  have A0 := Lib.hid a0
  clear a0
  refine wp_region_held_drew (S := slS w.heap.size c) (by kernel_rfl) S0.out.q.k.slS (fun hHeld => ?_)
  generalize World.drew _ = w0 at *
  unfold slS at *
  refine tkD 0 42 (v := ?_) ?_ hHeld ?_
  rotate_left 1
  (intro W hSw; (try dsimp only at hSw); go_simp; try with_reducible rfl)
  (try simp only [putA, putB, putC, putD])
  refine tkD 1 43 (v := ?_) ?_ hHeld ?_
  rotate_left 1
  (intro W hSw; (try dsimp only at hSw); go_simp; try with_reducible rfl)
  (try simp only [putA, putB, putC, putD])
  refine tkD 2 44 (v := ?_) ?_ hHeld ?_
  rotate_left 1
  (intro W hSw; (try dsimp only at hSw); go_simp; try with_reducible rfl)
  (try simp only [putA, putB, putC, putD])
  refine tkD 6 48 (v := ?_) ?_ hHeld ?_
  rotate_left 1
  (intro W hSw; (try dsimp only at hSw); go_simp; try with_reducible rfl)
  (try simp only [putA, putB, putC, putD])
  refine tkD 7 49 (v := ?_) ?_ hHeld ?_
  rotate_left 1
  (intro W hSw; (try dsimp only at hSw); go_simp; try with_reducible rfl)
  (try simp only [putA, putB, putC, putD])
  refine tkD 9 51 (v := ?_) ?_ hHeld ?_
  rotate_left 1
  (intro W hSw; (try dsimp only at hSw); go_simp; try with_reducible rfl)
  (try simp only [putA, putB, putC, putD])
  refine tkD 10 52 (v := ?_) ?_ hHeld ?_
  rotate_left 1
  (intro W hSw; (try dsimp only at hSw); go_simp; try with_reducible rfl)
  (try simp only [putA, putB, putC, putD])
  refine tkD 14 56 (v := ?_) ?_ hHeld ?_
  rotate_left 1
  (intro W hSw; (try dsimp only at hSw); go_simp; try with_reducible rfl)
  (try simp only [putA, putB, putC, putD])
  refine tkD 15 57 (v := ?_) ?_ hHeld ?_
  rotate_left 1
  (intro W hSw; (try dsimp only at hSw); go_simp; try with_reducible rfl)
  (try simp only [putA, putB, putC, putD])
  refine tkC 3 45 (fun W _ => rCWhole_any (-32768) (-140737488355328) (by decide +kernel) W) hHeld ?_
  (try simp only [putA, putB, putC, putD])
  refine tkC 4 46 (fun W _ => rCWhole_any 32768 140737488355328 (by decide +kernel) W) hHeld ?_
  (try simp only [putA, putB, putC, putD])
  refine onlD 5 (fun K hK => ?_)
  go_simp
  refine (X1.out _ S0.out).mono ?_
  rintro e w1 ⟨rfl, h⟩
  have S1 := Lib.hid (S0.out.step h)
  go_wp2_with fail
  refine hK.out _ _ (S1.out.q.k.slS) ?_
  clear hK K hHeld
  intro hHeld
  clear h S0
  refine onlD 8 (fun K hK => ?_)
  go_simp
  refine (X2.out _ S1.out).mono ?_
  rintro e w2 ⟨rfl, h⟩
  have S2 := Lib.hid (S1.out.step h)
  go_wp2_with fail
  refine hK.out _ _ (S2.out.q.k.slS) ?_
  clear hK K hHeld
  intro hHeld
  clear h S1
  refine tkC 11 53 (fun W _ => rCWhole_any (-4096) (-17592186044416) (by decide +kernel) W) hHeld ?_
  (try simp only [putA, putB, putC, putD])
  refine tkC 12 54 (fun W _ => rCWhole_any 4096 17592186044416 (by decide +kernel) W) hHeld ?_
  (try simp only [putA, putB, putC, putD])
  refine onlD 13 (fun K hK => ?_)
  go_simp
  refine (X3.out _ S2.out).mono ?_
  rintro e w3 ⟨rfl, h⟩
  have S3 := Lib.hid (S2.out.step h)
  go_wp2_with fail
  refine hK.out _ _ (S3.out.q.k.slS) ?_
  clear hK K hHeld
  intro hHeld
  clear h S2
  refine tkC 16 58 (fun W _ => rCWhole_any 32768 140737488355328 (by decide +kernel) W) hHeld ?_
  (try simp only [putA, putB, putC, putD])
  refine onlD 17 (fun K hK => ?_)
  go_simp
  refine (X4.out _ S3.out).mono ?_
  rintro e w4 ⟨rfl, h⟩
  have S4 := Lib.hid (S3.out.step h)
  go_wp2_with fail
  refine hK.out _ _ (S4.out.q.k.slS) ?_
  clear hK K hHeld
  intro hHeld
  clear h S3
  refine onlD 18 (fun K hK => ?_)
  go_simp
  have O4 := Lib.hid (S4.out.o.below ((Below.refl _ _).alloc (Nat.le_refl _) (.cells #[.int .i64 e1, .int .i64 e2, .int .i64 e3, .int .i64 e4] 39)))
  have sz := S4.out.q.k.lt
  refine hK.out _ _ ((S4.out.step ((Below.refl _ _).alloc (Nat.le_refl _) (.cells #[.int .i64 e1, .int .i64 e2, .int .i64 e3, .int .i64 e4] 39))).q.k.slS) ?_
  clear hK K hHeld
  intro hHeld
  refine wpAnyH_onlyD 19 (by kernel_rfl) (fun o ho K hK => ?_) (by kernel_rfl)
  simp only [List.getElem?_toArray, List.getElem?_cons_succ, List.getElem?_cons_zero, Option.some.injEq] at ho
  subst ho
  refine step_oz (by rfl) (.tmp 42) (.tmp 60) 52 52 (by rfl) 39 _ (.int .i64 0) Try.underlying52 rfl rfl rfl rfl (by decide) (O4.out) (by rfl) _ 4 [.int .i64 e1, .int .i64 e2, .int .i64 e3, .int .i64 e4] (by rfl) (src_new Try.underlying52 _ [.int .i64 e1, .int .i64 e2, .int .i64 e3, .int .i64 e4] 39 4 rfl (one_ints .i64 [e1, e2, e3, e4])) (by rw [eiV_len, LL.out]; omega) (by simp; omega) ?_
  intro v' w5 o1 g1 p1
  have S5 := Lib.hid (show RcS w w5 B c v' (L ++ [e1, e2, e3, e4]) from by
    have Bl := O4.out.up g1 (by simp; omega)
    have S3 := S4.out.step ((Below.refl _ _).alloc (Nat.le_refl _) (.cells #[.int .i64 e1, .int .i64 e2, .int .i64 e3, .int .i64 e4] 39))
    exact ⟨S3.q.stepB Bl (by omega) (by omega), by rw [eiV_add]; exact o1⟩)
  refine hK.out _ _ S5.out.q.k.slS ?_
  clear hK K hHeld o1 g1 p1 O4 S4
  intro hHeld
  refine tkD 20 4 (v := ?_) ?_ hHeld ?_
  rotate_left 1
  (intro W hSw; (try dsimp only at hSw); go_simp; try with_reducible rfl)
  (try simp only [putA, putB, putC, putD])
  refine wpAnyH_done (by kernel_rfl) ?_ _
  clear hHeld
  go_wp2_with fail
  exact A0.out _ _ (rc_nine c B w w5 _ v' HB.out S5.out (by rw [List.length_append, LL.out]; rfl) HE.out _ _ _ _ _ _ _ _ _ _ _ _ _ _ _ _ _ _ _ _ _ _ _ _ _ _ _ _ _ _ _ _ _ _ _ _ _ _ _ _ _ _ _ _ _ _ _ _ _ _ _ _ _ _ _ _ _ _ _ _ _ _ _ _ _ _ _ _ _ _ _ _ _ _ _ _ _ _ _ _ _ _ _ _ _)
end Go.Proofs.Ytbpmbdnhfkfkhaa

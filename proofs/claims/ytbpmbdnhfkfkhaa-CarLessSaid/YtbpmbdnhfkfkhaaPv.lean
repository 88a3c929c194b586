/- Contracts of the program's pane: Min, Max, Grow, Concat, Bounds. -/
import Derived.Test.YtbpmbdnhfkfkhaaPu
import Derived.Test.YtbpmbdnhfkfkhaaBt
import Derived.Lib.AppendZerosOnto
namespace Go.Proofs.Ytbpmbdnhfkfkhaa
open Go.RowKit
set_option linter.unusedVariables false
set_option linter.unusedSimpArgs false

def rowI (s : Sl) : List Int := (List.range s.n).map s.v
def catI (r : Nat → Sl) : Nat → List Int
  | 0 => []
  | i + 1 => catI r i ++ rowI (r i)
def lenI (r : Nat → Sl) : Nat → Nat
  | 0 => 0
  | i + 1 => lenI r i + (r i).n
theorem rowI_len (s : Sl) : (rowI s).length = s.n := by simp [rowI]
theorem catI_len (r : Nat → Sl) : ∀ n, (catI r n).length = lenI r n
  | 0 => rfl
  | n + 1 => by show (catI r n ++ rowI (r n)).length = _; rw [List.length_append, catI_len r n, rowI_len]; rfl
theorem lenI_le (r : Nat → Sl) : ∀ n, (∀ i, i < n → (r i).n ≤ 40) → lenI r n ≤ n * 40
  | 0, _ => Nat.le_refl _
  | n + 1, h => by
    have := lenI_le r n (fun i hi => h i (by omega))
    have := h n (by omega)
    show lenI r n + (r n).n ≤ _
    omega
theorem lenI_pos (r : Nat → Sl) : ∀ n, 0 < n → 0 < (r 0).n → 0 < lenI r n
  | 0, h, _ => absurd h (by omega)
  | n + 1, _, h => by
    show 0 < lenI r n + (r n).n
    rcases Nat.eq_zero_or_pos n with e | e
    · subst e; omega
    · have := lenI_pos r n e h; omega
theorem lenI_mono (r : Nat → Sl) : ∀ n j, j ≤ n → lenI r j ≤ lenI r n
  | 0, j, h => by rw [show j = 0 by omega]; exact Nat.le_refl _
  | n + 1, j, h => by
    rcases Nat.lt_or_ge j (n + 1) with l | l
    · have := lenI_mono r n j (by omega)
      show _ ≤ lenI r n + (r n).n
      omega
    · rw [show j = n + 1 by omega]; exact Nat.le_refl _
theorem minV_fold (v : Nat → Int) (a : Int) : ∀ n, minV v a n = ((List.range n).map v).foldl min a
  | 0 => rfl
  | n + 1 => by rw [List.range_succ, List.map_append, List.foldl_append, ← minV_fold v a n]; rfl
theorem maxV_fold (v : Nat → Int) (a : Int) : ∀ n, maxV v a n = ((List.range n).map v).foldl max a
  | 0 => rfl
  | n + 1 => by rw [List.range_succ, List.map_append, List.foldl_append, ← maxV_fold v a n]; rfl
theorem minR_fold (r : Nat → Sl) (a : Int) : ∀ n, minR r a n = (catI r n).foldl min a
  | 0 => rfl
  | n + 1 => by show minV _ _ _ = (catI r n ++ rowI (r n)).foldl min a; rw [List.foldl_append, ← minR_fold r a n, minV_fold]; rfl
theorem maxR_fold (r : Nat → Sl) (a : Int) : ∀ n, maxR r a n = (catI r n).foldl max a
  | 0 => rfl
  | n + 1 => by show maxV _ _ _ = (catI r n ++ rowI (r n)).foldl max a; rw [List.foldl_append, ← maxR_fold r a n, maxV_fold]; rfl
theorem range_get (zs : List Int) : (List.range zs.length).map (fun k => zs.getD k 0) = zs := by
  apply List.ext_getElem
  · simp
  · intro i h1 h2
    simp [h2]
theorem catI_head (r : Nat → Sl) : ∀ n, 0 < n → 0 < (r 0).n → (catI r n).getD 0 0 = (r 0).v 0
  | 0, h, _ => absurd h (by omega)
  | 1, _, h => by
    show (([] : List Int) ++ rowI (r 0)).getD 0 0 = _
    rw [List.nil_append]
    unfold rowI
    simp [h]
  | n + 2, _, h => by
    have hl : 0 < (catI r (n + 1)).length := by rw [catI_len]; exact lenI_pos r _ (by omega) h
    have := catI_head r (n + 1) (by omega) h
    show (catI r (n + 1) ++ rowI (r (n + 1))).getD 0 0 = _
    rw [← this, List.getD_eq_getElem?_getD, List.getD_eq_getElem?_getD, List.getElem?_append_left hl]
/-- the least of all rows' values -/
theorem min_cat (r : Nat → Sl) (n : Nat) (h : 0 < n) (h0 : 0 < (r 0).n) : minV (fun k => (catI r n).getD k 0) ((catI r n).getD 0 0) (catI r n).length = minR r ((r 0).v 0) n := by
  rw [minV_fold, range_get, minR_fold, catI_head r n h h0]
theorem max_cat (r : Nat → Sl) (n : Nat) (h : 0 < n) (h0 : 0 < (r 0).n) : maxV (fun k => (catI r n).getD k 0) ((catI r n).getD 0 0) (catI r n).length = maxR r ((r 0).v 0) n := by
  rw [maxV_fold, range_get, maxR_fold, catI_head r n h h0]
theorem catI_wf {r : Nat → Sl} : ∀ n, (∀ i, i < n → ∀ k, k < (r i).n → (Lit.int .i64 ((r i).v k)).wf = true) → ∀ z ∈ catI r n, (Lit.int .i64 z).wf = true
  | 0, _, z, hz => by cases hz
  | n + 1, h, z, hz => by
    rcases List.mem_append.1 (show z ∈ catI r n ++ rowI (r n) from hz) with c | c
    · exact catI_wf n (fun i hi => h i (by omega)) z c
    · unfold rowI at c
      obtain ⟨k, hk, rfl⟩ := List.mem_map.1 c
      exact h n (by omega) k (List.mem_range.1 hk)
/-- a list of the call's own reads as numbers -/
theorem ob_nums {base : Nat} {W : World} {v : Value} {zs : List Int} (h : OB base W v (zs.map (Value.int .i64))) (wf : ∀ z ∈ zs, (Lit.int .i64 z).wf = true) :
    ∃ a c, v = .slice a zs.length c ∧ Nums W.heap.size W ⟨a, zs.length, c, fun k => zs.getD k 0⟩ := by
  have W0 : ∀ i, i < zs.length → (Lit.int .i64 (zs.getD i 0)).wf = true := fun i hi => by
    rw [List.getD_eq_getElem?_getD, List.getElem?_eq_getElem hi]; exact wf _ (List.getElem_mem hi)
  rcases h with ⟨rfl, h0⟩ | ⟨g, cap, rfl, hb, hg, hl, hm, hc, hf, hx⟩
  · have : zs = [] := by simpa using h0
    subst this
    exact ⟨none, 0, rfl, by show 0 ≤ maxLen; unfold maxLen; omega, Nat.le_refl _, W0, fun h => absurd h (by show ¬ 0 < 0; omega)⟩
  · rw [List.length_map] at hl ⊢
    refine ⟨_, cap, rfl, hm, hl, W0, fun _ => ⟨g, 0, rfl, hg, fun i hi => ?_⟩⟩
    have hi' : i < zs.length := hi
    rw [Nat.zero_add]
    have := hx i (.int .i64 (zs.getD i 0)) (by rw [List.getElem?_map, List.getD_eq_getElem?_getD, List.getElem?_eq_getElem hi']; rfl)
    exact this
set_option maxHeartbeats 2000000 in
theorem pMin_any (a : Option Addr) (n c : Nat) (v : Nat → Int) (B : Nat) (w : World) (hB : B ≤ w.heap.size) (h0 : 0 < n) (hmax : n ≤ 4000) (N : Nums B w ⟨a, n, c, v⟩) :
    Calls Try.prog 60 #[.slice a n c] w fun e w' => e = .returned (.int .i64 (minV v (v 0) n)) ∧ w' = w := by
  obtain ⟨b, off, ha, hb, hcell⟩ := N.at' (by show 0 < n; omega)
  dsimp only at ha hcell
  subst ha
  have HC := Lib.hid hcell
  have c0 := hcell 0 h0
  rw [Nat.add_zero] at c0
  have z0 : ¬ (n : Int) < 1 := by omega
  have z1 : (0 : Int) < (n : Int) := by omega
  have ST := Lib.hid (show v 0 = minV v (v 0) 1 by show v 0 = min (v 0) (v 0); omega)
  clear hcell N
  go_enter Try.func60, Try.ntmps60
  go_wp2
  go_loopw [3, 4] (fun u i wr => ∃ j : Nat, 0 < j ∧ j ≤ n ∧ i = .int .i64 j ∧ u = .int .i64 (minV v (v 0) j) ∧ wr = w) (fun _ i _ => n - (intOf i).toNat)
  case atStart => exact ⟨1, by omega, by omega, rfl, by rw [← ST.out], rfl⟩
  case round =>
    obtain ⟨j, hj0, hj, rfl, rfl, rfl⟩ := hrel
    clear ST
    by_cases hlt : j < n
    · have c1 := HC.out j hlt
      have E := Lib.hid (show minV v (v 0) (j + 1) = min (minV v (v 0) j) (v j) from rfl)
      clear c0
      go_wp2
      go_roundw
      case rel => exact ⟨j + 1, by omega, by omega, by go_num, by rw [E.out] <;> (try (congr 1; (repeat' split) <;> omega)), trivial⟩
      case measure => simp [intOf]; omega
    · have e : j = n := by omega
      subst e
      go_wp2
      go_ret
      exact ⟨rfl, rfl⟩
set_option maxHeartbeats 2000000 in
theorem pMax_any (a : Option Addr) (n c : Nat) (v : Nat → Int) (B : Nat) (w : World) (hB : B ≤ w.heap.size) (h0 : 0 < n) (hmax : n ≤ 4000) (N : Nums B w ⟨a, n, c, v⟩) :
    Calls Try.prog 61 #[.slice a n c] w fun e w' => e = .returned (.int .i64 (maxV v (v 0) n)) ∧ w' = w := by
  obtain ⟨b, off, ha, hb, hcell⟩ := N.at' (by show 0 < n; omega)
  dsimp only at ha hcell
  subst ha
  have HC := Lib.hid hcell
  have c0 := hcell 0 h0
  rw [Nat.add_zero] at c0
  have z0 : ¬ (n : Int) < 1 := by omega
  have z1 : (0 : Int) < (n : Int) := by omega
  have ST := Lib.hid (show v 0 = maxV v (v 0) 1 by show v 0 = max (v 0) (v 0); omega)
  clear hcell N
  go_enter Try.func61, Try.ntmps61
  go_wp2
  go_loopw [3, 4] (fun u i wr => ∃ j : Nat, 0 < j ∧ j ≤ n ∧ i = .int .i64 j ∧ u = .int .i64 (maxV v (v 0) j) ∧ wr = w) (fun _ i _ => n - (intOf i).toNat)
  case atStart => exact ⟨1, by omega, by omega, rfl, by rw [← ST.out], rfl⟩
  case round =>
    obtain ⟨j, hj0, hj, rfl, rfl, rfl⟩ := hrel
    clear ST
    by_cases hlt : j < n
    · have c1 := HC.out j hlt
      have E := Lib.hid (show maxV v (v 0) (j + 1) = max (maxV v (v 0) j) (v j) from rfl)
      clear c0
      go_wp2
      go_roundw
      case rel => exact ⟨j + 1, by omega, by omega, by go_num, by rw [E.out] <;> (try (congr 1; (repeat' split) <;> omega)), trivial⟩
      case measure => simp [intOf]; omega
    · have e : j = n := by omega
      subst e
      go_wp2
      go_ret
      exact ⟨rfl, rfl⟩
/-- append at an operation of a plain region, by its run -/
theorem wpList_appRun {P : Program} {ops : Array Oper} {rest : List Oper} {o : Oper} {a : Act} {Q : Exit → Act → World → Prop} {w : World} (hgd : o.guard = none) (s x : Operand) (t tx : TypeId)
    (ho : o.op = .call { callee := .builtin .append, args := #[s, x], argTypes := #[t, tx] }) {v xv v' : Value} {w' : World} (hv : a.eval s = v) (hx : a.eval x = xv) (hrun : (Builtin.append_ #[t, tx] o.type #[v, xv]).run P w = .ok v' w')
    (hK : wpList P ops Q rest (a.put o.dst v') w') : wpList P ops Q (o :: rest) a w := by
  refine wpList_plain hgd fun K hK' => ?_
  unfold Oper.wp
  simp [execOp, ho, resolve, invoke, builtin, hv, hx, hrun, Result.andThen]
  exact hK' _ _ hK
theorem fxInfoP : (Try.prog.info? 22).map (fun i => (i.zero, i.size, i.bytes)) = some (some (.int .i64 0), 1, 8) := by kernel_rfl
set_option maxRecDepth 100000 in
set_option maxHeartbeats 2000000 in
theorem pGrow_any (n : Nat) (w : World) (h0 : 0 < n) (hmax : n ≤ 4000) :
    Calls Try.prog 79 #[.slice none 0 0, .int .i64 n] w fun e w' => (∃ v, e = .returned v ∧ OB w.heap.size w' v []) ∧ Below w.heap.size w w' := by
  obtain ⟨i0, hi, hz0, hz1, hz2⟩ := info_parts fxInfoP
  have hr := Lib.run_append_grow_zeros (P := Try.prog) w 30 3 30 22 i0 (.int .i64 0) .i64 .i64 Try.underlying30 Try.underlying3 hi hz0 none 0 0 [] (run_firstCells_none w.drew i0.size 0 0 0) n h0 (by omega) (by omega) (by omega) (by rw [hz2]; omega) (growslice_fits (by omega) (by rw [hz2]; omega))
  have G0 := grownCap_ge w (0 + n) 0 22
  have G1 := grownCap_le_maxLen w (0 + n) 0 22 (by unfold maxLen; omega)
  generalize grownCap w (0 + n) 0 22 = G at *
  rw [Nat.zero_add] at hr G0
  have HO : OB w.heap.size (w.drew.alloc (.cells (#[] ++ Builtin.zeroCells (Value.int IntKind.i64 0).cells n ++ Builtin.zeroCells (Value.int IntKind.i64 0).cells (G - n)) 22)) (.slice (some ⟨w.heap.size, 0, none⟩) 0 G) [] := by
    have hs : (#[] ++ Builtin.zeroCells (Value.int IntKind.i64 0).cells n ++ Builtin.zeroCells (Value.int IntKind.i64 0).cells (G - n)).size = G := by
      have e : (Value.int IntKind.i64 0).cells.size = 1 := rfl
      simp only [Array.size_append, size_zeroCells, e]
      simp; omega
    have := OB.new (base := w.heap.size) w.drew [] (#[] ++ Builtin.zeroCells (Value.int IntKind.i64 0).cells n ++ Builtin.zeroCells (Value.int IntKind.i64 0).cells (G - n)).toList (#[] ++ Builtin.zeroCells (Value.int IntKind.i64 0).cells n ++ Builtin.zeroCells (Value.int IntKind.i64 0).cells (G - n)) 22 rfl (Nat.le_refl _) (by rw [hs]; exact G1)
    rw [hs] at this
    exact this
  have HB : Below w.heap.size w (w.drew.alloc (.cells (#[] ++ Builtin.zeroCells (Value.int IntKind.i64 0).cells n ++ Builtin.zeroCells (Value.int IntKind.i64 0).cells (G - n)) 22)) := ((Below.refl _ w).drew).alloc (Nat.le_refl _) _
  generalize w.drew.alloc (.cells (#[] ++ Builtin.zeroCells (Value.int IntKind.i64 0).cells n ++ Builtin.zeroCells (Value.int IntKind.i64 0).cells (G - n)) 22) = W2 at *
  have O2 := Lib.hid HO
  have B2 := Lib.hid HB
  have z0 : ¬ (n : Int) < 0 := by omega
  have z1 : (0 : Int) < (n : Int) := by omega
  unfold maxLen at G1
  have HR := Lib.hid hr
  clear HO HB hr
  go_enter Try.func79, Try.ntmps79
  go_wp2_with (at_builtin; refine wpList_appRun rfl (.tmp 20) (.tmp 21) 30 3 rfl rfl rfl HR.out ?_)
  go_ret
  exact ⟨⟨_, rfl, O2.out⟩, B2.out⟩
end Go.Proofs.Ytbpmbdnhfkfkhaa

/- The program's fence: New, Bars. -/
import Derived.Test.YtllkhgcokbpggaaVu
import Derived.Test.YtllkhgcokbpggaaVj
import Derived.Test.YtllkhgcokbpggaaB2
import Derived.Test.YtllkhgcokbpggaaBt
namespace Go.Proofs.Ytllkhgcokbpggaa
open Go.RowKit
set_option linter.unusedVariables false
set_option linter.unusedSimpArgs false

/-- a fence of n pieces g: its blocks lie from lo to top -/
structure FnP (lo top : Nat) (W : World) (f n : Nat) (g : Nat → Fv) : Prop where
  ex : ∃ base mb a c lv L Ls ck, FeM base f mb (.slice a n c) (celI g n) Ls W lv L ck ∧ lvM g n Ls ∧ Brs W a n c g ∧ (0 < n → ∀ p, a = some p → lo ≤ p.block ∧ p.block < top) ∧ (∀ q, lv.ownBlock = some q → q < top) ∧ (∀ x ∈ L, ∀ q, x.val.ownBlock = some q → q < top) ∧ lo ≤ mb ∧ base ≤ top
  top : top ≤ W.heap.size
  fv : ∀ i, i < n → FvB (g i)
theorem OB.same {base : Nat} {W W' : World} {v : Value} {xs : List Value} (h : OB base W v xs) (hs : W.heap.size ≤ W'.heap.size) (k : ∀ q, v.ownBlock = some q → W'.heap[q]? = W.heap[q]?) : OB base W' v xs := by
  rcases h with h | ⟨g, cap, rfl, hb, hg, hl, hm, hc, hf, hx⟩
  · exact .inl h
  · have e := k g rfl
    have c : ∀ j, W'.cell? ⟨g, j, none⟩ = W.cell? ⟨g, j, none⟩ := fun j => by unfold World.cell?; dsimp only; rw [e]
    have z : ∀ j, W'.frozen? ⟨g, j, none⟩ = W.frozen? ⟨g, j, none⟩ := fun j => by unfold World.frozen?; dsimp only; rw [e]
    exact .inr ⟨g, cap, rfl, hb, by omega, hl, hm, fun j hj => by rw [c]; exact hc j hj, fun j => by rw [z]; exact hf j, fun j u hj => by rw [c]; exact hx j u hj⟩
theorem FnP.keep {lo top : Nat} {W W' : World} {f n : Nat} {g : Nat → Fv} (F : FnP lo top W f n g) (hs : W.heap.size ≤ W'.heap.size) (hk : ∀ k, lo ≤ k → k < top → W'.heap[k]? = W.heap[k]?) : FnP lo top W' f n g := by
  obtain ⟨base, mb, a, c, lv, L, Ls, ck, F1, H, D, h1, h2, h3, h4, h5⟩ := F.ex
  have hb := F1.b
  refine ⟨⟨base, mb, a, c, lv, L, Ls, ck, ⟨?_, ⟨?_, F1.e.st, fun x hx => ?_, F1.e.f, F1.e.ap⟩, F1.l.same hs (fun q e => hk q (by have := (ob_lt F1.l e).1; omega) (h2 q e)), F1.ap, hb.1, hb.2.1, by omega⟩, H, ⟨D.hm, D.hl, fun h0 => ?_⟩, h1, h2, h3, h4, h5⟩, by have := F.top; omega, F.fv⟩
  · have e := hk f (by omega) (by omega)
    exact ⟨fun i v h => by rw [← F1.c.c i v h]; unfold World.cell?; dsimp only; rw [e], fun j => by rw [← F1.c.f j]; unfold World.frozen?; dsimp only; rw [e], by have := F1.c.lt; omega⟩
  · rw [hk mb (by omega) (by omega)]; exact F1.e.hb
  · obtain ⟨d, a1, a2, a3, o⟩ := F1.e.e x hx
    exact ⟨d, a1, a2, a3, o.same hs (fun q e => hk q (by have := (ob_lt o e).1; omega) (h3 x hx q e))⟩
  · obtain ⟨b, off, e, hb2, hc⟩ := D.at' h0
    have e2 := hk b (by have := (h1 h0 _ e).1; exact this) (by have := (h1 h0 _ e).2; exact this)
    have c : ∀ j, W'.cell? ⟨b, j, none⟩ = W.cell? ⟨b, j, none⟩ := fun j => by unfold World.cell?; dsimp only; rw [e2]
    exact ⟨b, off, e, by omega, fun i hi => ⟨⟨(c _).trans (hc i hi).1.1, (c _).trans (hc i hi).1.2⟩, ⟨(c _).trans (hc i hi).2.1.1, (c _).trans (hc i hi).2.1.2⟩, (c _).trans (hc i hi).2.2⟩⟩
/-- the program's fence, as it stands in memory -/
def fenT : FenT := ⟨FnP, fun h a b => h.keep a b, fun h => h.top⟩
theorem fn_new {lo base f mb n c : Nat} {a : Option Addr} {lv : Value} {L : List MapEntry} {Ls : List Int} {ck : Nat} {W : World} {g : Nat → Fv} (F : FeM base f mb (.slice a n c) (celI g n) Ls W lv L ck) (H : lvM g n Ls) (D : Brs W a n c g) (hq : ∀ p, a = some p → lo ≤ p.block) (hm : lo ≤ mb) (fv : ∀ i, i < n → FvB (g i)) : FnP lo W.heap.size W f n g :=
  ⟨⟨base, mb, a, c, lv, L, Ls, ck, F, H, D, fun h0 p e => ⟨hq p e, by
    obtain ⟨b, off, e2, hb, _⟩ := D.at' h0
    rw [e2] at e; cases e; exact hb⟩, fun q e => (ob_lt F.l e).2, fun x hx q e => by
    obtain ⟨d, _, _, _, o⟩ := F.e.e x hx
    exact (ob_lt o e).2, hm, F.b.2.2⟩, Nat.le_refl _, fv⟩
theorem fe_made (w : World) (bv : Value) (t : TypeId) : FeM (w.heap.size + 2) (w.heap.size + 1) w.heap.size bv (fun _ => []) [] ((w.alloc (.map #[] 0)).alloc (.cells #[bv, .map (some w.heap.size), .slice none 0 0] t)) (.slice none 0 0) [] 0 := by
  have b := (Below.refl (w.alloc (.map #[] 0)).heap.size (w.alloc (.map #[] 0))).alloc (Nat.le_refl _) (.cells #[bv, .map (some w.heap.size), .slice none 0 0] t)
  exact ⟨BW.new _ _ [bv, .map (some w.heap.size), .slice none 0 0] t (by simp), (CeB.made w).below b, OB.nil _ _, fun x hx => absurd hx (by simp), by omega, by omega, by simp⟩
theorem lv_made (g : Nat → Fv) : lvM g 0 [] := ⟨List.nodup_nil, fun l => ⟨fun h => absurd h (by simp), fun ⟨i, h, _⟩ => absurd h (by omega)⟩, Nat.le_refl _⟩
end Go.Proofs.Ytllkhgcokbpggaa
namespace Go.Proofs.Ytllkhgcokbpggaa
open Go.RowKit
set_option linter.unusedVariables false
set_option linter.unusedSimpArgs false

/-- a fence that is being made -/
structure NwS (w W : World) (mb : Nat) (a : Option Addr) (n c : Nat) (g : Nat → Fv) (j : Nat) : Prop where
  f : ∃ Ls lv L ck, FeM (mb + 2) (mb + 1) mb (.slice a n c) (celI g j) Ls W lv L ck ∧ lvM g j Ls
  d : Brs W a n c g
  o : ∀ b off, a = some ⟨b, off, none⟩ → 0 < n → b < mb
  l : Below w.heap.size w W
  m : w.heap.size ≤ mb
theorem NwS.step {w W W' : World} {mb : Nat} {a : Option Addr} {n c : Nat} {g : Nat → Fv} {j : Nat} (S : NwS w W mb a n c g j) (h : Below W.heap.size W W') : NwS w W' mb a n c g j := by
  obtain ⟨Ls, lv, L, ck, F, H⟩ := S.f
  exact ⟨⟨Ls, lv, L, ck, F.below h, H⟩, S.d.step h, S.o, S.l.trans (h.mono S.l.size), S.m⟩
theorem brs_below {W W' : World} {a : Option Addr} {n c mb : Nat} {g : Nat → Fv} (D : Brs W a n c g) (ho : ∀ b off, a = some ⟨b, off, none⟩ → 0 < n → b < mb) (h : Below mb W W') : Brs W' a n c g :=
  ⟨D.hm, D.hl, fun h0 => by
    obtain ⟨b, off, e, hb, hc⟩ := D.at' h0
    have k : ∀ j, W'.cell? ⟨b, j, none⟩ = W.cell? ⟨b, j, none⟩ := fun j => h.cell (p := ⟨b, j, none⟩) (ho b off e h0)
    exact ⟨b, off, e, by have := h.size; omega, fun i hi => ⟨⟨(k _).trans (hc i hi).1.1, (k _).trans (hc i hi).1.2⟩, ⟨(k _).trans (hc i hi).2.1.1, (k _).trans (hc i hi).2.1.2⟩, (k _).trans (hc i hi).2.2⟩⟩⟩
set_option maxRecDepth 100000 in
set_option maxHeartbeats 4000000 in
theorem fNew_any (k : Tk) (B : Nat) (w : World) (hB : B ≤ w.heap.size) (few : fewR k) (nr : nearT k) (K : TkM B w k) : Calls Try.prog 9 #[trkV k.t] w fun e w' => (∃ f, e = .returned (.pointer (some ⟨f, 0, none⟩)) ∧ FnP w.heap.size w'.heap.size w' f (barN k k.t.rn) (barG k)) ∧ Below w.heap.size w w' := by
  have Q0 := Lib.hid (PK.new 34 K hB)
  have XB := Lib.hid (fun (W : World) (Q : PK w W B w.heap.size k) => tkBars2_any k B W Q.bz few Q.t)
  have BD := Lib.hid (fun (i : Nat) (hi : i < barN k k.t.rn) => near_bar nr i hi)
  have BN := Lib.hid (show barN k k.t.rn ≤ 1980 by have := barN_le k (q := 99) (fun i hi => by have := few.2.2.2 i hi; omega) (m := k.t.rn) (Nat.le_refl _); have := few.2.1; omega)
  clear few nr K
  generalize barN k k.t.rn = n at *
  generalize barG k = g at *
  have hmm := @run_makeMap Try.prog
  go_enter Try.func9, Try.ntmps9
  go_wp2_with fail
  refine (XB.out _ Q0.out).mono ?_
  rintro e w2 ⟨a, c, rfl, hD, h, hq⟩
  have Q2 := Lib.hid (Q0.out.step h)
  have HQ := Lib.hid (show ∀ p, a = some p → w.heap.size ≤ p.block from fun p e => by
    have := hq p e
    rw [World.size_alloc] at this
    omega)
  have N0 := Lib.hid (show NwS w ((w2.alloc (.map #[] 0)).alloc (.cells #[.slice a n c, .map (some w2.heap.size), .slice none 0 0] 57)) w2.heap.size a n c g 0 from
    ⟨⟨[], .slice none 0 0, [], 0, fe_made w2 _ _, lv_made g⟩, (hD.step ((Below.refl _ _).alloc (Nat.le_refl _) _)).step ((Below.refl _ _).alloc (Nat.le_refl _) _), fun b off e h0 => by
      obtain ⟨b', off', e', hb, _⟩ := hD.at' h0
      rw [e] at e'; cases e'; exact hb, Q2.out.l.trans (((Below.refl w2.heap.size w2).alloc (Nat.le_refl _) _ |>.alloc (by simp) _).mono Q2.out.l.size), Q2.out.l.size⟩)
  clear Q0 Q2 XB hD h hq hB
  go_wp2_with fail
  refine wp_gen (S := fun W => NwS w W w2.heap.size a n c g 0) N0.out (fun W1 hS => ?_)
  have N1 := Lib.hid hS
  clear hS N0 hmm
  generalize w2.heap.size = mb at *
  go_loopw [16] (fun i wr => ∃ j : Nat, j ≤ n ∧ i = .int .i64 j ∧ NwS w wr mb a n c g j) (fun i _ => n - (intOf i).toNat)
  case atStart => exact ⟨0, by omega, rfl, N1.out⟩
  case round =>
    obtain ⟨j, hj, rfl, hS⟩ := hrel
    have N2 := Lib.hid hS
    clear hS N1
    by_cases hlt : j < n
    · obtain ⟨b, off, rfl, hb, hcell⟩ := N2.out.d.at' (by omega)
      obtain ⟨⟨e0, e1⟩, ⟨e2, e3⟩, e4⟩ := hcell j hlt
      have z0 : (0 : Int) ≤ (j : Int) := by omega
      have z1 : (j : Int) < (n : Int) := by omega
      have VH := Lib.hid (fun W => fHome_any (g j) (BD.out j hlt) W)
      have N3 := Lib.hid (N2.out.step ((Below.refl _ _).alloc (Nat.le_refl _) (.cells #[.int .i64 (g j).ax, .int .i64 (g j).ay, .int .i64 (g j).bx, .int .i64 (g j).by', .int .i64 (g j).r] 54)))
      clear hcell
      go_wp2_with fail
      refine (VH.out _).mono ?_
      rintro e w4 ⟨rfl, h⟩
      have N4 := Lib.hid (N3.out.step h)
      clear h N2 N3 VH e0 e1 e2 e3 e4
      obtain ⟨Ls, lv, L, ck, F, H⟩ := N4.out.f
      have bn := BN.out
      go_wp2_with fail
      refine (fPut_any F H (by omega)).mono ?_
      rintro e w5 ⟨rfl, ⟨Ls', lv', L', ck', F', H'⟩, h⟩
      have N5 := Lib.hid (show NwS w w5 mb (some ⟨b, off, none⟩) n c g (j + 1) from ⟨⟨Ls', lv', L', ck', F', H'⟩, brs_below N4.out.d N4.out.o h, N4.out.o, N4.out.l.trans (h.mono N4.out.m), N4.out.m⟩)
      clear F H F' H' h N4
      go_wp2
      go_roundw
      case rel => exact ⟨j + 1, by omega, by go_num, N5.out⟩
      case measure => simp [intOf]; omega
    · have z1 : ¬ (j : Int) < (n : Int) := by omega
      have e : j = n := by omega
      subst e
      obtain ⟨Ls, lv, L, ck, F, H⟩ := N2.out.f
      go_wp2
      go_ret
      exact ⟨⟨_, rfl, fn_new F H N2.out.d HQ.out N2.out.m BD.out⟩, N2.out.l⟩
end Go.Proofs.Ytllkhgcokbpggaa
namespace Go.Proofs.Ytllkhgcokbpggaa
open Go.RowKit
set_option linter.unusedVariables false
set_option linter.unusedSimpArgs false

theorem fvL_one (g : Nat → Fv) : ∀ n, ∀ u ∈ fvL g n, u.oneCell' = true
  | 0, u, h => absurd h (by simp [fvL])
  | n + 1, u, h => by
    rcases List.mem_append.1 h with h | h
    · exact fvL_one g n u h
    · simp only [List.mem_cons, List.not_mem_nil, or_false] at h
      rcases h with rfl | rfl | rfl | rfl | rfl <;> rfl
theorem five {n j : Nat} (h : j < n * 5) : ∃ i, i < n ∧ (j = i * 5 ∨ j = i * 5 + 1 ∨ j = i * 5 + 2 ∨ j = i * 5 + 3 ∨ j = i * 5 + 4) := ⟨j / 5, by omega, by omega⟩
theorem fvL_cells {g : Nat → Fv} {n : Nat} {P : Nat → Value → Prop} (h : ∀ i, i < n → (P (i * 5) (.int .i64 (g i).ax) ∧ P (i * 5 + 1) (.int .i64 (g i).ay)) ∧ (P (i * 5 + 2) (.int .i64 (g i).bx) ∧ P (i * 5 + 3) (.int .i64 (g i).by')) ∧ P (i * 5 + 4) (.int .i64 (g i).r)) : ∀ j u, (fvL g n)[j]? = some u → P j u := by
  intro j u hu
  have hl := fvL_len g n
  have hj : j < n * 5 := by
    rcases Nat.lt_or_ge j (n * 5) with l | l
    · exact l
    · rw [List.getElem?_eq_none (by omega)] at hu; cases hu
  obtain ⟨i, hi, e⟩ := five hj
  obtain ⟨⟨k0, k1⟩, ⟨k2, k3⟩, k4⟩ := fvL_at g n i hi
  obtain ⟨⟨c0, c1⟩, ⟨c2, c3⟩, c4⟩ := h i hi
  rcases e with rfl | rfl | rfl | rfl | rfl
  · rw [k0] at hu; cases hu; exact c0
  · rw [k1] at hu; cases hu; exact c1
  · rw [k2] at hu; cases hu; exact c2
  · rw [k3] at hu; cases hu; exact c3
  · rw [k4] at hu; cases hu; exact c4
theorem brs_new {w : World} {g : Nat → Fv} {n cap : Nat} (C : Array Value) (rest : List Value) (t : TypeId) (hC : C.toList = fvL g n ++ rest) (hn : n ≤ cap) (hm : cap ≤ maxLen) : Brs (w.alloc (.cells C t)) (some ⟨w.heap.size, 0, none⟩) n cap g := by
  refine ⟨hm, hn, fun h0 => ⟨w.heap.size, 0, rfl, by simp, fun i hi => ?_⟩⟩
  have k : ∀ j u, (fvL g n)[j]? = some u → (w.alloc (.cells C t)).cell? ⟨w.heap.size, 0 + j, none⟩ = some u := fun j u h => by
    rw [Nat.zero_add, World.cell?_alloc_new w C t j, ← Array.getElem?_toList, hC, List.getElem?_append_left (by
      rcases Nat.lt_or_ge j (fvL g n).length with l | l
      · exact l
      · rw [List.getElem?_eq_none l] at h; cases h)]
    exact h
  obtain ⟨⟨k0, k1⟩, ⟨k2, k3⟩, k4⟩ := fvL_at g n i hi
  exact ⟨⟨k _ _ k0, k _ _ k1⟩, ⟨k _ _ k2, k _ _ k3⟩, k _ _ k4⟩
theorem brs_src {P : Program} {tx e' : TypeId} (hk : P.underlying tx = some (.slice e')) {w : World} {a : Option Addr} {n c : Nat} {g : Nat → Fv} (D : Brs w a n c g) (h0 : 0 < n) : Src P 5 tx (.slice a n c) n (fvL g n) w := by
  obtain ⟨b, off, rfl, hb, hc⟩ := D.at' h0
  refine Src.ofSlice _ hk ⟨b, off, none⟩ n c (fvL g n) (fvL_len g n) (fun j u hj => ?_) (fvL_one g n)
  rw [show (⟨b, off, none⟩ : Addr).add j = ⟨b, off + j, none⟩ by unfold Addr.add; split <;> simp_all]
  refine fvL_cells (P := fun j u => w.cell? ⟨b, off + j, none⟩ = some u) (fun i hi => ?_) j u hj
  have := hc i hi
  rw [Nat.add_assoc, Nat.add_assoc, Nat.add_assoc, Nat.add_assoc] at this
  exact this
/-- append of pieces to a list that has no room -/
theorem wpList_bars {P : Program} {ops : Array Oper} {rest : List Oper} {o : Oper} {a : Act} {Q : Exit → Act → World → Prop} {w : World} (hgd : o.guard = none) (s x : Operand) (t tx : TypeId)
    (ho : o.op = .call { callee := .builtin .append, args := #[s, x], argTypes := #[t, tx] })
    (T : TypeId) (i : TypeInfo) (z : Value) (ht : P.underlying t = some (.slice T)) (htx : P.underlying tx = some (.slice T)) (hi : P.info? T = some i) (hz : i.zero = some z)
    (h1 : i.size = 5) (hby : i.bytes ≤ 40) (sb : Nat) (hv : a.eval s = .slice (some ⟨sb, 0, none⟩) 0 0) {v : Option Addr} {n c : Nat} {g : Nat → Fv} (D : Brs w v n c g) (hx : a.eval x = .slice v n c) (h0 : 0 < n) (hn : n ≤ 2000)
    (hK : ∀ v' w', (∃ a c, v' = .slice a n c ∧ Brs w' a n c g) → Below w.heap.size w w' → wpList P ops Q rest (a.put o.dst v') w') : wpList P ops Q (o :: rest) a w := by
  refine wpList_plain hgd fun K hK' => ?_
  have hr := run_append_grow_src (P := P) w t tx o.type T i z ht hi hz (some ⟨sb, 0, none⟩) 0 0 [] (by
    have := run_firstCells_some (P := P) (w := w.drew) i.size 0 ⟨sb, 0, none⟩ 0 0 [] (by simp) (fun j v h => by cases h)
    simpa using this) (.slice v n c) n (fvL g n) (by rw [h1]; exact brs_src htx D h0) (by omega) (by omega) (growslice_fits (by omega) (by have := Nat.mul_le_mul hn hby; rw [Nat.zero_add]; omega))
  have hge := grownCap_ge w (0 + n) 0 T
  have hle := grownCap_le_maxLen w (0 + n) 0 T (by unfold maxLen; omega)
  unfold Oper.wp
  simp [execOp, ho, resolve, invoke, builtin, hv, hx, hr, Result.andThen]
  rw [Nat.zero_add] at hge hle
  refine hK' _ _ (hK _ _ ⟨_, _, rfl, brs_new (w := w.drew) _ (Builtin.zeroCells z.cells (grownCap w n 0 T - n)).toList T (by simp) hge hle⟩ ?_)
  exact (Below.refl w.heap.size w).drew.alloc (Nat.le_refl _) _
set_option maxRecDepth 100000 in
theorem fClone_any {a : Option Addr} {n c : Nat} {g : Nat → Fv} {w : World} (D : Brs w a n c g) (hn : n ≤ 2000) : Calls Try.prog 25 #[.slice a n c] w fun e w' => (∃ a c, e = .returned (.slice a n c) ∧ Brs w' a n c g) ∧ Below w.heap.size w w' := by
  have q22 : ∀ (w : World) (a : Option Addr) (n c n' c' : Nat), (binOp .eql 38 (.slice a n c) (.slice none n' c')).run Try.prog w = .ok (.bool a.isNone) w := fun w a n c n' c' => Lib.run_eql_slice_nil w _ _ a n c n' c' Try.underlying38
  by_cases h0 : 0 < n
  · obtain ⟨b, off, rfl, -, -⟩ := D.at' h0
    have D1 := Lib.hid (D.step ((Below.refl _ _).alloc (Nat.le_refl _) (.cells #[] 54)))
    clear D
    go_enter Try.func25, Try.ntmps25
    go_wp2_with (at_builtin; refine wpList_bars rfl (.tmp 5) (.tmp 6) 38 38 rfl 54 _ (.agg #[.int .i64 0, .int .i64 0, .int .i64 0, .int .i64 0, .int .i64 0]) Try.underlying38 Try.underlying38 rfl rfl rfl (by decide) w.heap.size rfl D1.out rfl h0 hn ?_)
    intro v1 w1 a1 c1 hv1 D2 hb
    subst hv1
    have D3 := Lib.hid D2
    have HB := Lib.hid (((Below.refl w.heap.size w).alloc (Nat.le_refl _) (.cells #[] 54)).trans (hb.mono (by simp)))
    clear D2 hb D1
    go_wp2
    go_ret
    exact ⟨⟨_, _, rfl, D3.out⟩, HB.out⟩
  · have : n = 0 := by omega
    subst this
    have VC : ∀ (W : World) (a : Option Addr) (c : Nat), c ≤ maxLen → Brs W a 0 c g := fun W a c h => ⟨h, Nat.zero_le _, fun h => absurd h (by omega)⟩
    cases a with
    | none =>
      go_enter Try.func25, Try.ntmps25
      go_wp2
      go_ret
      exact ⟨⟨_, _, rfl, VC _ _ _ (by unfold maxLen; omega)⟩, Below.refl _ _⟩
    | some p =>
      go_enter Try.func25, Try.ntmps25
      go_wp2
      go_ret
      exact ⟨⟨_, _, rfl, VC _ _ _ (by unfold maxLen; omega)⟩, by repeat (first | exact Below.refl _ _ | assumption | refine Below.setCell ?_ (by first | omega | (simp; done) | (simp; omega)) _ | refine Below.alloc ?_ (by first | omega | (simp; done) | (simp; omega)) _ | refine below_drewN ?_ _ | refine Below.drew ?_ | refine Below.trans ?_ (Below.mono (by assumption) (by first | omega | (simp; done) | (simp; omega))))⟩
theorem fBars_any (n : Nat) (g : Nat → Fv) (lo top f : Nat) (w : World) (hn : n ≤ 2000) (F : FnP lo top w f n g) : Calls Try.prog 11 #[.pointer (some ⟨f, 0, none⟩)] w fun e w' => (∃ a c, e = .returned (.slice a n c) ∧ Brs w' a n c g) ∧ Below w.heap.size w w' := by
  obtain ⟨base, mb, a, c, lv, L, Ls, ck, F1, H, D, -⟩ := F.ex
  have c0 := F1.c.c 0 _ rfl
  have V := Lib.hid (fClone_any D hn)
  clear F F1 H D
  go_enter Try.func11, Try.ntmps11
  go_wp2_with fail
  refine V.out.mono ?_
  rintro e w1 ⟨⟨a1, c1, rfl, D1⟩, hb⟩
  go_wp2
  go_ret
  exact ⟨⟨_, _, rfl, D1⟩, hb⟩
theorem fBars_nil (w : World) : Calls Try.prog 11 #[.pointer none] w fun e w' => (∃ a c, e = .returned (.slice a 0 c)) ∧ Below w.heap.size w w' := by
  go_enter Try.func11, Try.ntmps11
  go_wp2
  go_ret
  exact ⟨⟨_, _, rfl⟩, Below.refl _ _⟩
end Go.Proofs.Ytllkhgcokbpggaa

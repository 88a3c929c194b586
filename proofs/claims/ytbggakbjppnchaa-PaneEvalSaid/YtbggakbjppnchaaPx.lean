/- The program's pane: both rows next to a position, yielded one after the other. -/
import Derived.Test.YtbggakbjppnchaaPw
import Derived.Test.YtbggakbjppnchaaOn
import Derived.Test.YtbggakbjppnchaaZr
import Derived.RangeFuncBound
import Derived.Shelf.RegionOpen
import Derived.OwnWalkIn
import Derived.TacticsInMore
namespace Go.Proofs.Ytbggakbjppnchaa
open Go.RowKit
set_option linter.unusedVariables false
set_option linter.unusedSimpArgs false
attribute [local go_sem] Oper.semAt_some

theorem eval_two0 (X Y : Nat → Int) (y : Int) : evalN 2 X Y y = if y ≤ X 0 then Y 0 else if X 1 ≤ y then Y 1 else segF (X 0) (X 1) (Y 0) (Y 1) y := by
  have e : cellUp X y (2 - 1) = 0 := by
    show (if X 0 ≤ y then 0 else cellUp X y 0) = 0
    split <;> rfl
  unfold evalN
  rw [if_neg (by omega : ¬ (2 : Nat) = 0), e]
/-- two points next to y tell what all tell -/
theorem eval_two {n : Nat} {X Y : Nat → Int} (R : RightT n X Y) (y : Int) : evalN 2 (fun i => X (cellUp X y (n - 1) + i)) (fun i => Y (cellUp X y (n - 1) + i)) y = evalN n X Y y := by
  obtain ⟨hc, -, h⟩ := eval_cases R y
  generalize cellUp X y (n - 1) = c at *
  rw [eval_two0]
  show (if y ≤ X c then Y c else if X (c + 1) ≤ y then Y (c + 1) else segF (X c) (X (c + 1)) (Y c) (Y (c + 1)) y) = _
  have hl := R.lo
  rcases h with ⟨h0, z, h⟩ | ⟨h0, h1, z, h⟩ | ⟨h0, h1, h2, h3, h⟩
  · subst z; rw [if_pos h0, h]
  · have m := R.mono (show c < c + 1 by omega) hc
    rw [z] at m
    rw [if_neg (by omega), z, if_pos h1, h]
  · rw [h]
    by_cases g : y ≤ X c
    · have e2 : y = X c := by omega
      rw [if_pos g, e2, seg_at (R.x _ (by omega)) (R.x _ hc) (R.y _ (by omega)) (R.y _ hc) (R.mono (by omega) hc)]
    · rw [if_neg g, if_neg (by omega)]
/-- the blocks that an iterator over a pane reads: the pane's, below B, and both boxes; not block b -/
def OnP (b B n0 n : Nat) : Prop := (n < B ∨ n = n0 ∨ n = n0 + 1) ∧ n ≠ b
/-- on these the world is as it was -/
structure KpB (b B n0 : Nat) (W W' : World) : Prop where
  s : W.heap.size ≤ W'.heap.size
  c : ∀ n i : Nat, OnP b B n0 n → W'.cell? ⟨n, i, none⟩ = W.cell? ⟨n, i, none⟩
  f : ∀ n i : Nat, OnP b B n0 n → W'.frozen? ⟨n, i, none⟩ = W.frozen? ⟨n, i, none⟩
theorem KpB.trans {b B n0 : Nat} {A C D : World} (h : KpB b B n0 A C) (k : KpB b B n0 C D) : KpB b B n0 A D :=
  ⟨Nat.le_trans h.s k.s, fun n i hn => (k.c n i hn).trans (h.c n i hn), fun n i hn => (k.f n i hn).trans (h.f n i hn)⟩
theorem KpB.below {b B n0 C : Nat} {W W' : World} (h : Below C W W') (hC : B ≤ C ∧ n0 + 1 < C) : KpB b B n0 W W' :=
  ⟨h.size, fun n i hn => h.cell (p := ⟨n, i, none⟩) (by show n < C; have := hn.1; omega), fun n i hn => h.frozen (p := ⟨n, i, none⟩) (by show n < C; have := hn.1; omega)⟩
theorem KpB.fx {b k B n0 C : Nat} {o : Bool} {W W' : World} (h : FxW C W b k o W') (hC : B ≤ C ∧ n0 + 1 < C) : KpB b B n0 W W' :=
  ⟨h.size, fun n i hn => h.cell (by have := hn.1; omega) (fun e => hn.2 e.symm), fun n i hn => h.frozen (by have := hn.1; omega)⟩
theorem KpB.grown {b B n0 : Nat} {W W' : World} {row : Option Nat} (h : W.grownBy W' row) (hr : ∀ n, row = some n → ¬ OnP b B n0 n) (hC : B ≤ W.heap.size ∧ n0 + 1 < W.heap.size) : KpB b B n0 W W' :=
  ⟨h.size, fun n i hn => h.cell_far ⟨n, i, none⟩ (by show n < W.heap.size; have := hn.1; omega) (fun e => hr n e.symm hn), fun n i hn => h.frozen_far ⟨n, i, none⟩ (by show n < W.heap.size; have := hn.1; omega) (fun e => hr n e.symm hn)⟩
theorem KpB.put {b B n0 : Nat} {W : World} {n i : Nat} (v : Value) (hn : ¬ OnP b B n0 n) : KpB b B n0 W (W.setCell ⟨n, i, none⟩ v) :=
  ⟨by rw [set_size]; exact Nat.le_refl _, fun m j hm => World.cell?_setCell_other _ _ _ _ (fun e => hn (by have := congrArg Addr.block e; dsimp only at this; rw [this]; exact hm)), fun m j hm => World.frozen?_setCell _ _ _ _⟩
theorem BW.kp {b B n0 : Nat} {W W' : World} {n : Nat} {l : List Value} (k : BW W n l) (h : KpB b B n0 W W') (hn : OnP b B n0 n) : BW W' n l :=
  ⟨fun i v e => (h.c n i hn).trans (k.c i v e), fun j => (h.f n j hn).trans (k.f j), by have := h.s; have := k.lt; omega⟩
theorem Nums.kp {b B n0 : Nat} {W W' : World} {s : Sl} (K : Nums B W s) (h : KpB b B n0 W W') (ho : s.off b) : Nums B W' s :=
  ⟨K.hm, K.hl, K.wf, fun h0 => by
    obtain ⟨n, off, e, hb, hc⟩ := K.at' h0
    exact ⟨n, off, e, hb, fun i hi => (h.c n _ ⟨Or.inl hb, fun c => ho h0 _ e c⟩).trans (hc i hi)⟩⟩
theorem Pan.kp {b B n0 : Nat} {W W' : World} {p : Pn} (K : Pan B W p) (h : KpB b B n0 W W') (ho : PanOff p b) : Pan B W' p :=
  ⟨K.x.kp h ho.x, K.y.kp h ho.y, K.hm, K.hl, fun h0 => by
    obtain ⟨n, off, e, hb, hc⟩ := K.at' h0
    exact ⟨n, off, e, hb, fun i hi => (h.c n _ ⟨Or.inl hb, fun c => ho.a h0 _ e c⟩).trans (hc i hi)⟩, fun i hi => (K.r i hi).kp h (ho.r i hi)⟩
theorem pBeside_any (p : Pn) (y : Int) (w : World) :
    Calls Try.prog 28 #[.agg #[.slice p.x.a p.x.n p.x.c, .slice p.y.a p.y.n p.y.c, .slice p.a p.n p.c], .int .i64 y] w fun e w' => e = .returned (.func (.func 39) #[] #[.pointer (some ⟨w.heap.size, 0, none⟩), .pointer (some ⟨w.heap.size + 1, 0, none⟩)]) ∧ w' = (w.alloc (.cells #[.slice p.x.a p.x.n p.x.c, .slice p.y.a p.y.n p.y.c, .slice p.a p.n p.c] 25)).alloc (.cells #[.int .i64 y] 27) := by
  have hmf : ∀ (fn : Fn) (first cap : Array Value) (w : World), (Instr.makeFunc fn first cap).run Try.prog w = .ok (.func fn first cap) w := fun _ _ _ _ => rfl
  go_enter Try.func28, Try.ntmps28
  go_wp2
  go_ret
  exact ⟨rfl, rfl⟩
/-- a pane's copy, a position's copy, and the pane -/
structure BsW (W : World) (n0 B : Nat) (p : Pn) (y : Int) : Prop where
  c : BW W n0 [.slice p.x.a p.x.n p.x.c, .slice p.y.a p.y.n p.y.c, .slice p.a p.n p.c]
  d : BW W (n0 + 1) [.int .i64 y]
  p : Pan B W p
theorem BsW.below {W W' : World} {n0 B C : Nat} {p : Pn} {y : Int} (h : BsW W n0 B p y) (k : Below C W W') (hC : n0 + 1 < C) (hB : B ≤ C) : BsW W' n0 B p y :=
  ⟨h.c.below k (by omega), h.d.below k hC, h.p.keep k hB⟩
theorem BsW.step {W W' : World} {n0 B : Nat} {p : Pn} {y : Int} (h : BsW W n0 B p y) (k : Below W.heap.size W W') (hB : B ≤ n0) : BsW W' n0 B p y :=
  h.below k h.d.lt (by have := h.d.lt; omega)
theorem BsW.kp {b : Nat} {W W' : World} {n0 B : Nat} {p : Pn} {y : Int} (h : BsW W n0 B p y) (k : KpB b B n0 W W') (hB : B ≤ n0) (hb : b < n0) (ho : PanOff p b) : BsW W' n0 B p y :=
  ⟨h.c.kp k ⟨Or.inr (Or.inl rfl), by omega⟩, h.d.kp k ⟨Or.inr (Or.inr rfl), by omega⟩, h.p.kp k ho⟩
/-- what both closures' boxes hold -/
def BsS (n0 : Nat) (sy sx sr : Value) (y : Int) (W : World) : Prop :=
  (W.cell? ⟨n0, 0, none⟩ = some sx ∧ W.cell? ⟨n0, 1, none⟩ = some sy ∧ W.cell? ⟨n0, 2, none⟩ = some sr) ∧ W.cell? ⟨n0 + 1, 0, none⟩ = some (.int .i64 y)
theorem BsS.of {n0 : Nat} {sy sx sr : Value} {y : Int} {W : World} (h : BW W n0 [sx, sy, sr]) (k : BW W (n0 + 1) [.int .i64 y]) : BsS n0 sy sx sr y W := ⟨h.h3, k.c 0 _ rfl⟩
theorem BsS.drew {n0 : Nat} {sy sx sr : Value} {y : Int} {W : World} (h : BsS n0 sy sx sr y W) : BsS n0 sy sx sr y W.drew := h
def encB (p : Pn) (c : Nat) (k : Nat) (x : Option Addr × Nat) : Array Value := #[.int .i64 (p.y.v (c + k)), .slice x.1 p.x.n x.2]
def preB (p : Pn) (b c : Nat) (k : Nat) (x : Option Addr × Nat) (W : World) : Prop := Dots W x.1 p.x.n x.2 p.x.v (p.r (c + k)).v ∧ ∀ q, x.1 = some q → b < q.block
set_option maxRecDepth 100000 in
set_option maxHeartbeats 8000000 in
theorem pBeside1_seq (p : Pn) (y : Int) (b n0 B : Nat) (w0 : World) (hp : paneR p = 0) (F : fewP p) (hy : In64 y) (ho : PanOff p b) (hB : B ≤ n0) (hb : b < n0) (K : BsW w0 n0 B p y) :
    SeqP Try.prog 39 #[.pointer (some ⟨n0, 0, none⟩), .pointer (some ⟨n0 + 1, 0, none⟩)] (encB p (cellUp p.y.v y (p.y.n - 1))) (preB p b (cellUp p.y.v y (p.y.n - 1))) (KpB b B n0) 2 w0 := by
  intro l J W hW hJ hY h0
  have R := col_right hp 0
  have hc := (eval_cases R y).1
  obtain ⟨⟨s1, s2⟩, -⟩ := paneR_ok hp
  have K0 := Lib.hid (K.below hW K.d.lt (by have := K.d.lt; omega))
  have J0 := Lib.hid h0
  have HJ := Lib.hid hJ
  have HY := Lib.hid hY
  have XP := Lib.hid (fun (W : World) (Q : BsW W n0 B p y) => pPlaces_any p.y B W (by have := Q.d.lt; omega) (by omega) Q.p.y)
  have XC := Lib.hid (fun (g : Nat) (W : World) (D : Dots W (some ⟨g, 0, none⟩) p.y.n p.y.n p.y.v (fun _ => 0)) => tCell_any (some ⟨g, 0, none⟩) p.y.n p.y.n p.y.v (fun _ => 0) y W (by omega) hy D)
  have XR := Lib.hid (fun (j : Nat) (hj : j < p.n) (W : World) (Q : BsW W n0 B p y) => by
    have := pRow_new p (j : Int) B W (by have := Q.d.lt; omega) F Q.p (by unfold In64; omega)
    rw [show rowM p (j : Int) = p.x.n by unfold rowM rowN; rw [if_pos (by omega), if_pos (by omega)]; show min p.x.n (p.r j).n = _; rw [s2 j hj]; omega, show (j : Int).toNat = j from rfl] at this
    exact this)
  obtain ⟨i0, hi0⟩ : ∃ i0, cellUp p.y.v y (p.y.n - 1) = i0 := ⟨_, rfl⟩
  rw [hi0] at XC HY hc
  have e0 : i0 + 1 < p.n := by omega
  have bn := F.2.2.1
  have HB := Lib.hid (show b < n0 ∧ B ≤ n0 from ⟨hb, hB⟩)
  have HO := Lib.hid ho
  have L0 := Lib.hid K0.out.d.lt
  clear K hW hJ hY h0 hp F hy ho hB hb R hi0 s2
  obtain ⟨⟨xa, xn, xc, xv⟩, ⟨ya, yn, yc, yv⟩, a, n, c, r⟩ := p
  dsimp only at *
  obtain ⟨s3, s4, s5, s6, rfl⟩ := s1
  have S0 := Lib.hid (BsS.of K0.out.c K0.out.d)
  go_enter Try.func39, Try.ntmps39
  go_wp2_with fail
  refine wp_region_held_drew (S := BsS n0 (.slice ya n yc) (.slice xa xn xc) (.slice a n c) y) (by kernel_rfl) S0.out.drew (fun hHeld => ?_)
  have K1 := Lib.hid (K0.out.below (Below.refl W.heap.size W).drew L0.out (by have := L0.out; have := HB.out; omega))
  have J1 := Lib.hid (HJ.out 0 _ _ J0.out (Below.refl W.heap.size W).drew)
  clear K0 J0 S0
  generalize W.drew = w1 at *
  unfold BsS at hHeld ⊢
  refine wpAnyH_takeD 0 6 (v := ?_) (by kernel_rfl) (by kernel_rfl) (by kernel_rfl) (by kernel_rfl) (by rfl) (fun _ _ _ h => h) ?_ hHeld ?_
  rotate_left 1
  (intro o ho W hSw; simp only [List.getElem?_toArray, List.getElem?_cons_succ, List.getElem?_cons_zero, Option.some.injEq] at ho; subst ho; (try dsimp only at hSw); go_simp; try with_reducible rfl)
  (try simp only [Act.put, List.setIfInBounds_toArray, List.set_cons_zero, List.set_cons_succ])
  refine wpAnyH_takeD 1 7 (v := ?_) (by kernel_rfl) (by kernel_rfl) (by kernel_rfl) (by kernel_rfl) (by rfl) (fun _ _ _ h => h) ?_ hHeld ?_
  rotate_left 1
  (intro o ho W hSw; simp only [List.getElem?_toArray, List.getElem?_cons_succ, List.getElem?_cons_zero, Option.some.injEq] at ho; subst ho; (try dsimp only at hSw); go_simp; try with_reducible rfl)
  (try simp only [Act.put, List.setIfInBounds_toArray, List.set_cons_zero, List.set_cons_succ])
  refine wpAnyH_takeD 3 9 (v := ?_) (by kernel_rfl) (by kernel_rfl) (by kernel_rfl) (by kernel_rfl) (by rfl) (fun _ _ _ h => h) ?_ hHeld ?_
  rotate_left 1
  (intro o ho W hSw; simp only [List.getElem?_toArray, List.getElem?_cons_succ, List.getElem?_cons_zero, Option.some.injEq] at ho; subst ho; (try dsimp only at hSw); go_simp; try with_reducible rfl)
  (try simp only [Act.put, List.setIfInBounds_toArray, List.set_cons_zero, List.set_cons_succ])
  refine wpAnyH_onlyD 2 (by kernel_rfl) (fun o ho K hK => ?_) (by kernel_rfl)
  simp only [List.getElem?_toArray, List.getElem?_cons_succ, List.getElem?_cons_zero, Option.some.injEq] at ho
  subst ho
  go_simp
  refine (XP.out _ K1.out).mono ?_
  rintro e w2 ⟨rfl, D2, h⟩
  have K2 := Lib.hid (K1.out.step h HB.out.2)
  have J2 := Lib.hid (HJ.out 0 _ _ J1.out h)
  have E2 := Lib.hid D2
  go_wp2_with fail
  refine hK.out _ _ (BsS.of K2.out.c K2.out.d) ?_
  clear hK K hHeld
  intro hHeld
  clear h K1 J1 D2
  refine wpAnyH_onlyD 4 (by kernel_rfl) (fun o ho K hK => ?_) (by kernel_rfl)
  simp only [List.getElem?_toArray, List.getElem?_cons_succ, List.getElem?_cons_zero, Option.some.injEq] at ho
  subst ho
  go_simp
  refine (XC.out _ _ E2.out).mono ?_
  rintro e w3 ⟨rfl, h⟩
  have K3 := Lib.hid (K2.out.step h HB.out.2)
  have J3 := Lib.hid (HJ.out 0 _ _ J2.out h)
  go_wp2_with fail
  refine hK.out _ _ (BsS.of K3.out.c K3.out.d) ?_
  clear hK K hHeld
  intro hHeld
  clear h K2 J2 E2 XC XP
  refine wpAnyH_takeD 5 4 (v := ?_) (by kernel_rfl) (by kernel_rfl) (by kernel_rfl) (by kernel_rfl) (by rfl) (fun _ _ _ h => h) ?_ hHeld ?_
  rotate_left 1
  (intro o ho W hSw; simp only [List.getElem?_toArray, List.getElem?_cons_succ, List.getElem?_cons_zero, Option.some.injEq] at ho; subst ho; (try dsimp only at hSw); go_simp; try with_reducible rfl)
  (try simp only [Act.put, List.setIfInBounds_toArray, List.set_cons_zero, List.set_cons_succ])
  refine wpAnyH_done (by kernel_rfl) ?_ _
  clear hHeld
  go_wp2
  go_loopw [5] (fun i wr => ∃ k j : Nat, k ≤ 2 ∧ Hid (i0 + k = j) ∧ i = .int .i64 j ∧ J k wr ∧ BsW wr n0 B ⟨⟨xa, xn, xc, xv⟩, ⟨ya, n, yc, yv⟩, a, n, c, r⟩ y) (fun i _ => 100 - (intOf i).toNat)
  case atStart => exact ⟨0, i0, by omega, Lib.hid rfl, rfl, J3.out, K3.out⟩
  case round =>
    obtain ⟨k, j, hk, hj, rfl, hJk, hK⟩ := hrel
    have J4 := Lib.hid hJk
    have K4 := Lib.hid hK
    clear hJk hK K3 J3
    have jb : j ≤ 50 := by have := hj.out; omega
    by_cases hlt : k < 2
    · have g1 : (j : Int) ≤ (i0 : Int) + 1 := by have := hj.out; omega
      have hjn : j < n := by have := hj.out; omega
      obtain ⟨by1, oy, hya, hby, hcy⟩ := K4.out.p.y.at' (by show 0 < n; omega)
      dsimp only at hya hcy
      subst hya
      have cy := hcy j hjn
      obtain ⟨c0, c1, c2⟩ := K4.out.c.h3
      dsimp only at c0 c1 c2
      have z0 : (0 : Int) ≤ (j : Int) := by omega
      have z1 : (j : Int) < (n : Int) := by omega
      have hmx : Try.prog.follows .mixedOrders = true := by kernel_rfl
      have L4 := Lib.hid K4.out.d.lt
      clear hcy
      go_wp2_with fail
      refine (wpIn_wide (n := 2)).1 ?_
      gi_region_with_o (first
        | (refine ⟨trivial, ?_⟩; gi_at_call 13; refine (callsIn_wide.2 (XR.out j hjn _ (K4.out.below (Below.refl wr.heap.size wr).drew L4.out (by have := L4.out; have := HB.out; omega)))).mono ?_; rintro e w4 ⟨a1, b1, rfl, D4, h4, n4⟩
           have K5 := Lib.hid ((K4.out.below (Below.refl wr.heap.size wr).drew L4.out (by have := L4.out; have := HB.out; omega)).step h4 HB.out.2)
           obtain ⟨fn, ts, asg, bd, hyy, hRR⟩ := HY.out k (a1, b1) w4 hlt (HJ.out k _ _ (HJ.out k _ _ J4.out (Below.refl _ _).drew) h4) ⟨by rw [hj.out]; exact D4, fun q hq => by have := n4 q hq; have := L4.out; have := HB.out; have : wr.drew.heap.size = wr.heap.size := rfl; omega⟩
           have HR2 := Lib.hid hRR
           obtain ⟨d0, d1, d2⟩ := K5.out.c.h3
           dsimp only at d0 d1 d2
           have dy : w4.cell? ⟨by1, oy + j, none⟩ = some (.int .i64 (yv j)) := (h4.cell (p := ⟨by1, oy + j, none⟩) (by show by1 < wr.heap.size; have := L4.out; have := HB.out; omega)).trans cy
           unfold encB at hyy
           dsimp only at hyy
           rw [hj.out] at hyy
           clear hRR D4 n4 h4)
        | (refine HR2.out.mono ?_; rintro e w5 ⟨rfl, hJ5, hK5⟩))
      all_goals
        have K6 := Lib.hid (K5.out.kp hK5 HB.out.2 HB.out.1 HO.out)
        have J6 := Lib.hid hJ5
        clear hyy HR2 d0 d1 d2 dy c0 c1 c2 cy K5 K4 J4 hJ5 hK5
        go_wp2
        go_roundw
        case rel => exact ⟨k + 1, j + 1, by omega, Lib.hid (by have := hj.out; omega), by go_num, J6.out, K6.out⟩
        case measure => simp [intOf]; omega
    · have g1 : ¬ (j : Int) ≤ (i0 : Int) + 1 := by have := hj.out; omega
      have e : k = 2 := by omega
      subst e
      go_wp2
      go_end0
      exact ⟨⟨_, rfl⟩, J4.out⟩
end Go.Proofs.Ytbggakbjppnchaa

/- Contracts of the document's spline: Near of any list, Right, one. -/
import Derived.Test.YtllkhgcokbpggaaBm
import Derived.Test.YtllkhgcokbpggaaBi
import Derived.Test.YtllkhgcokbpggaaBp
import Derived.Test.YtllkhgcokbpggaaBy
import Derived.Test.YtllkhgcokbpggaaBk
namespace Go.Proofs.Ytllkhgcokbpggaa
open Go.RowKit
set_option linter.unusedVariables false
set_option linter.unusedSimpArgs false

theorem all_next' {P : Nat → Prop} {j : Nat} (h : ∀ k, k < j → P k) (p : P j) : ∀ k, k < j + 1 → P k := fun k hk => by
  rcases Nat.lt_or_ge k j with l | l
  · exact h k l
  · have e : k = j := by omega
    subst e; exact p
set_option maxHeartbeats 4000000 in
theorem rNearL_any (a : Option Addr) (n c : Nat) (X Y : Nat → Int) (w : World) (hmax : n ≤ 1000) (D : Dots w a n c X Y) :
    Calls Try.prog 30 #[.slice a n c] w fun e w' => e = .returned (.bool (decide (nearN n X Y))) ∧ w' = w := by
  have HD := Lib.hid D
  obtain ⟨N, hN⟩ : ∃ N, decide (nearN n X Y) = N := ⟨_, rfl⟩
  rw [hN]
  have HN := Lib.hid hN
  clear D hN
  go_enter Try.func30, Try.ntmps30
  go_wp2
  go_loopw [3] (fun i wr => ∃ j : Nat, j ≤ n ∧ i = .int .i64 j ∧ Hid (∀ k, k < j → Rg (X k) ∧ Rg (Y k)) ∧ wr = w) (fun i _ => n - (intOf i).toNat)
  case atStart => exact ⟨0, by omega, rfl, Lib.hid (fun k h => absurd h (by omega)), rfl⟩
  case round =>
    obtain ⟨j, hj, rfl, I, rfl⟩ := hrel
    by_cases hlt : j < n
    · obtain ⟨b, off, ha, hb, hcell⟩ := HD.out.at' (by omega)
      subst ha
      obtain ⟨c0, c1⟩ := hcell j hlt
      have z0 : (0 : Int) ≤ (j : Int) := by omega
      have z1 : (j : Int) < (n : Int) := by omega
      clear hcell hb
      by_cases q1 : 281474976710656 < X j
      · skip
        have E := Lib.hid (show false = N by rw [← HN.out]; symm; rw [decide_eq_false_iff_not]; intro k; have := k j hlt; unfold Rg at this; omega)
        clear I
        go_wp2
        go_ret
        exact ⟨by rw [← E.out]; rfl, rfl⟩
      · by_cases q2 : X j < -281474976710656
        · skip
          have E := Lib.hid (show false = N by rw [← HN.out]; symm; rw [decide_eq_false_iff_not]; intro k; have := k j hlt; unfold Rg at this; omega)
          clear I
          go_wp2
          go_ret
          exact ⟨by rw [← E.out]; rfl, rfl⟩
        · by_cases q3 : 281474976710656 < Y j
          · skip
            have E := Lib.hid (show false = N by rw [← HN.out]; symm; rw [decide_eq_false_iff_not]; intro k; have := k j hlt; unfold Rg at this; omega)
            clear I
            go_wp2
            go_ret
            exact ⟨by rw [← E.out]; rfl, rfl⟩
          · by_cases q4 : Y j < -281474976710656
            · skip
              have E := Lib.hid (show false = N by rw [← HN.out]; symm; rw [decide_eq_false_iff_not]; intro k; have := k j hlt; unfold Rg at this; omega)
              clear I
              go_wp2
              go_ret
              exact ⟨by rw [← E.out]; rfl, rfl⟩
            · have I2 := Lib.hid (all_next' (P := fun k => Rg (X k) ∧ Rg (Y k)) I.out (by unfold Rg; omega))
              clear I
              go_wp2
              go_roundw
              case rel => exact ⟨j + 1, by omega, by go_num, I2, trivial⟩
              case measure => simp [intOf]; omega
    · have E := Lib.hid (show true = N by rw [← HN.out]; symm; rw [decide_eq_true_iff]; intro k hk; exact I.out k (by omega))
      clear I
      go_wp2
      go_ret
      exact ⟨by rw [← E.out]; rfl, rfl⟩
theorem wrap_in {n : Int} (h : In64 n) : IntKind.i64.wrap n = n ∧ wrap64 n = n := by
  unfold In64 at h
  exact ⟨IntWalk.i64_in _ (by omega), by unfold wrap64; omega⟩
end Go.Proofs.Ytllkhgcokbpggaa
namespace Go.Proofs.Ytllkhgcokbpggaa
open Go.RowKit
set_option linter.unusedVariables false
set_option linter.unusedSimpArgs false

theorem tmod_k {i : Int} {n : Nat} (h : 0 < n) : (Int.tmod (Int.tmod i n + n) n) = i % (n : Int) ∧ -(n : Int) ≤ Int.tmod i n ∧ Int.tmod i n < n := by
  have e0 := Int.emod_nonneg i (show (n : Int) ≠ 0 by omega)
  have e1 := Int.emod_lt_of_pos i (show (0 : Int) < n by omega)
  have hr : Int.tmod i n = i % n ∨ Int.tmod i n = i % n - n := by
    rw [Int.tmod_eq_emod]
    split
    · left; omega
    · right; rfl
  generalize hE : i % (n : Int) = e at *
  rcases hr with r | r
  · rw [r, Int.tmod_eq_emod_of_nonneg (by omega)]
    refine ⟨?_, by omega, by omega⟩
    rw [Int.add_emod_right]
    exact Int.emod_eq_of_lt e0 e1
  · rw [r, show e - (n : Int) + n = e by omega, Int.tmod_eq_emod_of_nonneg e0]
    refine ⟨Int.emod_eq_of_lt e0 e1, ?_, ?_⟩
    · clear hE; omega
    · clear hE; omega
theorem tmod_nat (m n : Nat) : Int.tmod (m : Int) (n : Int) = ((m % n : Nat) : Int) := by
  rw [Int.tmod_eq_emod_of_nonneg (by omega)]; rfl
theorem kOf_cast {n : Nat} (h : 0 < n) (i : Int) : i % (n : Int) = ((kOf n i : Nat) : Int) := by
  unfold kOf
  have := Int.emod_nonneg i (show (n : Int) ≠ 0 by omega)
  exact (Int.toNat_of_nonneg this).symm
theorem back_tmod {k n : Nat} (h : 0 < n) : Int.tmod ((k : Int) + (n : Int) - 1) (n : Int) = (((k + n - 1) % n : Nat) : Int) := by
  rw [← tmod_nat, show ((k + n - 1 : Nat) : Int) = (k : Int) + (n : Int) - 1 by omega]
theorem on_tmod {k n : Nat} (d : Nat) : Int.tmod ((k : Int) + (d : Int)) (n : Int) = (((k + d) % n : Nat) : Int) := by
  rw [← tmod_nat]; rfl
theorem wr_sum {r : Int} {n : Nat} (h1 : -(n : Int) ≤ r) (h2 : r < n) (h : n ≤ 64) : IntKind.i64.wrap (r + (n : Int)) = r + n ∧ wrap64 (r + (n : Int)) = r + n := wrap_in (by unfold In64; omega)
theorem wr_k {k n : Nat} (h1 : k < n) (h : n ≤ 64) : (IntKind.i64.wrap ((k : Int) + (n : Int)) = k + n ∧ wrap64 ((k : Int) + (n : Int)) = k + n) ∧ (IntKind.i64.wrap ((k : Int) + (n : Int) - 1) = k + n - 1 ∧ wrap64 ((k : Int) + (n : Int) - 1) = k + n - 1) ∧
    (IntKind.i64.wrap ((k : Int) + 1) = k + 1 ∧ wrap64 ((k : Int) + 1) = k + 1) ∧ (IntKind.i64.wrap ((k : Int) + 2) = k + 2 ∧ wrap64 ((k : Int) + 2) = k + 2) :=
  ⟨wrap_in (by unfold In64; omega), wrap_in (by unfold In64; omega), wrap_in (by unfold In64; omega), wrap_in (by unfold In64; omega)⟩
/-- what is reckoned of a piece's number -/
structure AtN (i : Int) (n kk k0 k2 k3 : Nat) (r : Int) : Prop where
  hr : Int.tmod i (n : Int) = r
  t1 : Int.tmod (r + (n : Int)) (n : Int) = (kk : Int)
  e0 : Int.tmod ((kk : Int) + (n : Int) - 1) (n : Int) = (k0 : Int)
  e2 : Int.tmod ((kk : Int) + 1) (n : Int) = (k2 : Int)
  e3 : Int.tmod ((kk : Int) + 2) (n : Int) = (k3 : Int)
  b : k0 < n ∧ kk < n ∧ k2 < n ∧ k3 < n
  ws : IntKind.i64.wrap (r + (n : Int)) = r + n ∧ wrap64 (r + (n : Int)) = r + n
  wk : (IntKind.i64.wrap ((kk : Int) + (n : Int)) = kk + n ∧ wrap64 ((kk : Int) + (n : Int)) = kk + n) ∧ (IntKind.i64.wrap ((kk : Int) + (n : Int) - 1) = kk + n - 1 ∧ wrap64 ((kk : Int) + (n : Int) - 1) = kk + n - 1) ∧
    (IntKind.i64.wrap ((kk : Int) + 1) = kk + 1 ∧ wrap64 ((kk : Int) + 1) = kk + 1) ∧ (IntKind.i64.wrap ((kk : Int) + 2) = kk + 2 ∧ wrap64 ((kk : Int) + 2) = kk + 2)
theorem atN {i : Int} {n : Nat} (h0 : 0 < n) (h : n ≤ 64) : AtN i n (kOf n i) ((kOf n i + n - 1) % n) ((kOf n i + 1) % n) ((kOf n i + 2) % n) (Int.tmod i n) :=
  ⟨rfl, (tmod_k h0).1.trans (kOf_cast h0 i), back_tmod h0, on_tmod 1, on_tmod 2, ⟨Nat.mod_lt _ h0, kOf_lt h0 i, Nat.mod_lt _ h0, Nat.mod_lt _ h0⟩, wr_sum (tmod_k h0).2.1 (tmod_k h0).2.2 h, wr_k (kOf_lt h0 i) h⟩
/-- blocks that are kept beside a flag -/
structure StF (w W : World) (b k : Nat) (o : Bool) (L : List (Nat × List Value)) : Prop where
  c : ∀ n l, (n, l) ∈ L → BW W n l
  f : Flag w W b k o
  e : ∀ n l, (n, l) ∈ L → b ≠ n
theorem StF.more {w W W' : World} {b k : Nat} {o : Bool} {L : List (Nat × List Value)} (Q : StF w W b k o L) (h : Below W.heap.size W W') : StF w W' b k o L :=
  ⟨fun n l e => (Q.c n l e).below h (Q.c n l e).lt, Q.f.more h, Q.e⟩
theorem StF.fx {w W W' : World} {b k : Nat} {o q : Bool} {L : List (Nat × List Value)} (Q : StF w W b k o L) (h : FxW W.heap.size W b k q W') : StF w W' b k q L :=
  ⟨fun n l e => (Q.c n l e).fx h (Q.e n l e), Q.f.fx h, Q.e⟩
theorem StF.alloc {w W : World} {b k : Nat} {o : Bool} {L : List (Nat × List Value)} (Q : StF w W b k o L) (ob : Obj) : StF w (W.alloc ob) b k o L := Q.more ((Below.refl _ _).alloc (Nat.le_refl _) ob)
theorem StF.drew {w W : World} {b k : Nat} {o : Bool} {L : List (Nat × List Value)} (Q : StF w W b k o L) : StF w W.drew b k o L := Q.more (Below.refl _ _).drew
theorem StF.nil {w W : World} {b k : Nat} {o : Bool} (f : Flag w W b k o) : StF w W b k o [] := ⟨fun n l e => by simp at e, f, fun n l e => by simp at e⟩
theorem StF.cons {w W : World} {b k : Nat} {o : Bool} {L : List (Nat × List Value)} {n : Nat} {l : List Value} (a : BW W n l) (e : b ≠ n) (Q : StF w W b k o L) : StF w W b k o ((n, l) :: L) :=
  ⟨fun m q h => by
    rcases List.mem_cons.mp h with h | h
    · cases h; exact a
    · exact Q.c m q h, Q.f, fun m q h => by
    rcases List.mem_cons.mp h with h | h
    · cases h; exact e
    · exact Q.e m q h⟩
/-- a new block beside those that are kept -/
theorem StF.push {w W : World} {b k : Nat} {o : Bool} {L : List (Nat × List Value)} (Q : StF w W b k o L) (l : List Value) (t : TypeId) : StF w (W.alloc (.cells l.toArray t)) b k o ((W.heap.size, l) :: L) :=
  StF.cons (BW.new W _ l t rfl) (by have := Q.f.m.lt; omega) (Q.alloc _)
theorem StF.far2 {w W : World} {b k : Nat} {o : Bool} {L : List (Nat × List Value)} (Q : StF w W b k o L) {r : Nat} (h : w.heap.size ≤ r) (hr : ∀ n l, (n, l) ∈ L → r ≠ n) (u0 u1 : Value) : StF w ((W.setCell ⟨r, 0, none⟩ u0).setCell ⟨r, 1, none⟩ u1) b k o L := by
  have B : Below w.heap.size W ((W.setCell ⟨r, 0, none⟩ u0).setCell ⟨r, 1, none⟩ u1) := ((Below.refl w.heap.size W).setCell (p := ⟨r, 0, none⟩) h u0).setCell (p := ⟨r, 1, none⟩) h u1
  exact ⟨fun n l e => ((Q.c n l e).far (hr n l e) 0 u0).far (hr n l e) 1 u1, ⟨Q.f.m.below B Q.f.lt, Q.f.f.then B (Nat.le_refl _), Q.f.lt⟩, Q.e⟩
/-- the four points of a piece, from block m on -/
def PtL (m : Nat) (x0 y0 x1 y1 x2 y2 x3 y3 : Int) : List (Nat × List Value) := [(m + 1 + 1 + 1, [.int .i64 x3, .int .i64 y3]), (m + 1 + 1, [.int .i64 x2, .int .i64 y2]), (m + 1, [.int .i64 x1, .int .i64 y1]), (m, [.int .i64 x0, .int .i64 y0])]
theorem pt_sv {w W : World} {b k m : Nat} {o : Bool} {x0 y0 x1 y1 x2 y2 x3 y3 : Int} (Q : StF w W b k o (PtL m x0 y0 x1 y1 x2 y2 x3 y3)) : (W.cell? ⟨m, 0, none⟩ = some (.int .i64 x0) ∧ W.cell? ⟨m, 1, none⟩ = some (.int .i64 y0)) ∧ (W.cell? ⟨m + 1, 0, none⟩ = some (.int .i64 x1) ∧ W.cell? ⟨m + 1, 1, none⟩ = some (.int .i64 y1)) ∧ (W.cell? ⟨m + 1 + 1, 0, none⟩ = some (.int .i64 x2) ∧ W.cell? ⟨m + 1 + 1, 1, none⟩ = some (.int .i64 y2)) ∧ (W.cell? ⟨m + 1 + 1 + 1, 0, none⟩ = some (.int .i64 x3) ∧ W.cell? ⟨m + 1 + 1 + 1, 1, none⟩ = some (.int .i64 y3)) :=
  ⟨(Q.c _ _ (by unfold PtL; simp)).h2'', (Q.c _ _ (by unfold PtL; simp)).h2'', (Q.c _ _ (by unfold PtL; simp)).h2'', (Q.c _ _ (by unfold PtL; simp)).h2''⟩
end Go.Proofs.Ytllkhgcokbpggaa
namespace Go.Proofs.Ytllkhgcokbpggaa
open Go.RowKit
set_option linter.unusedVariables false
set_option linter.unusedSimpArgs false

theorem v2Info : (Try.prog.info? 24).map (fun i => (i.zero, i.size, i.bytes)) = some (some (.agg #[.int .i64 0, .int .i64 0]), 2, 16) := by kernel_rfl
theorem oneF_in (p0 p1 p2 p3 t : Int) : In64 (oneF p0 p1 p2 p3 t) := mulF_in _ _
theorem samp_at {n : Nat} {X Y : Nat → Int} (h : lineR n X Y = 0) {j k : Nat} (hj : j < n) (hk : k < 8) :
    placeX n X Y (j : Int) ((k : Int) * 536870912) = sampX n X (j * 8 + k) ∧ placeY n X Y (j : Int) ((k : Int) * 536870912) = sampX n Y (j * 8 + k) ∧
    ∀ o, (o || sampO n X Y (j * 8 + k) || placeO n X Y (j : Int) ((k : Int) * 536870912)) = (o || sampO n X Y (j * 8 + k + 1)) := by
  have e1 : (j * 8 + k) / 8 = j := by omega
  have e2 : (j * 8 + k) % 8 = k := by omega
  unfold placeX placeY placeO sampX
  rw [if_pos h, if_pos h, if_pos h, kOf_at hj, e1, e2]
  refine ⟨rfl, rfl, fun o => ?_⟩
  show _ = (o || (sampO n X Y (j * 8 + k) || (atO n X ((j * 8 + k) / 8) ((((j * 8 + k) % 8 : Nat) : Int) * 536870912) || atO n Y ((j * 8 + k) / 8) ((((j * 8 + k) % 8 : Nat) : Int) * 536870912))))
  rw [e1, e2, Bool.or_assoc]
/-- a line that came in, and a list that grows, beside a flag -/
structure SmW (w W : World) (b k : Nat) (o : Bool) (a : Option Addr) (n c : Nat) (X Y : Nat → Int) : Prop where
  d : Dots W a n c X Y
  f : Flag w W b k o
  e : 0 < n → ∀ p, a = some p → p.block ≠ b ∧ p.block < w.heap.size
theorem SmW.fx {w W W' : World} {b k : Nat} {o q : Bool} {a : Option Addr} {n c : Nat} {X Y : Nat → Int} (Q : SmW w W b k o a n c X Y) (h : FxW W.heap.size W b k q W') : SmW w W' b k q a n c X Y :=
  ⟨Q.d.fx h (fun h0 p e => (Q.e h0 p e).1), Q.f.fx h, Q.e⟩
theorem SmW.below {w W W' : World} {C b k : Nat} {o : Bool} {a : Option Addr} {n c : Nat} {X Y : Nat → Int} (Q : SmW w W b k o a n c X Y) (h : Below C W W') (hC : w.heap.size ≤ C) : SmW w W' b k o a n c X Y :=
  ⟨⟨Q.d.hm, Q.d.hl, Q.d.wf, fun h0 => by
    obtain ⟨m, off, e, hm, hc⟩ := Q.d.at' h0
    have hb := (Q.e h0 _ e).2
    have hb' : m < w.heap.size := hb
    exact ⟨m, off, e, by have := h.size; omega, fun i hi => ⟨(h.cell (p := ⟨m, _, none⟩) (by show m < C; omega)).trans (hc i hi).1, (h.cell (p := ⟨m, _, none⟩) (by show m < C; omega)).trans (hc i hi).2⟩⟩⟩,
   ⟨Q.f.m.below h (by have := Q.f.lt; omega), Q.f.f.then h hC, Q.f.lt⟩, Q.e⟩
theorem SmW.more {w W W' : World} {b k : Nat} {o : Bool} {a : Option Addr} {n c : Nat} {X Y : Nat → Int} (Q : SmW w W b k o a n c X Y) (h : Below W.heap.size W W') : SmW w W' b k o a n c X Y := Q.below h Q.f.f.size
end Go.Proofs.Ytllkhgcokbpggaa

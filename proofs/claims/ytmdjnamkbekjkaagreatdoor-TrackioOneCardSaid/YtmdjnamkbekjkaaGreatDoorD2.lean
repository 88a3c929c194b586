/- -/
import Derived.Test.YtmdjnamkbekjkaaGreatDoorD1
import Derived.Deep.QuietTactic
import Derived.BigQuiet
namespace Go.Proofs.YtmdjnamkbekjkaaGreatDoor
open Go.RowKit
set_option linter.unusedVariables false
set_option linter.unusedSimpArgs false
theorem eqKind (a b c d : Int) (o u : Bool) (w : World) : (Op.equalIn 10000 94 (.agg #[.int .i64 a, .int .i64 b, .bool o]) (.agg #[.int .i64 c, .int .i64 d, .bool u])).run Tryz.prog w = .ok (a == c && (b == d && o == u)) w := by
 have u3 := Tryz.underlying22
 have a3 := Tryz.isAgg22
 have z3 := Tryz.sizeOf22
 have u4 := Tryz.underlying4
 have a4 := Tryz.isAgg4
 have z4 := Tryz.sizeOf4
 have hS : Tryz.prog.underlying 94 = some (.struct (Tryz.prog.fieldsOf 94)) := by kernel_rfl
 have hp : Tryz.prog.stoodInHeld 94 = false := by kernel_rfl
 rw [show (10000 : Nat) = 9999 + 1 from rfl, run_equalIn_agg w 9999 94 _ _ hS hp]
 simp only [Program.fieldsOf, Tryz.underlying94]
 go_simp
 by_cases h1 : a = c <;> by_cases h2 : b = d <;> by_cases h3 : o = u <;> simp [h1, h2, h3]
abbrev tdL (p : TAd) (d : TD) : List Value := [.int .i64 d.rate, .int .i64 d.cell, .int .i64 d.cols, .int .i64 d.rows, .int .i64 d.at_.1, .int .i64 d.at_.2, .slice p.H.1 d.H.length p.H.2, .slice p.G.1 d.G.length p.G.2, .slice p.K.1 d.K.length p.K.2, .slice p.L.1 d.L.length p.L.2, .slice p.R.1 d.R.length p.R.2, .slice p.T.1 d.T.length p.T.2, .int .i64 d.s.1, .int .i64 d.s.2, .int .u32 d.head, .int .i64 d.laps]
structure Gr2 (w W : World) (B : Nat) (p q : TAd) (d e : TD) : Prop where
 a : BW W w.heap.size (tdL p d)
 b : BW W (w.heap.size + 1) (tdL q e)
 k : TkM B W (tkA p d)
 m : TkM B W (tkA q e)
 l : Below w.heap.size w W
 z : B ≤ w.heap.size
theorem Gr2.step {w W W' : World} {B : Nat} {p q : TAd} {d e : TD} (S : Gr2 w W B p q d e) (h : Below W.heap.size W W') : Gr2 w W' B p q d e :=
 ⟨S.a.below h S.a.lt, S.b.below h S.b.lt, S.k.keep h (by have := S.z; have := S.l.size; omega), S.m.keep h (by have := S.z; have := S.l.size; omega), S.l.trans (h.mono S.l.size), S.z⟩
instance gdD3 : DecidableEq (List Int × List Int × List (Int × Int × Bool)) := inferInstance
instance gdD4 : DecidableEq ((Int × Int) × List Int × List Int × List (Int × Int × Bool)) := inferInstance
instance gdD6 : DecidableEq (Int × Int × (Int × Int) × List Int × List Int × List (Int × Int × Bool)) := inferInstance
instance gdD8 : DecidableEq (Int × Int × Int × Int × (Int × Int) × List Int × List Int × List (Int × Int × Bool)) := inferInstance
abbrev gpt (d : TD) : Int × Int × Int × Int × (Int × Int) × List Int × List Int × List (Int × Int × Bool) := (d.rate, d.cell, d.cols, d.rows, d.at_, d.H, d.G, d.K)
set_option maxRecDepth 100000 in
set_option maxHeartbeats 8000000 in
theorem r15Grounds_any (p q : TAd) (d e : TD) (B : Nat) (w : World) (hB : B ≤ w.heap.size) (b1 : d.H.length ≤ 100000 ∧ d.G.length ≤ 100000 ∧ d.K.length ≤ 100000) (K : TkM B w (tkA p d)) (M : TkM B w (tkA q e)) :
  Calls Tryz.prog 37 #[.agg (tdL p d).toArray, .agg (tdL q e).toArray] w fun r w' => r = .returned (.bool (decide (gpt d = gpt e))) ∧ Below w.heap.size w w' := by
 have S0 := fun (T : TypeId) => (show Gr2 w ((w.alloc (.cells (tdL p d).toArray T)).alloc (.cells (tdL q e).toArray T)) B p q d e from by
  have b2 : Below w.heap.size w ((w.alloc (.cells (tdL p d).toArray T)).alloc (.cells (tdL q e).toArray T)) := ((Below.refl _ _).alloc (Nat.le_refl _) _).alloc (by simp) _
  exact ⟨(BW.new w _ (tdL p d) _ rfl).alloc _, BW.new _ _ (tdL q e) _ (by simp), K.keep b2 hB, M.keep b2 hB, b2, hB⟩)
 obtain ⟨z, hz⟩ : ∃ z, decide (gpt d = gpt e) = z := ⟨_, rfl⟩
 rw [hz]
 have NF := Lib.hid (fun (h : ¬ gpt d = gpt e) => (show false = z by rw [← hz]; exact (decide_eq_false h).symm))
 have NY := Lib.hid (fun (h : gpt d = gpt e) => (show true = z by rw [← hz]; exact (decide_eq_true h).symm))
 clear hz
 unfold gpt at NF NY
 obtain ⟨r1, c1, o1, w1, ⟨x1, y1⟩, H1, G1, K1, L1, R1, T1, s1, h1, l1⟩ := d
 obtain ⟨r2, c2, o2, w2, ⟨x2, y2⟩, H2, G2, K2, L2, R2, T2, s2, h2, l2⟩ := e
 dsimp only at NF NY b1
 by_cases e1 : r1 = r2
 rotate_left
 ·clear S0
  have E := Lib.hid (NF.out (fun h => e1 (congrArg (fun x => x.1) h)))
  clear NF NY K M
  go_enter Tryz.func37, Tryz.ntmps37
  go_wp2
  go_ret
  exact ⟨by rw [← E.out]; rfl, by repeat (first | with_reducible refine Below.setCell ?_ (by first | omega | (simp; done) | (simp; omega)) _ | with_reducible refine Below.alloc ?_ (by first | omega | (simp; done) | (simp; omega)) _ | with_reducible refine below_drewN ?_ _ | with_reducible refine Below.drew ?_ | with_reducible exact Below.refl _ _ | with_reducible assumption | with_reducible refine Below.trans ?_ (Below.mono (by assumption) (by first | omega | (simp; done) | (simp; omega))))⟩
 subst e1
 by_cases e2 : c1 = c2
 rotate_left
 ·clear S0
  have E := Lib.hid (NF.out (fun h => e2 (congrArg (fun x => x.2.1) h)))
  clear NF NY K M
  go_enter Tryz.func37, Tryz.ntmps37
  go_wp2
  go_ret
  exact ⟨by rw [← E.out]; rfl, by repeat (first | with_reducible refine Below.setCell ?_ (by first | omega | (simp; done) | (simp; omega)) _ | with_reducible refine Below.alloc ?_ (by first | omega | (simp; done) | (simp; omega)) _ | with_reducible refine below_drewN ?_ _ | with_reducible refine Below.drew ?_ | with_reducible exact Below.refl _ _ | with_reducible assumption | with_reducible refine Below.trans ?_ (Below.mono (by assumption) (by first | omega | (simp; done) | (simp; omega))))⟩
 subst e2
 by_cases e3 : o1 = o2
 rotate_left
 ·clear S0
  have E := Lib.hid (NF.out (fun h => e3 (congrArg (fun x => x.2.2.1) h)))
  clear NF NY K M
  go_enter Tryz.func37, Tryz.ntmps37
  go_wp2
  go_ret
  exact ⟨by rw [← E.out]; rfl, by repeat (first | with_reducible refine Below.setCell ?_ (by first | omega | (simp; done) | (simp; omega)) _ | with_reducible refine Below.alloc ?_ (by first | omega | (simp; done) | (simp; omega)) _ | with_reducible refine below_drewN ?_ _ | with_reducible refine Below.drew ?_ | with_reducible exact Below.refl _ _ | with_reducible assumption | with_reducible refine Below.trans ?_ (Below.mono (by assumption) (by first | omega | (simp; done) | (simp; omega))))⟩
 subst e3
 by_cases e4 : w1 = w2
 rotate_left
 ·clear S0
  have E := Lib.hid (NF.out (fun h => e4 (congrArg (fun x => x.2.2.2.1) h)))
  clear NF NY K M
  go_enter Tryz.func37, Tryz.ntmps37
  go_wp2
  go_ret
  exact ⟨by rw [← E.out]; rfl, by repeat (first | with_reducible refine Below.setCell ?_ (by first | omega | (simp; done) | (simp; omega)) _ | with_reducible refine Below.alloc ?_ (by first | omega | (simp; done) | (simp; omega)) _ | with_reducible refine below_drewN ?_ _ | with_reducible refine Below.drew ?_ | with_reducible exact Below.refl _ _ | with_reducible assumption | with_reducible refine Below.trans ?_ (Below.mono (by assumption) (by first | omega | (simp; done) | (simp; omega))))⟩
 subst e4
 obtain ⟨z5, hz5⟩ : ∃ z, (x1 == x2 && y1 == y2) = z := ⟨_, rfl⟩
 have ev : ∀ w : World, (Op.equalIn 10000 24 (.agg #[.int .i64 x1, .int .i64 y1]) (.agg #[.int .i64 x2, .int .i64 y2])).run Tryz.prog w = .ok z5 w := fun w => by rw [eqV2, hz5]
 by_cases e5 : x1 = x2 ∧ y1 = y2
 rotate_left
 ·have hf : z5 = false := by
   rw [← hz5]
   by_cases g : x1 = x2
   ·have : ¬ y1 = y2 := fun k => e5 ⟨g, k⟩
    simp [this]
   ·simp [g]
  subst hf
  clear S0 hz5
  have e5' := Lib.hid e5
  clear e5
  have E := Lib.hid (NF.out (fun h => e5'.out (by have := congrArg (fun x => x.2.2.2.2.1) h; injection this with i1 i2; exact ⟨i1, i2⟩)))
  clear NF NY K M
  go_enter Tryz.func37, Tryz.ntmps37
  go_wp2
  go_ret
  exact ⟨by rw [← E.out]; rfl, by repeat (first | with_reducible refine Below.setCell ?_ (by first | omega | (simp; done) | (simp; omega)) _ | with_reducible refine Below.alloc ?_ (by first | omega | (simp; done) | (simp; omega)) _ | with_reducible refine below_drewN ?_ _ | with_reducible refine Below.drew ?_ | with_reducible exact Below.refl _ _ | with_reducible assumption | with_reducible refine Below.trans ?_ (Below.mono (by assumption) (by first | omega | (simp; done) | (simp; omega))))⟩
 obtain ⟨rfl, rfl⟩ := e5
 have hf : z5 = true := by rw [← hz5]; simp
 subst hf
 clear hz5
 by_cases e6 : H1.length = H2.length
 rotate_left
 ·clear S0
  have g : ¬ (H1.length : Int) = (H2.length : Int) := by omega
  have E := Lib.hid (NF.out (fun h => e6 (congrArg (fun x => x.2.2.2.2.2.1.length) h)))
  clear NF NY K M
  go_enter Tryz.func37, Tryz.ntmps37
  go_wp2
  go_ret
  exact ⟨by rw [← E.out]; rfl, by repeat (first | with_reducible refine Below.setCell ?_ (by first | omega | (simp; done) | (simp; omega)) _ | with_reducible refine Below.alloc ?_ (by first | omega | (simp; done) | (simp; omega)) _ | with_reducible refine below_drewN ?_ _ | with_reducible refine Below.drew ?_ | with_reducible exact Below.refl _ _ | with_reducible assumption | with_reducible refine Below.trans ?_ (Below.mono (by assumption) (by first | omega | (simp; done) | (simp; omega))))⟩
 by_cases e7 : G1.length = G2.length
 rotate_left
 ·clear S0
  have g0 : (H1.length : Int) = (H2.length : Int) := by omega
  have g : ¬ (G1.length : Int) = (G2.length : Int) := by omega
  have E := Lib.hid (NF.out (fun h => e7 (congrArg (fun x => x.2.2.2.2.2.2.1.length) h)))
  clear NF NY K M
  go_enter Tryz.func37, Tryz.ntmps37
  go_wp2
  go_ret
  exact ⟨by rw [← E.out]; rfl, by repeat (first | with_reducible refine Below.setCell ?_ (by first | omega | (simp; done) | (simp; omega)) _ | with_reducible refine Below.alloc ?_ (by first | omega | (simp; done) | (simp; omega)) _ | with_reducible refine below_drewN ?_ _ | with_reducible refine Below.drew ?_ | with_reducible exact Below.refl _ _ | with_reducible assumption | with_reducible refine Below.trans ?_ (Below.mono (by assumption) (by first | omega | (simp; done) | (simp; omega))))⟩
 by_cases e8 : K1.length = K2.length
 rotate_left
 ·clear S0
  have g0 : (H1.length : Int) = (H2.length : Int) := by omega
  have g1 : (G1.length : Int) = (G2.length : Int) := by omega
  have g : ¬ (K1.length : Int) = (K2.length : Int) := by omega
  have E := Lib.hid (NF.out (fun h => e8 (congrArg (fun x => x.2.2.2.2.2.2.2.length) h)))
  clear NF NY K M
  go_enter Tryz.func37, Tryz.ntmps37
  go_wp2
  go_ret
  exact ⟨by rw [← E.out]; rfl, by repeat (first | with_reducible refine Below.setCell ?_ (by first | omega | (simp; done) | (simp; omega)) _ | with_reducible refine Below.alloc ?_ (by first | omega | (simp; done) | (simp; omega)) _ | with_reducible refine below_drewN ?_ _ | with_reducible refine Below.drew ?_ | with_reducible exact Below.refl _ _ | with_reducible assumption | with_reducible refine Below.trans ?_ (Below.mono (by assumption) (by first | omega | (simp; done) | (simp; omega))))⟩
 have S1 := S0 34
 clear S0
 (try dsimp only at S1)
 unfold tdL
 dsimp only
 have Q0 := Lib.hid S1
 have LE := Lib.hid (And.intro e6 (And.intro e7 e8))
 have g6 : (H1.length : Int) = (H2.length : Int) := by omega
 have g7 : (G1.length : Int) = (G2.length : Int) := by omega
 have g8 : (K1.length : Int) = (K2.length : Int) := by omega
 clear S1 e6 e7 e8 K M
 go_enter Tryz.func37, Tryz.ntmps37
 go_wp2
 clear g6 g7 g8
 go_loopw [5] (fun i wr => ∃ j : Nat, j ≤ H1.length ∧ i = .int .i64 j ∧ Hid (∀ k, k < j → H1.getD k 0 = H2.getD k 0) ∧ Gr2 w wr B p q ⟨r1, c1, o1, w1, (x1, y1), H1, G1, K1, L1, R1, T1, s1, h1, l1⟩ ⟨r1, c1, o1, w1, (x1, y1), H2, G2, K2, L2, R2, T2, s2, h2, l2⟩) (fun i _ => H1.length - (intOf i).toNat)
 case atStart => exact ⟨0, by omega, rfl, Lib.hid (fun k h => absurd h (by omega)), Q0.out⟩
 case round =>
  obtain ⟨j, hj, rfl, I, hS⟩ := hrel
  have S1 := Lib.hid hS
  clear hS Q0
  have a6 : World.cell? _ ⟨w.heap.size, 6, none⟩ = some (.slice p.H.1 H1.length p.H.2) := S1.out.a.c 6 _ rfl
  have b6 : World.cell? _ ⟨w.heap.size + 1, 6, none⟩ = some (.slice q.H.1 H2.length q.H.2) := S1.out.b.c 6 _ rfl
  rw [← LE.out.1] at b6
  have bd := b1.1
  by_cases hlt : j < H1.length
  ·obtain ⟨n1, f1, ha, hb1, hc1⟩ := S1.out.k.T.H.at' (by show 0 < H1.length; omega)
   obtain ⟨n2, f2, hb, hb2, hc2⟩ := S1.out.m.T.H.at' (by show 0 < H2.length; have := LE.out.1; omega)
   have ha : p.H.1 = some ⟨n1, f1, none⟩ := ha
   have hb : q.H.1 = some ⟨n2, f2, none⟩ := hb
   have d0 : World.cell? _ ⟨n1, f1 + j, none⟩ = some (.int .i64 (H1.getD j 0)) := hc1 j hlt
   have d1 : World.cell? _ ⟨n2, f2 + j, none⟩ = some (.int .i64 (H2.getD j 0)) := hc2 j (by show j < H2.length; have := LE.out.1; omega)
   rw [ha] at a6
   rw [hb] at b6
   have z0 : (0 : Int) ≤ (j : Int) := by omega
   have z1 : (j : Int) < (H1.length : Int) := by omega
   have NB := Lib.hid (fun (h : ¬ H1.getD j 0 = H2.getD j 0) => NF.out (fun e => h (by rw [show H1 = H2 from congrArg (fun x => x.2.2.2.2.2.1) e])))
   have I2 := Lib.hid (fun (h : H1.getD j 0 = H2.getD j 0) => all_nx (P := fun k => H1.getD k 0 = H2.getD k 0) I.out h)
   clear hc1 hc2 hb1 hb2 I ha hb
   generalize H1.getD j 0 = u at *
   generalize H2.getD j 0 = v at *
   by_cases huv : u = v
   ·have I3 := Lib.hid (I2.out huv)
    subst huv
    clear NB I2
    go_wp2
    go_quiet (fail)
    go_wp2
    go_roundw
    case rel => exact ⟨j + 1, by omega, by go_num, I3, S1.out.step (below_drewN (Below.refl _ _) _)⟩
    case measure => simp [intOf]; omega
   ·have E := Lib.hid (NB.out huv)
    clear NB I2 NY
    go_wp2
    go_quiet (fail)
    go_wp2
    go_ret
    exact ⟨by rw [← E.out]; rfl, below_drewN S1.out.l _⟩
  ·have EH := Lib.hid (get_ext 0 LE.out.1 (fun i hi => I.out i (by omega)))
   have z1 : ¬ (j : Int) < (H1.length : Int) := by omega
   clear I
   go_wp2
   clear a6 b6 z1
   go_loopw [6] (fun i wr => ∃ j : Nat, j ≤ G1.length ∧ i = .int .i64 j ∧ Hid (∀ k, k < j → G1.getD k 0 = G2.getD k 0) ∧ Gr2 w wr B p q ⟨r1, c1, o1, w1, (x1, y1), H1, G1, K1, L1, R1, T1, s1, h1, l1⟩ ⟨r1, c1, o1, w1, (x1, y1), H2, G2, K2, L2, R2, T2, s2, h2, l2⟩) (fun i _ => G1.length - (intOf i).toNat)
   case atStart => exact ⟨0, by omega, rfl, Lib.hid (fun k h => absurd h (by omega)), S1.out⟩
   case round =>
    obtain ⟨j, hj, rfl, I, hS⟩ := hrel
    have S2 := Lib.hid hS
    clear hS S1
    have a6 : World.cell? _ ⟨w.heap.size, 7, none⟩ = some (.slice p.G.1 G1.length p.G.2) := S2.out.a.c 7 _ rfl
    have b6 : World.cell? _ ⟨w.heap.size + 1, 7, none⟩ = some (.slice q.G.1 G2.length q.G.2) := S2.out.b.c 7 _ rfl
    rw [← LE.out.2.1] at b6
    have bd := b1.2.1
    by_cases hlt : j < G1.length
    ·obtain ⟨n1, f1, ha, hb1, hc1⟩ := S2.out.k.T.G.at' (by show 0 < G1.length; omega)
     obtain ⟨n2, f2, hb, hb2, hc2⟩ := S2.out.m.T.G.at' (by show 0 < G2.length; have := LE.out.2.1; omega)
     have ha : p.G.1 = some ⟨n1, f1, none⟩ := ha
     have hb : q.G.1 = some ⟨n2, f2, none⟩ := hb
     have d0 : World.cell? _ ⟨n1, f1 + j, none⟩ = some (.int .i64 (G1.getD j 0)) := hc1 j hlt
     have d1 : World.cell? _ ⟨n2, f2 + j, none⟩ = some (.int .i64 (G2.getD j 0)) := hc2 j (by show j < G2.length; have := LE.out.2.1; omega)
     rw [ha] at a6
     rw [hb] at b6
     have z0 : (0 : Int) ≤ (j : Int) := by omega
     have z1 : (j : Int) < (G1.length : Int) := by omega
     have NB := Lib.hid (fun (h : ¬ G1.getD j 0 = G2.getD j 0) => NF.out (fun e => h (by rw [show G1 = G2 from congrArg (fun x => x.2.2.2.2.2.2.1) e])))
     have I2 := Lib.hid (fun (h : G1.getD j 0 = G2.getD j 0) => all_nx (P := fun k => G1.getD k 0 = G2.getD k 0) I.out h)
     clear hc1 hc2 hb1 hb2 I ha hb
     generalize G1.getD j 0 = u at *
     generalize G2.getD j 0 = v at *
     by_cases huv : u = v
     ·have I3 := Lib.hid (I2.out huv)
      subst huv
      clear NB I2
      go_wp2
      go_quiet (fail)
      go_wp2
      go_roundw
      case rel => exact ⟨j + 1, by omega, by go_num, I3, S2.out.step (below_drewN (Below.refl _ _) _)⟩
      case measure => simp [intOf]; omega
     ·have E := Lib.hid (NB.out huv)
      clear NB I2 NY
      go_wp2
      go_quiet (fail)
      go_wp2
      go_ret
      exact ⟨by rw [← E.out]; rfl, below_drewN S2.out.l _⟩
    ·have EG := Lib.hid (get_ext 0 LE.out.2.1 (fun i hi => I.out i (by omega)))
     have z1 : ¬ (j : Int) < (G1.length : Int) := by omega
     clear I
     go_wp2
     clear a6 b6 z1
     go_loopw [7] (fun i wr => ∃ j : Nat, j ≤ K1.length ∧ i = .int .i64 j ∧ Hid (∀ k, k < j → K1.getD k (0, 0, false) = K2.getD k (0, 0, false)) ∧ Gr2 w wr B p q ⟨r1, c1, o1, w1, (x1, y1), H1, G1, K1, L1, R1, T1, s1, h1, l1⟩ ⟨r1, c1, o1, w1, (x1, y1), H2, G2, K2, L2, R2, T2, s2, h2, l2⟩) (fun i _ => K1.length - (intOf i).toNat)
     case atStart => exact ⟨0, by omega, rfl, Lib.hid (fun k h => absurd h (by omega)), S2.out⟩
     case round =>
      obtain ⟨j, hj, rfl, I, hS⟩ := hrel
      have S3 := Lib.hid hS
      clear hS S2
      have a6 : World.cell? _ ⟨w.heap.size, 8, none⟩ = some (.slice p.K.1 K1.length p.K.2) := S3.out.a.c 8 _ rfl
      have b6 : World.cell? _ ⟨w.heap.size + 1, 8, none⟩ = some (.slice q.K.1 K2.length q.K.2) := S3.out.b.c 8 _ rfl
      rw [← LE.out.2.2] at b6
      have bd := b1.2.2
      by_cases hlt : j < K1.length
      ·obtain ⟨n1, f1, ha, hb1, hc1⟩ := S3.out.k.T.k (by show 0 < K1.length; omega)
       obtain ⟨n2, f2, hb, hb2, hc2⟩ := S3.out.m.T.k (by show 0 < K2.length; have := LE.out.2.2; omega)
       have ha : p.K.1 = some ⟨n1, f1, none⟩ := ha
       have hb : q.K.1 = some ⟨n2, f2, none⟩ := hb
       obtain ⟨t0, t1, t2⟩ := hc1 j hlt
       obtain ⟨t3, t4, t5⟩ := hc2 j (by show j < K2.length; have := LE.out.2.2; omega)
       have d0 : World.cell? _ ⟨n1, f1 + j * 3, none⟩ = some (.int .i64 (K1.getD j (0, 0, false)).1) := t0
       have d1 : World.cell? _ ⟨n1, f1 + j * 3 + 1, none⟩ = some (.int .i64 (K1.getD j (0, 0, false)).2.1) := t1
       have d2 : World.cell? _ ⟨n1, f1 + j * 3 + 2, none⟩ = some (.bool (K1.getD j (0, 0, false)).2.2) := t2
       have d3 : World.cell? _ ⟨n2, f2 + j * 3, none⟩ = some (.int .i64 (K2.getD j (0, 0, false)).1) := t3
       have d4 : World.cell? _ ⟨n2, f2 + j * 3 + 1, none⟩ = some (.int .i64 (K2.getD j (0, 0, false)).2.1) := t4
       have d5 : World.cell? _ ⟨n2, f2 + j * 3 + 2, none⟩ = some (.bool (K2.getD j (0, 0, false)).2.2) := t5
       clear t0 t1 t2 t3 t4 t5
       rw [ha] at a6
       rw [hb] at b6
       have z0 : (0 : Int) ≤ (j : Int) := by omega
       have z1 : (j : Int) < (K1.length : Int) := by omega
       have NB := Lib.hid (fun (h : ¬ K1.getD j (0, 0, false) = K2.getD j (0, 0, false)) => NF.out (fun e => h (by rw [show K1 = K2 from congrArg (fun x => x.2.2.2.2.2.2.2) e])))
       have I2 := Lib.hid (fun (h : K1.getD j (0, 0, false) = K2.getD j (0, 0, false)) => all_nx (P := fun k => K1.getD k (0, 0, false) = K2.getD k (0, 0, false)) I.out h)
       clear hc1 hc2 hb1 hb2 I ha hb
       generalize K1.getD j (0, 0, false) = u at *
       generalize K2.getD j (0, 0, false) = v at *
       obtain ⟨ug, ud, uo⟩ := u
       obtain ⟨vg, vd, vo⟩ := v
       dsimp only at d0 d1 d2 d3 d4 d5
       obtain ⟨zk, hzk⟩ : ∃ z, (ug == vg && (ud == vd && uo == vo)) = z := ⟨_, rfl⟩
       have ek : ∀ w : World, (Op.equalIn 10000 94 (.agg #[.int .i64 ug, .int .i64 ud, .bool uo]) (.agg #[.int .i64 vg, .int .i64 vd, .bool vo])).run Tryz.prog w = .ok zk w := fun w => by rw [eqKind, hzk]
       have HZ := Lib.hid hzk
       clear hzk
       cases zk with
       | true =>
        have I3 := Lib.hid (I2.out (by have := HZ.out; simp at this; rw [this.1, this.2.1, this.2.2]))
        clear NB I2 HZ
        go_wp2
        go_quiet (fail)
        go_wp2
        go_roundw
        case rel => exact ⟨j + 1, by omega, by go_num, I3, S3.out.step (below_drewN (Below.refl _ _) _)⟩
        case measure => simp [intOf]; omega
       | false =>
        have E := Lib.hid (NB.out (fun h => by have := HZ.out; injection h with q1 q2; injection q2 with q2 q3; subst q1 q2 q3; simp at this))
        clear NB I2 HZ NY
        go_wp2
        go_quiet (fail)
        go_wp2
        go_ret
        exact ⟨by rw [← E.out]; rfl, below_drewN S3.out.l _⟩
      ·have EK := Lib.hid (get_ext (0, 0, false) LE.out.2.2 (fun i hi => I.out i (by omega)))
       have z1 : ¬ (j : Int) < (K1.length : Int) := by omega
       clear I
       have E := Lib.hid (NY.out (by rw [EH.out, EG.out, EK.out]))
       clear NF NY
       go_wp2
       go_ret
       exact ⟨by rw [← E.out]; rfl, S3.out.l⟩
theorem eqV2t (n : Nat) (a b c d : Int) (w : World) : (Op.equalIn (n + 1 + 1) 24 (.agg #[.int .i64 a, .int .i64 b]) (.agg #[.int .i64 c, .int .i64 d])).run Tryz.prog w = .ok (a == c && b == d) w := by
 have u3 := Tryz.underlying22
 have a3 := Tryz.isAgg22
 have z3 := Tryz.sizeOf22
 have hS : Tryz.prog.underlying 24 = some (.struct (Tryz.prog.fieldsOf 24)) := by kernel_rfl
 have hp : Tryz.prog.stoodInHeld 24 = false := by kernel_rfl
 rw [run_equalIn_agg w (n + 1) 24 _ _ hS hp]
 simp only [Program.fieldsOf, Tryz.underlying24]
 go_simp
 by_cases h1 : a = c <;> by_cases h2 : b = d <;> simp [h1, h2]
theorem eqGate (a b c d a' b' c' d' : Int) (o u : Bool) (w : World) : (Op.equalIn 10000 59 (.agg #[.int .i64 a, .int .i64 b, .int .i64 c, .int .i64 d, .bool o]) (.agg #[.int .i64 a', .int .i64 b', .int .i64 c', .int .i64 d', .bool u])).run Tryz.prog w = .ok ((a == a' && b == b') && ((c == c' && d == d') && o == u)) w := by
 have ev := fun (a b c d : Int) (w : World) => eqV2t 9997 a b c d w
 have ua := Tryz.underlying24
 have aa := Tryz.isAgg24
 have za := Tryz.sizeOf24
 have u4 := Tryz.underlying4
 have a4 := Tryz.isAgg4
 have z4 := Tryz.sizeOf4
 have hS : Tryz.prog.underlying 59 = some (.struct (Tryz.prog.fieldsOf 59)) := by kernel_rfl
 have hp : Tryz.prog.stoodInHeld 59 = false := by kernel_rfl
 rw [show (10000 : Nat) = 9999 + 1 from rfl, run_equalIn_agg w 9999 59 _ _ hS hp]
 simp only [Program.fieldsOf, Tryz.underlying59]
 go_simp
 by_cases h1 : a = a' <;> by_cases h2 : b = b' <;> by_cases h3 : c = c' <;> by_cases h4 : d = d' <;> by_cases h5 : o = u <;> simp [h1, h2, h3, h4, h5]
def tdP (d e : TD) : Prop := gpt d = gpt e ∧ d.L = e.L ∧ d.R = e.R ∧ d.T = e.T ∧ d.s = e.s ∧ d.head = e.head ∧ d.laps = e.laps
instance (d e : TD) : Decidable (tdP d e) := by unfold tdP; exact inferInstance
theorem tdP_iff (d e : TD) : tdP d e ↔ d = e := by
 constructor
 ·intro ⟨h, h1, h2, h3, h4, h5, h6⟩
  obtain ⟨r1, c1, o1, w1, p1, H1, G1, K1, L1, R1, T1, s1, a1, l1⟩ := d
  obtain ⟨r2, c2, o2, w2, p2, H2, G2, K2, L2, R2, T2, s2, a2, l2⟩ := e
  injection h with g1 h
  injection h with g2 h
  injection h with g3 h
  injection h with g4 h
  injection h with g5 h
  injection h with g6 h
  injection h with g7 g8
  dsimp only at *
  subst g1 g2 g3 g4 g5 g6 g7 g8 h1 h2 h3 h4 h5 h6
  rfl
 ·intro h
  subst h
  exact ⟨rfl, rfl, rfl, rfl, rfl, rfl, rfl⟩
structure TdB (d : TD) : Prop where
 H : d.H.length ≤ 100000
 G : d.G.length ≤ 100000
 K : d.K.length ≤ 100000
 L : d.L.length ≤ 100000
 R : d.R.length ≤ 100000
 T : d.T.length ≤ 100000
 r : ∀ j, j < d.R.length → (d.R.getD j []).length ≤ 100000
set_option maxRecDepth 100000 in
set_option maxHeartbeats 8000000 in
theorem r15Same_any (p q : TAd) (d e : TD) (B : Nat) (w : World) (hB : B ≤ w.heap.size) (bd : TdB d) (K : TkM B w (tkA p d)) (M : TkM B w (tkA q e)) :
  Calls Tryz.prog 13 #[.agg (tdL p d).toArray, .agg (tdL q e).toArray] w fun r w' => r = .returned (.bool (decide (tdP d e))) ∧ Below w.heap.size w w' := by
 have S0 := fun (T : TypeId) => (show Gr2 w ((w.alloc (.cells (tdL p d).toArray T)).alloc (.cells (tdL q e).toArray T)) B p q d e from by
  have b2 : Below w.heap.size w ((w.alloc (.cells (tdL p d).toArray T)).alloc (.cells (tdL q e).toArray T)) := ((Below.refl _ _).alloc (Nat.le_refl _) _).alloc (by simp) _
  exact ⟨(BW.new w _ (tdL p d) _ rfl).alloc _, BW.new _ _ (tdL q e) _ (by simp), K.keep b2 hB, M.keep b2 hB, b2, hB⟩)
 have Q0 := Lib.hid (S0 34)
 have GR := Lib.hid (fun (W : World) (S : Gr2 w W B p q d e) => r15Grounds_any p q d e B W (by have := S.z; have := S.l.size; omega) ⟨bd.H, bd.G, bd.K⟩ S.k S.m)
 have SL := Lib.hid (fun (W : World) (S : Gr2 w W B p q d e) => r15Same1_any p.L q.L d.L e.L B W (by have := S.z; have := S.l.size; omega) bd.L S.k.L S.m.L)
 have SR := Lib.hid (fun (j : Nat) (hj : j < d.R.length) (hj2 : j < e.R.length) (W : World) (S : Gr2 w W B p q d e) => r15Same1_any (p.r j) (q.r j) (d.R.getD j []) (e.R.getD j []) B W (by have := S.z; have := S.l.size; omega) (bd.r j hj) (S.k.Rs j hj) (S.m.Rs j hj2))
 obtain ⟨z, hz⟩ : ∃ z, decide (tdP d e) = z := ⟨_, rfl⟩
 rw [hz]
 have NF := Lib.hid (fun (h : ¬ tdP d e) => (show false = z by rw [← hz]; exact (decide_eq_false h).symm))
 have NY := Lib.hid (fun (h : tdP d e) => (show true = z by rw [← hz]; exact (decide_eq_true h).symm))
 have bR := bd.R
 have bT := bd.T
 obtain ⟨q1, hq1⟩ : ∃ z, decide (gpt d = gpt e) = z := ⟨_, rfl⟩
 obtain ⟨q2, hq2⟩ : ∃ z, decide (d.L = e.L) = z := ⟨_, rfl⟩
 rw [hq1] at GR
 rw [hq2] at SL
 have H1 := Lib.hid hq1
 have H2 := Lib.hid hq2
 clear hz S0 K M bd hq1 hq2
 obtain ⟨r1, c1, o1, w1, p1, A1, G1, K1, L1, R1, T1, ⟨sx1, sy1⟩, h1, l1⟩ := d
 obtain ⟨r2, c2, o2, w2, p2, A2, G2, K2, L2, R2, T2, ⟨sx2, sy2⟩, h2, l2⟩ := e
 dsimp only at *
 go_enter Tryz.func13, Tryz.ntmps13
 go_wp2_with fail
 refine calls_gen (S := fun W => Gr2 w W B p q ⟨r1, c1, o1, w1, p1, A1, G1, K1, L1, R1, T1, (sx1, sy1), h1, l1⟩ ⟨r2, c2, o2, w2, p2, A2, G2, K2, L2, R2, T2, (sx2, sy2), h2, l2⟩) Q0.out (fun W1 hS => ?_)
 have Q1 := Lib.hid hS
 clear hS Q0
 refine (GR.out _ Q1.out).mono ?_
 rintro e w3 ⟨rfl, h⟩
 have Q2 := Lib.hid (Q1.out.step h)
 clear h Q1 GR
 cases q1 with
 | false =>
  clear SL SR
  have E := Lib.hid (NF.out (fun h => of_decide_eq_false H1.out h.1))
  clear NF NY
  go_wp2
  go_ret
  exact ⟨by rw [← E.out]; rfl, Q2.out.l⟩
 | true =>
 have e1 := of_decide_eq_true H1.out
 have E1 := Lib.hid e1
 clear e1 H1
 have a9 : World.cell? _ ⟨w.heap.size, 9, none⟩ = some (.slice p.L.1 L1.length p.L.2) := Q2.out.a.c 9 _ rfl
 have b9 : World.cell? _ ⟨w.heap.size + 1, 9, none⟩ = some (.slice q.L.1 L2.length q.L.2) := Q2.out.b.c 9 _ rfl
 go_wp2_with fail
 refine (SL.out _ Q2.out).mono ?_
 rintro e w4 ⟨rfl, h⟩
 have Q3 := Lib.hid (Q2.out.step h)
 clear h Q2 SL a9 b9
 have Q2 := Q3
 clear Q3
 cases q2 with
 | false =>
  clear SR
  have E := Lib.hid (NF.out (fun h => of_decide_eq_false H2.out h.2.1))
  clear NF NY
  go_wp2
  go_ret
  exact ⟨by rw [← E.out]; rfl, Q2.out.l⟩
 | true =>
 have e2 := of_decide_eq_true H2.out
 have E2 := Lib.hid e2
 clear e2 H2
 have a10 : World.cell? _ ⟨w.heap.size, 10, none⟩ = some (.slice p.R.1 R1.length p.R.2) := Q2.out.a.c 10 _ rfl
 have b10 : World.cell? _ ⟨w.heap.size + 1, 10, none⟩ = some (.slice q.R.1 R2.length q.R.2) := Q2.out.b.c 10 _ rfl
 have a11 : World.cell? _ ⟨w.heap.size, 11, none⟩ = some (.slice p.T.1 T1.length p.T.2) := Q2.out.a.c 11 _ rfl
 have b11 : World.cell? _ ⟨w.heap.size + 1, 11, none⟩ = some (.slice q.T.1 T2.length q.T.2) := Q2.out.b.c 11 _ rfl
 have a12 : World.cell? _ ⟨w.heap.size, 12, none⟩ = some (.int .i64 sx1) := Q2.out.a.c 12 _ rfl
 have b12 : World.cell? _ ⟨w.heap.size + 1, 12, none⟩ = some (.int .i64 sx2) := Q2.out.b.c 12 _ rfl
 have a13 : World.cell? _ ⟨w.heap.size, 13, none⟩ = some (.int .i64 sy1) := Q2.out.a.c 13 _ rfl
 have b13 : World.cell? _ ⟨w.heap.size + 1, 13, none⟩ = some (.int .i64 sy2) := Q2.out.b.c 13 _ rfl
 have a14 : World.cell? _ ⟨w.heap.size, 14, none⟩ = some (.int .u32 h1) := Q2.out.a.c 14 _ rfl
 have b14 : World.cell? _ ⟨w.heap.size + 1, 14, none⟩ = some (.int .u32 h2) := Q2.out.b.c 14 _ rfl
 have a15 : World.cell? _ ⟨w.heap.size, 15, none⟩ = some (.int .i64 l1) := Q2.out.a.c 15 _ rfl
 have b15 : World.cell? _ ⟨w.heap.size + 1, 15, none⟩ = some (.int .i64 l2) := Q2.out.b.c 15 _ rfl
 by_cases e3 : R1.length = R2.length
 rotate_left
 ·have g : ¬ (R1.length : Int) = (R2.length : Int) := by omega
  clear SR
  have E := Lib.hid (NF.out (fun h => e3 (congrArg List.length h.2.2.1)))
  clear NF NY
  go_wp2
  go_ret
  exact ⟨by rw [← E.out]; rfl, Q2.out.l⟩
 have g3 : (R1.length : Int) = (R2.length : Int) := by omega
 by_cases e4 : T1.length = T2.length
 rotate_left
 ·have g : ¬ (T1.length : Int) = (T2.length : Int) := by omega
  clear SR
  have E := Lib.hid (NF.out (fun h => e4 (congrArg List.length h.2.2.2.1)))
  clear NF NY
  go_wp2
  go_ret
  exact ⟨by rw [← E.out]; rfl, Q2.out.l⟩
 have g4 : (T1.length : Int) = (T2.length : Int) := by omega
 obtain ⟨z5, hz5⟩ : ∃ z, (sx1 == sx2 && sy1 == sy2) = z := ⟨_, rfl⟩
 have ev : ∀ w : World, (Op.equalIn 10000 24 (.agg #[.int .i64 sx1, .int .i64 sy1]) (.agg #[.int .i64 sx2, .int .i64 sy2])).run Tryz.prog w = .ok z5 w := fun w => by rw [eqV2, hz5]
 by_cases e5 : sx1 = sx2 ∧ sy1 = sy2
 rotate_left
 ·have hf : z5 = false := by
   rw [← hz5]
   by_cases g : sx1 = sx2
   ·have : ¬ sy1 = sy2 := fun k => e5 ⟨g, k⟩
    simp [this]
   ·simp [g]
  subst hf
  clear SR hz5
  have e5' := Lib.hid e5
  clear e5
  have E := Lib.hid (NF.out (fun h => e5'.out (by have := h.2.2.2.2.1; injection this with i1 i2; exact ⟨i1, i2⟩)))
  clear NF NY
  go_wp2
  go_ret
  exact ⟨by rw [← E.out]; rfl, Q2.out.l⟩
 obtain ⟨rfl, rfl⟩ := e5
 have hf : z5 = true := by rw [← hz5]; simp
 subst hf
 clear hz5
 by_cases e6 : h1 = h2
 rotate_left
 ·clear SR
  have E := Lib.hid (NF.out (fun h => e6 h.2.2.2.2.2.1))
  clear NF NY
  go_wp2
  go_ret
  exact ⟨by rw [← E.out]; rfl, Q2.out.l⟩
 subst e6
 by_cases e7 : l1 = l2
 rotate_left
 ·clear SR
  have E := Lib.hid (NF.out (fun h => e7 h.2.2.2.2.2.2))
  clear NF NY
  go_wp2
  go_ret
  exact ⟨by rw [← E.out]; rfl, Q2.out.l⟩
 subst e7
 have LE := Lib.hid (And.intro e3 e4)
 have E2' := Lib.hid (And.intro E1.out E2.out)
 clear e3 e4 E1 E2
 go_wp2
 clear a10 b10 a11 b11 a12 b12 a13 b13 a14 b14 a15 b15 g3 g4 ev
 go_loopw [5] (fun i wr => ∃ j : Nat, j ≤ R1.length ∧ i = .int .i64 j ∧ Hid (∀ k, k < j → R1.getD k [] = R2.getD k []) ∧ Gr2 w wr B p q ⟨r1, c1, o1, w1, p1, A1, G1, K1, L1, R1, T1, (sx1, sy1), h1, l1⟩ ⟨r2, c2, o2, w2, p2, A2, G2, K2, L2, R2, T2, (sx1, sy1), h1, l1⟩) (fun i _ => R1.length - (intOf i).toNat)
 case atStart => exact ⟨0, by omega, rfl, Lib.hid (fun k h => absurd h (by omega)), Q2.out⟩
 case round =>
  obtain ⟨j, hj, rfl, I, hS⟩ := hrel
  have S1 := Lib.hid hS
  clear hS Q2
  have a6 : World.cell? _ ⟨w.heap.size, 10, none⟩ = some (.slice p.R.1 R1.length p.R.2) := S1.out.a.c 10 _ rfl
  have b6 : World.cell? _ ⟨w.heap.size + 1, 10, none⟩ = some (.slice q.R.1 R2.length q.R.2) := S1.out.b.c 10 _ rfl
  rw [← LE.out.1] at b6
  by_cases hlt : j < R1.length
  ·obtain ⟨n1, f1, ha, hb1, hc1⟩ := S1.out.k.R (by show 0 < R1.length; omega)
   obtain ⟨n2, f2, hb, hb2, hc2⟩ := S1.out.m.R (by show 0 < R2.length; have := LE.out.1; omega)
   have ha : p.R.1 = some ⟨n1, f1, none⟩ := ha
   have hb : q.R.1 = some ⟨n2, f2, none⟩ := hb
   have d0 : World.cell? _ ⟨n1, f1 + j, none⟩ = some (.slice (p.r j).1 (R1.getD j []).length (p.r j).2) := hc1 j hlt
   have d1 : World.cell? _ ⟨n2, f2 + j, none⟩ = some (.slice (q.r j).1 (R2.getD j []).length (q.r j).2) := hc2 j (by show j < R2.length; have := LE.out.1; omega)
   rw [ha] at a6
   rw [hb] at b6
   have z0 : (0 : Int) ≤ (j : Int) := by omega
   have z1 : (j : Int) < (R1.length : Int) := by omega
   have SX := Lib.hid (SR.out j hlt (by have := LE.out.1; omega))
   have NB := Lib.hid (fun (h : ¬ R1.getD j [] = R2.getD j []) => NF.out (fun e => h (by rw [show R1 = R2 from e.2.2.1])))
   have I2 := Lib.hid (fun (h : R1.getD j [] = R2.getD j []) => all_nx (P := fun k => R1.getD k [] = R2.getD k []) I.out h)
   obtain ⟨qj, hqj⟩ : ∃ z, decide (R1.getD j [] = R2.getD j []) = z := ⟨_, rfl⟩
   rw [hqj] at SX
   have HQ := Lib.hid hqj
   have k1 : n1 < w.heap.size := by have := S1.out.z; omega
   have k2 : n2 < w.heap.size := by have := S1.out.z; omega
   clear hc1 hc2 hb1 hb2 I ha hb hqj
   generalize R1.getD j [] = u at *
   generalize R2.getD j [] = v at *
   go_wp2_with fail
   refine wp_region_held_drew (S := fun W => (W.cell? ⟨w.heap.size, 10, none⟩ = some (.slice (some ⟨n1, f1, none⟩) R1.length p.R.2) ∧ W.cell? ⟨w.heap.size + 1, 10, none⟩ = some (.slice (some ⟨n2, f2, none⟩) R1.length q.R.2)) ∧ W.cell? ⟨n1, f1 + j, none⟩ = some (.slice (p.r j).1 u.length (p.r j).2) ∧ W.cell? ⟨n2, f2 + j, none⟩ = some (.slice (q.r j).1 v.length (q.r j).2)) (by kernel_rfl) ⟨⟨a6, b6⟩, d0, d1⟩ (fun hHeld => ?_)
   have S2 := Lib.hid (S1.out.step (Below.refl _ _).drew)
   have AB := Lib.hid (And.intro (And.intro a6 b6) (And.intro d0 d1))
   have AB2 := Lib.hid (show (wr.drew.cell? ⟨w.heap.size, 10, none⟩ = some (.slice (some ⟨n1, f1, none⟩) R1.length p.R.2) ∧ wr.drew.cell? ⟨w.heap.size + 1, 10, none⟩ = some (.slice (some ⟨n2, f2, none⟩) R1.length q.R.2)) ∧ wr.drew.cell? ⟨n1, f1 + j, none⟩ = some (.slice (p.r j).1 u.length (p.r j).2) ∧ wr.drew.cell? ⟨n2, f2 + j, none⟩ = some (.slice (q.r j).1 v.length (q.r j).2) from AB.out)
   clear S1 a6 b6 d0 d1 AB
   generalize wr.drew = w5 at *
   refine tkQ 0 65 hHeld ?_
   (try simp only [putA, putB, putC, putD])
   refine tkQ 1 66 hHeld ?_
   (try simp only [putA, putB, putC, putD])
   refine tkQ 2 67 hHeld ?_
   (try simp only [putA, putB, putC, putD])
   refine tkQ 3 68 hHeld ?_
   (try simp only [putA, putB, putC, putD])
   refine tkQ 4 69 hHeld ?_
   (try simp only [putA, putB, putC, putD])
   refine tkQ 5 70 hHeld ?_
   (try simp only [putA, putB, putC, putD])
   refine tkQ 6 71 hHeld ?_
   (try simp only [putA, putB, putC, putD])
   refine tkQ 7 72 hHeld ?_
   (try simp only [putA, putB, putC, putD])
   refine tkQ 8 73 hHeld ?_
   (try simp only [putA, putB, putC, putD])
   refine tkQ 9 74 hHeld ?_
   (try simp only [putA, putB, putC, putD])
   refine onlD 10 (fun K hK => ?_)
   go_simp
   refine (SX.out _ S2.out).mono ?_
   rintro e w6 ⟨rfl, h⟩
   have S3 := Lib.hid (S2.out.step h)
   have hz := S2.out.l.size
   have ha := S2.out.a.lt
   have hb := S2.out.b.lt
   have AB3 := Lib.hid (show (w6.cell? ⟨w.heap.size, 10, none⟩ = some (.slice (some ⟨n1, f1, none⟩) R1.length p.R.2) ∧ w6.cell? ⟨w.heap.size + 1, 10, none⟩ = some (.slice (some ⟨n2, f2, none⟩) R1.length q.R.2)) ∧ w6.cell? ⟨n1, f1 + j, none⟩ = some (.slice (p.r j).1 u.length (p.r j).2) ∧ w6.cell? ⟨n2, f2 + j, none⟩ = some (.slice (q.r j).1 v.length (q.r j).2) from
    ⟨⟨(h.cell (p := ⟨w.heap.size, 10, none⟩) ha).trans AB2.out.1.1, (h.cell (p := ⟨w.heap.size + 1, 10, none⟩) hb).trans AB2.out.1.2⟩, (h.cell (p := ⟨n1, _, none⟩) (by show n1 < _; omega)).trans AB2.out.2.1, (h.cell (p := ⟨n2, _, none⟩) (by show n2 < _; omega)).trans AB2.out.2.2⟩)
   go_wp2_with fail
   refine hK.out _ _ (AB3.out) ?_
   clear hK K hHeld
   intro hHeld
   clear h S2 SX AB2 hz ha hb
   refine tkQ 11 76 hHeld ?_
   (try simp only [putA, putB, putC, putD])
   refine wpAnyH_done (by kernel_rfl) ?_ _
   clear hHeld AB3
   cases qj with
   | true =>
    have I3 := Lib.hid (I2.out (of_decide_eq_true HQ.out))
    clear NB I2 HQ
    go_wp2
    go_roundw
    case rel => exact ⟨j + 1, by omega, by go_num, I3, S3.out⟩
    case measure => simp [intOf]; omega
   | false =>
    have E := Lib.hid (NB.out (of_decide_eq_false HQ.out))
    clear NB I2 HQ NY
    go_wp2
    go_ret
    exact ⟨by rw [← E.out]; rfl, S3.out.l⟩
  ·have ER := Lib.hid (get_ext [] LE.out.1 (fun i hi => I.out i (by omega)))
   have z1 : ¬ (j : Int) < (R1.length : Int) := by omega
   clear I SR
   go_wp2
   clear a6 b6 z1
   go_loopw [6] (fun i wr => ∃ j : Nat, j ≤ T1.length ∧ i = .int .i64 j ∧ Hid (∀ k, k < j → T1.getD k ((0, 0), (0, 0), false) = T2.getD k ((0, 0), (0, 0), false)) ∧ Gr2 w wr B p q ⟨r1, c1, o1, w1, p1, A1, G1, K1, L1, R1, T1, (sx1, sy1), h1, l1⟩ ⟨r2, c2, o2, w2, p2, A2, G2, K2, L2, R2, T2, (sx1, sy1), h1, l1⟩) (fun i _ => T1.length - (intOf i).toNat)
   case atStart => exact ⟨0, by omega, rfl, Lib.hid (fun k h => absurd h (by omega)), S1.out⟩
   case round =>
    obtain ⟨j, hj, rfl, I, hS⟩ := hrel
    have S2 := Lib.hid hS
    clear hS S1
    have a6 : World.cell? _ ⟨w.heap.size, 11, none⟩ = some (.slice p.T.1 T1.length p.T.2) := S2.out.a.c 11 _ rfl
    have b6 : World.cell? _ ⟨w.heap.size + 1, 11, none⟩ = some (.slice q.T.1 T2.length q.T.2) := S2.out.b.c 11 _ rfl
    rw [← LE.out.2] at b6
    by_cases hlt : j < T1.length
    ·obtain ⟨n1, f1, ha, hb1, hc1⟩ := S2.out.k.G (by show 0 < T1.length; omega)
     obtain ⟨n2, f2, hb, hb2, hc2⟩ := S2.out.m.G (by show 0 < T2.length; have := LE.out.2; omega)
     have ha : p.T.1 = some ⟨n1, f1, none⟩ := ha
     have hb : q.T.1 = some ⟨n2, f2, none⟩ := hb
     obtain ⟨⟨t0, t1⟩, ⟨t2, t3⟩, t4⟩ := hc1 j hlt
     obtain ⟨⟨y0, y1⟩, ⟨y2, y3⟩, y4⟩ := hc2 j (by show j < T2.length; have := LE.out.2; omega)
     have d0 : World.cell? _ ⟨n1, f1 + j * 5, none⟩ = some (.int .i64 (T1.getD j ((0, 0), (0, 0), false)).1.1) := t0
     have d1 : World.cell? _ ⟨n1, f1 + j * 5 + 1, none⟩ = some (.int .i64 (T1.getD j ((0, 0), (0, 0), false)).1.2) := t1
     have d2 : World.cell? _ ⟨n1, f1 + j * 5 + 2, none⟩ = some (.int .i64 (T1.getD j ((0, 0), (0, 0), false)).2.1.1) := t2
     have d3 : World.cell? _ ⟨n1, f1 + j * 5 + 3, none⟩ = some (.int .i64 (T1.getD j ((0, 0), (0, 0), false)).2.1.2) := t3
     have d4 : World.cell? _ ⟨n1, f1 + j * 5 + 4, none⟩ = some (.bool (T1.getD j ((0, 0), (0, 0), false)).2.2) := t4
     have d5 : World.cell? _ ⟨n2, f2 + j * 5, none⟩ = some (.int .i64 (T2.getD j ((0, 0), (0, 0), false)).1.1) := y0
     have d6 : World.cell? _ ⟨n2, f2 + j * 5 + 1, none⟩ = some (.int .i64 (T2.getD j ((0, 0), (0, 0), false)).1.2) := y1
     have d7 : World.cell? _ ⟨n2, f2 + j * 5 + 2, none⟩ = some (.int .i64 (T2.getD j ((0, 0), (0, 0), false)).2.1.1) := y2
     have d8 : World.cell? _ ⟨n2, f2 + j * 5 + 3, none⟩ = some (.int .i64 (T2.getD j ((0, 0), (0, 0), false)).2.1.2) := y3
     have d9 : World.cell? _ ⟨n2, f2 + j * 5 + 4, none⟩ = some (.bool (T2.getD j ((0, 0), (0, 0), false)).2.2) := y4
     clear t0 t1 t2 t3 t4 y0 y1 y2 y3 y4
     rw [ha] at a6
     rw [hb] at b6
     have z0 : (0 : Int) ≤ (j : Int) := by omega
     have z1 : (j : Int) < (T1.length : Int) := by omega
     have NB := Lib.hid (fun (h : ¬ T1.getD j ((0, 0), (0, 0), false) = T2.getD j ((0, 0), (0, 0), false)) => NF.out (fun e => h (by rw [show T1 = T2 from e.2.2.2.1])))
     have I2 := Lib.hid (fun (h : T1.getD j ((0, 0), (0, 0), false) = T2.getD j ((0, 0), (0, 0), false)) => all_nx (P := fun k => T1.getD k ((0, 0), (0, 0), false) = T2.getD k ((0, 0), (0, 0), false)) I.out h)
     clear hc1 hc2 hb1 hb2 I ha hb
     generalize T1.getD j ((0, 0), (0, 0), false) = u at *
     generalize T2.getD j ((0, 0), (0, 0), false) = v at *
     obtain ⟨⟨ua, ub⟩, ⟨uc, ud⟩, uo⟩ := u
     obtain ⟨⟨va, vb⟩, ⟨vc, vd⟩, vo⟩ := v
     dsimp only at d0 d1 d2 d3 d4 d5 d6 d7 d8 d9
     obtain ⟨zk, hzk⟩ : ∃ z, ((ua == va && ub == vb) && ((uc == vc && ud == vd) && uo == vo)) = z := ⟨_, rfl⟩
     have ek : ∀ w : World, (Op.equalIn 10000 59 (.agg #[.int .i64 ua, .int .i64 ub, .int .i64 uc, .int .i64 ud, .bool uo]) (.agg #[.int .i64 va, .int .i64 vb, .int .i64 vc, .int .i64 vd, .bool vo])).run Tryz.prog w = .ok zk w := fun w => by rw [eqGate, hzk]
     have HZ := Lib.hid hzk
     clear hzk
     cases zk with
     | true =>
      have I3 := Lib.hid (I2.out (by have := HZ.out; simp at this; obtain ⟨⟨i1, i2⟩, ⟨i3, i4⟩, i5⟩ := this; rw [i1, i2, i3, i4, i5]))
      clear NB I2 HZ
      go_wp2
      go_quiet (fail)
      go_wp2
      go_roundw
      case rel => exact ⟨j + 1, by omega, by go_num, I3, S2.out.step (below_drewN (Below.refl _ _) _)⟩
      case measure => simp [intOf]; omega
     | false =>
      have E := Lib.hid (NB.out (fun h => by have := HZ.out; simp only [Prod.mk.injEq] at h; obtain ⟨⟨i1, i2⟩, ⟨i3, i4⟩, i5⟩ := h; subst i1 i2 i3 i4 i5; simp at this))
      clear NB I2 HZ NY
      go_wp2
      go_quiet (fail)
      go_wp2
      go_ret
      exact ⟨by rw [← E.out]; rfl, below_drewN S2.out.l _⟩
    ·have ET := Lib.hid (get_ext ((0, 0), (0, 0), false) LE.out.2 (fun i hi => I.out i (by omega)))
     have z1 : ¬ (j : Int) < (T1.length : Int) := by omega
     clear I
     have E := Lib.hid (NY.out ⟨E2'.out.1, E2'.out.2, ER.out, ET.out, rfl, rfl, rfl⟩)
     clear NF NY
     go_wp2
     go_ret
     exact ⟨by rw [← E.out]; rfl, S2.out.l⟩
end Go.Proofs.YtmdjnamkbekjkaaGreatDoor

/- -/
import Derived.Test.YtmdjnamkbekjkaaGreatDoorBm
import Derived.Test.YtmdjnamkbekjkaaGreatDoorBp
import Derived.Test.YtmdjnamkbekjkaaGreatDoorBy
import Derived.Test.YtmdjnamkbekjkaaGreatDoorBj
import Derived.Deep.QuietTactic
import Derived.BigQuiet
namespace Go.Proofs.YtmdjnamkbekjkaaGreatDoor
open Go.RowKit
set_option linter.unusedVariables false
set_option linter.unusedSimpArgs false
theorem wrap_in' {n : Int} (h : In64 n) : IntKind.i64.wrap n = n ∧ wrap64 n = n := by
 unfold In64 at h
 exact ⟨IntWalk.i64_in _ (by omega), by unfold wrap64; omega⟩
structure Trk where
 rate : Int
 cell : Int
 cols : Int
 rows : Int
 cx : Int
 cy : Int
 H : Sl
 G : Sl
 ka : Option Addr
 kn : Nat
 kc : Nat
 kg : Nat → Int
 kd : Nat → Int
 ko : Nat → Bool
 la : Option Addr
 ln : Nat
 lc : Nat
 ra : Option Addr
 rn : Nat
 rc : Nat
 ga : Option Addr
 gn : Nat
 gc : Nat
 sx : Int
 sy : Int
 head : Int
 laps : Int
def trkL (t : Trk) : List Value := [.int .i64 t.rate, .int .i64 t.cell, .int .i64 t.cols, .int .i64 t.rows, .int .i64 t.cx, .int .i64 t.cy, .slice t.H.a t.H.n t.H.c, .slice t.G.a t.G.n t.G.c, .slice t.ka t.kn t.kc, .slice t.la t.ln t.lc, .slice t.ra t.rn t.rc, .slice t.ga t.gn t.gc, .int .i64 t.sx, .int .i64 t.sy, .int .u32 t.head, .int .i64 t.laps]
structure TrkM (B : Nat) (w : World) (t : Trk) : Prop where
 H : Nums B w t.H
 G : Nums B w t.G
 km : t.kc ≤ maxLen
 kl : t.kn ≤ t.kc
 kw : ∀ i, i < t.kn → In64 (t.kg i) ∧ In64 (t.kd i)
 k : 0 < t.kn → ∃ b off, t.ka = some ⟨b, off, none⟩ ∧ b < B ∧ ∀ i, i < t.kn → w.cell? ⟨b, off + i * 3, none⟩ = some (.int .i64 (t.kg i)) ∧ w.cell? ⟨b, off + i * 3 + 1, none⟩ = some (.int .i64 (t.kd i)) ∧ w.cell? ⟨b, off + i * 3 + 2, none⟩ = some (.bool (t.ko i))
 n : In64 t.cell ∧ In64 t.cols ∧ In64 t.rows ∧ In64 t.cx ∧ In64 t.cy
theorem TrkM.keep {B C : Nat} {w w' : World} {t : Trk} (K : TrkM B w t) (h : Below C w w') (hB : B ≤ C) : TrkM B w' t :=
 ⟨K.H.keep h hB, K.G.keep h hB, K.km, K.kl, K.kw, fun h0 => by
  obtain ⟨b, off, e, hb, hc⟩ := K.k h0
  exact ⟨b, off, e, hb, fun i hi => ⟨(h.cell (p := ⟨b, _, none⟩) (by show b < C; omega)).trans (hc i hi).1, (h.cell (p := ⟨b, _, none⟩) (by show b < C; omega)).trans (hc i hi).2.1, (h.cell (p := ⟨b, _, none⟩) (by show b < C; omega)).trans (hc i hi).2.2⟩⟩, K.n⟩
structure PT (w W : World) (B m : Nat) (t : Trk) : Prop where
 c : BW W m (trkL t)
 l : Below w.heap.size w W
 t : TrkM B W t
 z : B ≤ w.heap.size
theorem PT.step {w W W' : World} {B m : Nat} {t : Trk} (Q : PT w W B m t) (h : Below W.heap.size W W') : PT w W' B m t :=
 ⟨Q.c.below h Q.c.lt, Q.l.trans (h.mono Q.l.size), Q.t.keep h (by have := Q.z; have := Q.l.size; omega), Q.z⟩
theorem PT.new {w : World} {B : Nat} {t : Trk} (ty : TypeId) (h : TrkM B w t) (z : B ≤ w.heap.size) : PT w (w.alloc (.cells #[.int .i64 t.rate, .int .i64 t.cell, .int .i64 t.cols, .int .i64 t.rows, .int .i64 t.cx, .int .i64 t.cy, .slice t.H.a t.H.n t.H.c, .slice t.G.a t.G.n t.G.c, .slice t.ka t.kn t.kc, .slice t.la t.ln t.lc, .slice t.ra t.rn t.rc, .slice t.ga t.gn t.gc, .int .i64 t.sx, .int .i64 t.sy, .int .u32 t.head, .int .i64 t.laps] ty)) B w.heap.size t :=
 ⟨BW.new w _ (trkL t) ty rfl, (Below.refl _ _).alloc (Nat.le_refl _) _, h.keep ((Below.refl w.heap.size w).alloc (Nat.le_refl _) _) z, z⟩
theorem PT.cs {w W : World} {B m : Nat} {t : Trk} (Q : PT w W B m t) : W.cell? ⟨m, 1, none⟩ = some (.int .i64 t.cell) ∧ W.cell? ⟨m, 2, none⟩ = some (.int .i64 t.cols) ∧ W.cell? ⟨m, 3, none⟩ = some (.int .i64 t.rows) ∧ W.cell? ⟨m, 4, none⟩ = some (.int .i64 t.cx) ∧ W.cell? ⟨m, 5, none⟩ = some (.int .i64 t.cy) ∧
  W.cell? ⟨m, 6, none⟩ = some (.slice t.H.a t.H.n t.H.c) ∧ W.cell? ⟨m, 7, none⟩ = some (.slice t.G.a t.G.n t.G.c) ∧ W.cell? ⟨m, 8, none⟩ = some (.slice t.ka t.kn t.kc) :=
 ⟨Q.c.c 1 _ rfl, Q.c.c 2 _ rfl, Q.c.c 3 _ rfl, Q.c.c 4 _ rfl, Q.c.c 5 _ rfl, Q.c.c 6 _ rfl, Q.c.c 7 _ rfl, Q.c.c 8 _ rfl⟩
theorem rFIn_any (n l h : Int) (w : World) :
  Calls Tryz.prog 103 #[.int .i64 n, .int .i64 l, .int .i64 h] w fun e w' => e = .returned (.bool (decide (l ≤ n ∧ n ≤ h))) ∧ w' = w := by
 obtain ⟨r, hr⟩ : ∃ r, decide (l ≤ n ∧ n ≤ h) = r := ⟨_, rfl⟩
 rw [hr]
 have R := Lib.hid hr
 clear hr
 go_enter Tryz.func103, Tryz.ntmps103
 by_cases c : l ≤ n
 ·have E := Lib.hid (show decide (n ≤ h) = r by rw [← R.out, decide_eq_decide]; exact ⟨fun k => ⟨c, k⟩, fun k => k.2⟩)
  clear R
  go_wp2
  go_ret
  exact ⟨by rw [← E.out]; rfl, rfl⟩
 ·have E := Lib.hid (show false = r by rw [← R.out]; symm; rw [decide_eq_false_iff_not]; exact fun k => c k.1)
  clear R
  go_wp2
  go_ret
  exact ⟨by rw [← E.out]; rfl, rfl⟩
def axF (n from_ : Int) : Int := clampF n (-281474976710656) 281474976710656 - from_
def whK (t : Trk) (x : Int) : Nat := axK (axF x t.cx) t.cell t.cols.toNat
def whR (t : Trk) (y : Int) : Nat := axK (axF y t.cy) t.cell t.rows.toNat
def whX (t : Trk) (x : Int) : Int := axD (axF x t.cx) t.cell t.cols.toNat
def whY (t : Trk) (y : Int) : Int := axD (axF y t.cy) t.cell t.rows.toNat
structure TrkR (t : Trk) : Prop where
 c : 17179869184 ≤ t.cell ∧ t.cell ≤ 274877906944
 x : -140737488355328 ≤ t.cx ∧ t.cx ≤ 140737488355328
 y : -140737488355328 ≤ t.cy ∧ t.cy ≤ 140737488355328
 m : (1 ≤ t.cols ∧ t.cols ≤ 64) ∧ 1 ≤ t.rows ∧ t.rows ≤ 64
def cntP (t : Trk) : Prop := ((1 ≤ t.cols ∧ t.cols ≤ 64) ∧ 1 ≤ t.rows ∧ t.rows ≤ 64) ∧ (t.H.n : Int) = (t.cols + 1) * (t.rows + 1) ∧ (t.G.n : Int) = t.cols * t.rows ∧ 1 ≤ t.kn ∧ t.kn ≤ 8
instance (t : Trk) : Decidable (cntP t) := by unfold cntP; exact inferInstance
theorem mul_64 {a b : Int} (a0 : 1 ≤ a) (a1 : a ≤ 65) (b0 : 1 ≤ b) (b1 : b ≤ 65) : 1 ≤ a * b ∧ a * b ≤ 4225 := by
 have h1 := Int.mul_le_mul a1 b1 (by omega) (by omega)
 have h2 := Int.mul_pos (show 0 < a by omega) (show 0 < b by omega)
 omega
set_option maxHeartbeats 4000000 in
theorem rFCounts_any (t : Trk) (B : Nat) (w : World) (hB : B ≤ w.heap.size) (K : TrkM B w t) :
  Calls Tryz.prog 102 #[.agg #[.int .i64 t.rate, .int .i64 t.cell, .int .i64 t.cols, .int .i64 t.rows, .int .i64 t.cx, .int .i64 t.cy, .slice t.H.a t.H.n t.H.c, .slice t.G.a t.G.n t.G.c, .slice t.ka t.kn t.kc, .slice t.la t.ln t.lc, .slice t.ra t.rn t.rc, .slice t.ga t.gn t.gc, .int .i64 t.sx, .int .i64 t.sy, .int .u32 t.head, .int .i64 t.laps]] w fun e w' => e = .returned (.bool (decide (cntP t))) ∧ Below w.heap.size w w' := by
 have Q0 := Lib.hid (PT.new 34 K hB)
 obtain ⟨f, hf⟩ : ∃ f, decide (cntP t) = f := ⟨_, rfl⟩
 rw [hf]
 have NF := Lib.hid (fun (h : ¬ cntP t) => (show false = f by rw [← hf]; exact (decide_eq_false h).symm))
 have NY := Lib.hid (fun (h : cntP t) => (show true = f by rw [← hf]; exact (decide_eq_true h).symm))
 clear hf K
 by_cases s1 : t.cols < 1
 ·skip
  have E := Lib.hid (NF.out (fun k => by have := k.1; omega))
  clear NF NY
  go_enter Tryz.func102, Tryz.ntmps102
  go_wp2
  go_ret
  exact ⟨by rw [← E.out]; rfl, Q0.out.l⟩
 by_cases s2 : 64 < t.cols
 ·skip
  have E := Lib.hid (NF.out (fun k => by have := k.1; omega))
  clear NF NY
  go_enter Tryz.func102, Tryz.ntmps102
  go_wp2
  go_ret
  exact ⟨by rw [← E.out]; rfl, Q0.out.l⟩
 by_cases s3 : t.rows < 1
 ·skip
  have E := Lib.hid (NF.out (fun k => by have := k.1; omega))
  clear NF NY
  go_enter Tryz.func102, Tryz.ntmps102
  go_wp2
  go_ret
  exact ⟨by rw [← E.out]; rfl, Q0.out.l⟩
 by_cases s4 : 64 < t.rows
 ·skip
  have E := Lib.hid (NF.out (fun k => by have := k.1; omega))
  clear NF NY
  go_enter Tryz.func102, Tryz.ntmps102
  go_wp2
  go_ret
  exact ⟨by rw [← E.out]; rfl, Q0.out.l⟩
 have p1 := mul_64 (a := t.cols + 1) (b := t.rows + 1) (by omega) (by omega) (by omega) (by omega)
 have p2 := mul_64 (a := t.cols) (b := t.rows) (by omega) (by omega) (by omega) (by omega)
 obtain ⟨P, hP⟩ : ∃ P, (t.cols + 1) * (t.rows + 1) = P := ⟨_, rfl⟩
 obtain ⟨q, hq⟩ : ∃ P, t.cols * t.rows = P := ⟨_, rfl⟩
 have HP := Lib.hid hP
 have HQ := Lib.hid hq
 rw [hP] at p1
 rw [hq] at p2
 obtain ⟨u1, v1⟩ := wrap_in' (n := P) (by unfold In64; omega)
 obtain ⟨u2, v2⟩ := wrap_in' (n := q) (by unfold In64; omega)
 by_cases s5 : (t.H.n : Int) = P
 rotate_left
 ·skip
  have E := Lib.hid (NF.out (fun k => s5 (k.2.1.trans HP.out)))
  clear NF NY
  go_enter Tryz.func102, Tryz.ntmps102
  go_wp2
  go_ret
  exact ⟨by rw [← E.out]; rfl, Q0.out.l⟩
 by_cases s6 : (t.G.n : Int) = q
 rotate_left
 ·skip
  have E := Lib.hid (NF.out (fun k => s6 (k.2.2.1.trans HQ.out)))
  clear NF NY
  go_enter Tryz.func102, Tryz.ntmps102
  go_wp2
  go_ret
  exact ⟨by rw [← E.out]; rfl, Q0.out.l⟩
 by_cases s7 : 1 ≤ t.kn
 rotate_left
 ·have g : ¬ (1 : Int) ≤ (t.kn : Int) := by omega
  have E := Lib.hid (NF.out (fun k => s7 k.2.2.2.1))
  clear NF NY
  go_enter Tryz.func102, Tryz.ntmps102
  go_wp2
  go_ret
  exact ⟨by rw [← E.out]; rfl, Q0.out.l⟩
 have g7 : (1 : Int) ≤ (t.kn : Int) := by omega
 by_cases s8 : t.kn ≤ 8
 rotate_left
 ·have g : ¬ (t.kn : Int) ≤ 8 := by omega
  have E := Lib.hid (NF.out (fun k => s8 k.2.2.2.2))
  clear NF NY
  go_enter Tryz.func102, Tryz.ntmps102
  go_wp2
  go_ret
  exact ⟨by rw [← E.out]; rfl, Q0.out.l⟩
 have g8 : (t.kn : Int) ≤ 8 := by omega
 have E := Lib.hid (NY.out ⟨by omega, s5.trans HP.out.symm, s6.trans HQ.out.symm, s7, s8⟩)
 clear NF NY
 go_enter Tryz.func102, Tryz.ntmps102
 go_wp2
 go_ret
 exact ⟨by rw [← E.out]; rfl, Q0.out.l⟩
theorem idx_right {i C R n : Nat} (hn : n = (C + 1) * (R + 1)) (hi : i < n) (h : i % (C + 1) < C) : i + 1 < n := by
 have e := Nat.div_add_mod i (C + 1)
 have hq : i / (C + 1) < R + 1 := Nat.div_lt_of_lt_mul (by omega)
 have h2 := Nat.mul_le_mul_left (C + 1) (show i / (C + 1) + 1 ≤ R + 1 by omega)
 rw [Nat.mul_add, Nat.mul_one] at h2
 omega
theorem idx_up {i C R n : Nat} (hn : n = (C + 1) * (R + 1)) (hi : i < n) (h : i / (C + 1) < R) : i + C + 1 < n := by
 have e := Nat.div_add_mod i (C + 1)
 have hm := Nat.mod_lt i (show C + 1 > 0 by omega)
 have h2 := Nat.mul_le_mul_left (C + 1) (show i / (C + 1) + 1 + 1 ≤ R + 1 by omega)
 rw [Nat.mul_add, Nat.mul_add, Nat.mul_one] at h2
 omega
theorem tdiv_nat (m n : Nat) : Int.tdiv (m : Int) (n : Int) = ((m / n : Nat) : Int) := rfl
theorem tmodn (m n : Nat) : Int.tmod (m : Int) (n : Int) = ((m % n : Nat) : Int) := by
 rw [Int.tmod_eq_emod_of_nonneg (by omega)]; rfl
def inH (n : Int) : Prop := -2199023255552 ≤ n ∧ n ≤ 2199023255552
instance (n : Int) : Decidable (inH n) := by unfold inH; exact inferInstance
def adjX (t : Trk) (C i : Nat) : Prop := i % (C + 1) < C → -t.cell ≤ t.H.v (i + 1) - t.H.v i ∧ t.H.v (i + 1) - t.H.v i ≤ t.cell
def adjY (t : Trk) (C R i : Nat) : Prop := i / (C + 1) < R → -t.cell ≤ t.H.v (i + C + 1) - t.H.v i ∧ t.H.v (i + C + 1) - t.H.v i ≤ t.cell
instance (t : Trk) (C i : Nat) : Decidable (adjX t C i) := by unfold adjX; exact inferInstance
instance (t : Trk) (C R i : Nat) : Decidable (adjY t C R i) := by unfold adjY; exact inferInstance
def hgtP (t : Trk) : Prop := (∀ i, i < t.H.n → inH (t.H.v i)) ∧ ∀ i, i < t.H.n → adjX t t.cols.toNat i ∧ adjY t t.cols.toNat t.rows.toNat i
instance (t : Trk) : Decidable (hgtP t) := by unfold hgtP; exact inferInstance
theorem all_nx {P : Nat → Prop} {j : Nat} (h : ∀ k, k < j → P k) (p : P j) : ∀ k, k < j + 1 → P k := fun k hk => by
 rcases Nat.lt_or_ge k j with l | l
 ·exact h k l
 ·have e : k = j := by omega
  subst e; exact p
theorem PT.dn {w W : World} {B m : Nat} {t : Trk} (Q : PT w W B m t) (n : Nat) : PT w (W.drewN n) B m t := Q.step (below_drewN (Below.refl _ _) n)
set_option maxRecDepth 100000 in
set_option maxHeartbeats 8000000 in
theorem rFHeights_any (t : Trk) (C R B : Nat) (w : World) (hB : B ≤ w.heap.size) (hC : t.cols = (C : Int)) (hR : t.rows = (R : Int)) (hC1 : 1 ≤ C ∧ C ≤ 64) (hR1 : 1 ≤ R ∧ R ≤ 64) (hn : t.H.n = (C + 1) * (R + 1)) (hc : 17179869184 ≤ t.cell ∧ t.cell ≤ 274877906944) (K : TrkM B w t) :
  Calls Tryz.prog 104 #[.agg #[.int .i64 t.rate, .int .i64 t.cell, .int .i64 t.cols, .int .i64 t.rows, .int .i64 t.cx, .int .i64 t.cy, .slice t.H.a t.H.n t.H.c, .slice t.G.a t.G.n t.G.c, .slice t.ka t.kn t.kc, .slice t.la t.ln t.lc, .slice t.ra t.rn t.rc, .slice t.ga t.gn t.gc, .int .i64 t.sx, .int .i64 t.sy, .int .u32 t.head, .int .i64 t.laps]] w fun e w' => e = .returned (.bool (decide (hgtP t))) ∧ Below w.heap.size w w' := by
 have Q0 := Lib.hid (PT.new 34 K hB)
 obtain ⟨f, hf⟩ : ∃ f, decide (hgtP t) = f := ⟨_, rfl⟩
 rw [hf]
 have eC : t.cols.toNat = C := by omega
 have eR : t.rows.toNat = R := by omega
 have NF := Lib.hid (fun (h : ¬ hgtP t) => (show false = f by rw [← hf]; exact (decide_eq_false h).symm))
 have NY := Lib.hid (fun (h : (∀ i, i < t.H.n → inH (t.H.v i)) ∧ ∀ i, i < t.H.n → adjX t C i ∧ adjY t C R i) => (show true = f by rw [← hf]; exact (decide_eq_true (show hgtP t by unfold hgtP; rw [eC, eR]; exact h)).symm))
 have NA := Lib.hid (fun (i : Nat) (hi : i < t.H.n) (h : ¬ adjX t C i ∨ ¬ adjY t C R i) => NF.out (fun k => by have := k.2 i hi; rw [eC, eR] at this; rcases h with h | h; exact h this.1; exact h this.2))
 have HN := Lib.hid hn
 have h4 : t.H.n ≤ 4225 := by
  rw [hn]
  have := Nat.mul_le_mul (show C + 1 ≤ 65 by omega) (show R + 1 ≤ 65 by omega)
  omega
 have HCo := Lib.hid hC
 have HRo := Lib.hid hR
 clear hf K eC eR hn hC hR
 go_enter Tryz.func104, Tryz.ntmps104
 go_wp2_with fail
 refine wp_gen (S := fun W => PT w W B w.heap.size t) Q0.out (fun W1 hS => ?_)
 have Q1 := Lib.hid hS
 clear hS Q0
 go_loopw [3] (fun i wr => ∃ j : Nat, j ≤ t.H.n ∧ i = .int .i64 j ∧ Hid (∀ k, k < j → inH (t.H.v k)) ∧ PT w wr B w.heap.size t) (fun i _ => t.H.n - (intOf i).toNat)
 case atStart => exact ⟨0, by omega, rfl, Lib.hid (fun k h => absurd h (by omega)), Q1.out⟩
 case round =>
  obtain ⟨j, hj, rfl, I, hQ⟩ := hrel
  have Q2 := Lib.hid hQ
  clear hQ Q1
  obtain ⟨c1, c2, c3, -, -, c6, -, -⟩ := Q2.out.cs
  by_cases hlt : j < t.H.n
  ·obtain ⟨b, off, ha, hb, hcell⟩ := Q2.out.t.H.at' (by omega)
   have d0 := hcell j hlt
   rw [ha] at c6
   have z0 : (0 : Int) ≤ (j : Int) := by omega
   have z1 : (j : Int) < (t.H.n : Int) := by omega
   clear hcell hb ha
   by_cases hv : inH (t.H.v j)
   ·have V := Lib.hid (fun (W : World) => rFIn_any (t.H.v j) (-2199023255552) 2199023255552 W)
    rw [decide_eq_true (show -2199023255552 ≤ t.H.v j ∧ t.H.v j ≤ 2199023255552 from hv)] at V
    have I2 := Lib.hid (all_nx (P := fun k => inH (t.H.v k)) I.out hv)
    clear I hv NF NA NY
    go_wp2_with fail
    refine (V.out _).mono ?_
    rintro e w1 ⟨rfl, rfl⟩
    go_wp2
    go_roundw
    case rel => exact ⟨j + 1, by omega, by go_num, I2, Q2.out⟩
    case measure => simp [intOf]; omega
   ·have V := Lib.hid (fun (W : World) => rFIn_any (t.H.v j) (-2199023255552) 2199023255552 W)
    rw [decide_eq_false (show ¬ (-2199023255552 ≤ t.H.v j ∧ t.H.v j ≤ 2199023255552) from hv)] at V
    have E := Lib.hid (NF.out (fun k => hv (k.1 j hlt)))
    clear I hv NF NA NY
    go_wp2_with fail
    refine (V.out _).mono ?_
    rintro e w1 ⟨rfl, rfl⟩
    go_wp2
    go_ret
    exact ⟨by rw [← E.out]; rfl, Q2.out.l⟩
  ·have IH := Lib.hid (show ∀ k, k < t.H.n → inH (t.H.v k) from fun k hk => I.out k (by omega))
   clear I NF hj
   go_wp2
   go_loopw [4] (fun i wr => ∃ j : Nat, j ≤ t.H.n ∧ i = .int .i64 j ∧ Hid (∀ k, k < j → adjX t C k ∧ adjY t C R k) ∧ PT w wr B w.heap.size t) (fun i _ => t.H.n - (intOf i).toNat)
   case atStart => exact ⟨0, by omega, rfl, Lib.hid (fun k h => absurd h (by omega)), Q2.out⟩
   case round =>
    obtain ⟨j, hj, rfl, I, hQ⟩ := hrel
    have Q3 := Lib.hid hQ
    clear hQ Q2 c1 c2 c3 c6
    by_cases hlt : j < t.H.n
    ·have z0 : (0 : Int) ≤ (j : Int) := by omega
     have z1 : (j : Int) < (t.H.n : Int) := by omega
     have e1 : Int.tmod (j : Int) (t.cols + 1) = ((j % (C + 1) : Nat) : Int) := by rw [HCo.out]; exact tmodn j (C + 1)
     have e2 : Int.tdiv (j : Int) (t.cols + 1) = ((j / (C + 1) : Nat) : Int) := by rw [HCo.out]; exact tdiv_nat j (C + 1)
     have zc : ¬ t.cols + 1 = 0 := by have := HCo.out; omega
     have zb : 1 ≤ t.cols ∧ t.cols ≤ 64 := by have := HCo.out; omega
     obtain ⟨zb1, zb2⟩ := zb
     have ZC := Lib.hid (fun (m : Nat) => (show m < C ↔ (m : Int) < t.cols by have := HCo.out; omega))
     have ZR := Lib.hid (fun (m : Nat) => (show m < R ↔ (m : Int) < t.rows by have := HRo.out; omega))
     obtain ⟨v0, v1⟩ := IH.out j hlt
     obtain ⟨k0, k1⟩ := hc
     obtain ⟨mj, hmod⟩ : ∃ m, j % (C + 1) = m := ⟨_, rfl⟩
     obtain ⟨dj, hdiv⟩ : ∃ m, j / (C + 1) = m := ⟨_, rfl⟩
     have MX := Lib.hid (fun (h : mj < C) => idx_right HN.out hlt (by rw [hmod]; exact h))
     have MY := Lib.hid (fun (h : dj < R) => idx_up HN.out hlt (by rw [hdiv]; exact h))
     have AX := Lib.hid (show adjX t C j ↔ (mj < C → -t.cell ≤ t.H.v (j + 1) - t.H.v j ∧ t.H.v (j + 1) - t.H.v j ≤ t.cell) by unfold adjX; rw [hmod])
     have AY := Lib.hid (show adjY t C R j ↔ (dj < R → -t.cell ≤ t.H.v (j + C + 1) - t.H.v j ∧ t.H.v (j + C + 1) - t.H.v j ≤ t.cell) by unfold adjY; rw [hdiv])
     rw [hmod] at e1
     rw [hdiv] at e2
     have hdj : dj ≤ j := by rw [← hdiv]; exact Nat.div_le_self _ _
     clear hmod hdiv
     by_cases gx : mj < C
     ·have i1 := MX.out gx
      obtain ⟨jx, hjx⟩ : ∃ u, j + 1 = u := ⟨_, rfl⟩
      rw [hjx] at i1 AX
      have g1 : decide ((mj : Int) < t.cols) = true := decide_eq_true ((ZC.out mj).mp gx)
      have z2 : (jx : Int) < (t.H.n : Int) := by omega
      have z3 : (0 : Int) ≤ (jx : Int) := by omega
      have ex : (j : Int) + 1 = (jx : Int) := by omega
      have HJ := Lib.hid hjx
      obtain ⟨v2, v3⟩ := IH.out jx i1
      obtain ⟨c1, c2, c3, -, -, c6, -, -⟩ := Q3.out.cs
      obtain ⟨b, off, ha, -, hcell⟩ := Q3.out.t.H.at' (by omega)
      rw [ha] at c6
      have d0 := hcell j hlt
      clear ha
      have d1 := hcell jx i1
      by_cases hx : -t.cell ≤ t.H.v jx - t.H.v j ∧ t.H.v jx - t.H.v j ≤ t.cell
      rotate_left
      ·have V := Lib.hid (fun (W : World) => rFIn_any (t.H.v jx - t.H.v j) (-t.cell) t.cell W)
       rw [decide_eq_false hx] at V
       have E := Lib.hid (NA.out j hlt (Or.inl (fun k => hx (AX.out.mp k gx))))
       clear I hx NA NY hcell hjx AX AY
       go_wp2
       go_quiet ((go_at_call 103; exact Calls.quiet_of_same (V.out _)))
       go_wp2
       go_ret
       exact ⟨by rw [← E.out]; rfl, below_drewN Q3.out.l _⟩
      have V := Lib.hid (fun (W : World) => rFIn_any (t.H.v jx - t.H.v j) (-t.cell) t.cell W)
      rw [decide_eq_true hx] at V
      have HX := Lib.hid (AX.out.mpr (fun _ => hx))
      clear hx hcell hjx AX
      go_wp2
      go_quiet ((go_at_call 103; exact Calls.quiet_of_same (V.out _)))
      go_wp2
      clear ex d1 z2 z3 g1 v2 v3
      refine wp_gen (S := fun W => PT w W B w.heap.size t) (by first | exact Q3.out.dn _ | exact Q3.out) (fun W4 hS => ?_)
      have Q4 := Lib.hid hS
      clear hS
      try clear c1 c2 c3 c6 d0
      by_cases gy : dj < R
      ·have i1 := MY.out gy
       obtain ⟨ju, hju⟩ : ∃ u, j + C + 1 = u := ⟨_, rfl⟩
       rw [hju] at i1 AY
       have g1 : decide ((dj : Int) < t.rows) = true := decide_eq_true ((ZR.out dj).mp gy)
       have z2 : (ju : Int) < (t.H.n : Int) := by omega
       have z3 : (0 : Int) ≤ (ju : Int) := by omega
       have ex : (j : Int) + t.cols + 1 = (ju : Int) := by have := HCo.out; omega
       obtain ⟨v2, v3⟩ := IH.out ju i1
       obtain ⟨c1, c2, c3, -, -, c6, -, -⟩ := Q4.out.cs
       obtain ⟨b, off, ha, -, hcell⟩ := Q4.out.t.H.at' (by omega)
       rw [ha] at c6
       have d0 := hcell j hlt
       clear ha
       have d1 := hcell ju i1
       by_cases hx : -t.cell ≤ t.H.v ju - t.H.v j ∧ t.H.v ju - t.H.v j ≤ t.cell
       rotate_left
       ·have V := Lib.hid (fun (W : World) => rFIn_any (t.H.v ju - t.H.v j) (-t.cell) t.cell W)
        rw [decide_eq_false hx] at V
        have E := Lib.hid (NA.out j hlt (Or.inr (fun k => hx (AY.out.mp k gy))))
        clear I hx NA NY hcell hju AY
        go_wp2
        go_quiet ((go_at_call 103; exact Calls.quiet_of_same (V.out _)))
        go_wp2
        go_ret
        exact ⟨by rw [← E.out]; rfl, below_drewN Q4.out.l _⟩
       have V := Lib.hid (fun (W : World) => rFIn_any (t.H.v ju - t.H.v j) (-t.cell) t.cell W)
       rw [decide_eq_true hx] at V
       have HY := Lib.hid (AY.out.mpr (fun _ => hx))
       have I2 := Lib.hid (all_nx (P := fun k => adjX t C k ∧ adjY t C R k) I.out ⟨HX.out, HY.out⟩)
       clear hx hcell hju AY I NA NY
       go_wp2
       go_quiet ((go_at_call 103; exact Calls.quiet_of_same (V.out _)))
       go_wp2
       go_roundw
       case rel => exact ⟨j + 1, by omega, by go_num, I2, Q4.out.dn _⟩
       case measure => simp [intOf]; omega
      ·have HY := Lib.hid (AY.out.mpr (fun k => absurd k gy))
       have g1 : decide ((dj : Int) < t.rows) = false := decide_eq_false (fun k => gy ((ZR.out dj).mpr k))
       have I2 := Lib.hid (all_nx (P := fun k => adjX t C k ∧ adjY t C R k) I.out ⟨HX.out, HY.out⟩)
       obtain ⟨c1, c2, c3, -, -, c6, -, -⟩ := Q4.out.cs
       obtain ⟨b, off, ha, -, hcell⟩ := Q4.out.t.H.at' (by omega)
       rw [ha] at c6
       have d0 := hcell j hlt
       clear ha
       clear hcell AY I NA NY
       go_wp2
       go_quiet (fail)
       go_wp2
       go_roundw
       case rel => exact ⟨j + 1, by omega, by go_num, I2, Q4.out.dn _⟩
       case measure => simp [intOf]; omega
     ·have HX := Lib.hid (AX.out.mpr (fun k => absurd k gx))
      have g1 : decide ((mj : Int) < t.cols) = false := decide_eq_false (fun k => gx ((ZC.out mj).mpr k))
      obtain ⟨c1, c2, c3, -, -, c6, -, -⟩ := Q3.out.cs
      obtain ⟨b, off, ha, -, hcell⟩ := Q3.out.t.H.at' (by omega)
      rw [ha] at c6
      have d0 := hcell j hlt
      clear ha
      clear hcell AX
      go_wp2
      go_quiet (fail)
      go_wp2
      clear g1
      refine wp_gen (S := fun W => PT w W B w.heap.size t) (by first | exact Q3.out.dn _ | exact Q3.out) (fun W4 hS => ?_)
      have Q4 := Lib.hid hS
      clear hS
      try clear c1 c2 c3 c6 d0
      by_cases gy : dj < R
      ·have i1 := MY.out gy
       obtain ⟨ju, hju⟩ : ∃ u, j + C + 1 = u := ⟨_, rfl⟩
       rw [hju] at i1 AY
       have g1 : decide ((dj : Int) < t.rows) = true := decide_eq_true ((ZR.out dj).mp gy)
       have z2 : (ju : Int) < (t.H.n : Int) := by omega
       have z3 : (0 : Int) ≤ (ju : Int) := by omega
       have ex : (j : Int) + t.cols + 1 = (ju : Int) := by have := HCo.out; omega
       obtain ⟨v2, v3⟩ := IH.out ju i1
       obtain ⟨c1, c2, c3, -, -, c6, -, -⟩ := Q4.out.cs
       obtain ⟨b, off, ha, -, hcell⟩ := Q4.out.t.H.at' (by omega)
       rw [ha] at c6
       have d0 := hcell j hlt
       clear ha
       have d1 := hcell ju i1
       by_cases hx : -t.cell ≤ t.H.v ju - t.H.v j ∧ t.H.v ju - t.H.v j ≤ t.cell
       rotate_left
       ·have V := Lib.hid (fun (W : World) => rFIn_any (t.H.v ju - t.H.v j) (-t.cell) t.cell W)
        rw [decide_eq_false hx] at V
        have E := Lib.hid (NA.out j hlt (Or.inr (fun k => hx (AY.out.mp k gy))))
        clear I hx NA NY hcell hju AY
        go_wp2
        go_quiet ((go_at_call 103; exact Calls.quiet_of_same (V.out _)))
        go_wp2
        go_ret
        exact ⟨by rw [← E.out]; rfl, below_drewN Q4.out.l _⟩
       have V := Lib.hid (fun (W : World) => rFIn_any (t.H.v ju - t.H.v j) (-t.cell) t.cell W)
       rw [decide_eq_true hx] at V
       have HY := Lib.hid (AY.out.mpr (fun _ => hx))
       have I2 := Lib.hid (all_nx (P := fun k => adjX t C k ∧ adjY t C R k) I.out ⟨HX.out, HY.out⟩)
       clear hx hcell hju AY I NA NY
       go_wp2
       go_quiet ((go_at_call 103; exact Calls.quiet_of_same (V.out _)))
       go_wp2
       go_roundw
       case rel => exact ⟨j + 1, by omega, by go_num, I2, Q4.out.dn _⟩
       case measure => simp [intOf]; omega
      ·have HY := Lib.hid (AY.out.mpr (fun k => absurd k gy))
       have g1 : decide ((dj : Int) < t.rows) = false := decide_eq_false (fun k => gy ((ZR.out dj).mpr k))
       have I2 := Lib.hid (all_nx (P := fun k => adjX t C k ∧ adjY t C R k) I.out ⟨HX.out, HY.out⟩)
       obtain ⟨c1, c2, c3, -, -, c6, -, -⟩ := Q4.out.cs
       obtain ⟨b, off, ha, -, hcell⟩ := Q4.out.t.H.at' (by omega)
       rw [ha] at c6
       have d0 := hcell j hlt
       clear ha
       clear hcell AY I NA NY
       go_wp2
       go_quiet (fail)
       go_wp2
       go_roundw
       case rel => exact ⟨j + 1, by omega, by go_num, I2, Q4.out.dn _⟩
       case measure => simp [intOf]; omega
    ·obtain ⟨c1, c2, c3, -, -, c6, -, -⟩ := Q3.out.cs
     have E := Lib.hid (NY.out ⟨IH.out, fun k hk => I.out k (by omega)⟩)
     clear I NY
     go_wp2
     go_ret
     exact ⟨by rw [← E.out]; rfl, Q3.out.l⟩
theorem PT.all {w W : World} {B m : Nat} {t : Trk} (Q : PT w W B m t) : W.cell? ⟨m, 0, none⟩ = some (.int .i64 t.rate) ∧ W.cell? ⟨m, 1, none⟩ = some (.int .i64 t.cell) ∧ W.cell? ⟨m, 2, none⟩ = some (.int .i64 t.cols) ∧ W.cell? ⟨m, 3, none⟩ = some (.int .i64 t.rows) ∧ W.cell? ⟨m, 4, none⟩ = some (.int .i64 t.cx) ∧ W.cell? ⟨m, 5, none⟩ = some (.int .i64 t.cy) ∧ W.cell? ⟨m, 6, none⟩ = some (.slice t.H.a t.H.n t.H.c) ∧ W.cell? ⟨m, 7, none⟩ = some (.slice t.G.a t.G.n t.G.c) ∧ W.cell? ⟨m, 8, none⟩ = some (.slice t.ka t.kn t.kc) ∧ W.cell? ⟨m, 9, none⟩ = some (.slice t.la t.ln t.lc) ∧ W.cell? ⟨m, 10, none⟩ = some (.slice t.ra t.rn t.rc) ∧ W.cell? ⟨m, 11, none⟩ = some (.slice t.ga t.gn t.gc) ∧ W.cell? ⟨m, 12, none⟩ = some (.int .i64 t.sx) ∧ W.cell? ⟨m, 13, none⟩ = some (.int .i64 t.sy) ∧ W.cell? ⟨m, 14, none⟩ = some (.int .u32 t.head) ∧ W.cell? ⟨m, 15, none⟩ = some (.int .i64 t.laps) :=
 ⟨Q.c.c 0 _ rfl, Q.c.c 1 _ rfl, Q.c.c 2 _ rfl, Q.c.c 3 _ rfl, Q.c.c 4 _ rfl, Q.c.c 5 _ rfl, Q.c.c 6 _ rfl, Q.c.c 7 _ rfl, Q.c.c 8 _ rfl, Q.c.c 9 _ rfl, Q.c.c 10 _ rfl, Q.c.c 11 _ rfl, Q.c.c 12 _ rfl, Q.c.c 13 _ rfl, Q.c.c 14 _ rfl, Q.c.c 15 _ rfl⟩
theorem PT.bz {w W : World} {B m : Nat} {t : Trk} (Q : PT w W B m t) : B ≤ W.heap.size := by
 have := Q.z
 have := Q.l.size
 omega
def frP (t : Trk) : Prop := (17179869184 ≤ t.cell ∧ t.cell ≤ 274877906944) ∧ (-140737488355328 ≤ t.cx ∧ t.cx ≤ 140737488355328) ∧ (-140737488355328 ≤ t.cy ∧ t.cy ≤ 140737488355328) ∧ hgtP t
instance (t : Trk) : Decidable (frP t) := by unfold frP; exact inferInstance
def grQ (t : Trk) (i : Nat) : Prop := 0 ≤ t.G.v i ∧ t.G.v i < t.kn
instance (t : Trk) (i : Nat) : Decidable (grQ t i) := by unfold grQ; exact inferInstance
def kdQ (t : Trk) (i : Nat) : Prop := (0 ≤ t.kg i ∧ t.kg i ≤ 8589934592) ∧ 0 ≤ t.kd i ∧ t.kd i ≤ 4294967296
instance (t : Trk) (i : Nat) : Decidable (kdQ t i) := by unfold kdQ; exact inferInstance
def allP (t : Trk) : Prop := frP t ∧ (∀ i, i < t.G.n → grQ t i) ∧ ∀ i, i < t.kn → kdQ t i
instance (t : Trk) : Decidable (allP t) := by unfold allP; exact inferInstance
def rightFd (t : Trk) : Int := if cntP t then if allP t then 0 else 40 else 42
set_option maxRecDepth 100000 in
set_option maxHeartbeats 8000000 in
theorem rFRight_any (t : Trk) (B : Nat) (w : World) (hB : B ≤ w.heap.size) (K : TrkM B w t) :
  Calls Tryz.prog 56 #[.agg #[.int .i64 t.rate, .int .i64 t.cell, .int .i64 t.cols, .int .i64 t.rows, .int .i64 t.cx, .int .i64 t.cy, .slice t.H.a t.H.n t.H.c, .slice t.G.a t.G.n t.G.c, .slice t.ka t.kn t.kc, .slice t.la t.ln t.lc, .slice t.ra t.rn t.rc, .slice t.ga t.gn t.gc, .int .i64 t.sx, .int .i64 t.sy, .int .u32 t.head, .int .i64 t.laps]] w fun e w' => e = .returned (.int .i64 (rightFd t)) ∧ Below w.heap.size w w' := by
 have Q0 := Lib.hid (PT.new 34 K hB)
 have VC := Lib.hid (fun (W : World) (Q : PT w W B w.heap.size t) => rFCounts_any t B W Q.bz Q.t)
 obtain ⟨q, hq⟩ : ∃ q, rightFd t = q := ⟨_, rfl⟩
 rw [hq]
 have HQ := Lib.hid hq
 clear hq K
 by_cases hc : cntP t
 rotate_left
 ·have E := Lib.hid (show 42 = q by rw [← HQ.out]; unfold rightFd; rw [if_neg hc])
  rw [decide_eq_false hc] at VC
  clear hc
  go_enter Tryz.func56, Tryz.ntmps56
  go_wp2_with fail
  refine calls_gen (S := fun W => PT w W B w.heap.size t) Q0.out (fun W1 hS => ?_)
  have Q1 := Lib.hid hS
  clear hS Q0
  refine (VC.out _ Q1.out).mono ?_
  rintro e w1 ⟨rfl, h⟩
  have Q2 := Lib.hid (Q1.out.step h)
  clear h Q1 VC
  go_wp2
  go_ret
  exact ⟨retI E.out, Q2.out.l⟩
 have NA := Lib.hid (show ¬ allP t → 40 = q from fun k => by rw [← HQ.out]; unfold rightFd; rw [if_pos hc, if_neg k])
 have NY := Lib.hid (show allP t → 0 = q from fun k => by rw [← HQ.out]; unfold rightFd; rw [if_pos hc, if_pos k])
 rw [decide_eq_true hc] at VC
 obtain ⟨⟨m1, m2⟩, hn, hg, k1, k8⟩ := hc
 obtain ⟨C, hC⟩ : ∃ C : Nat, t.cols = (C : Int) := ⟨t.cols.toNat, by omega⟩
 obtain ⟨R, hR⟩ : ∃ C : Nat, t.rows = (C : Int) := ⟨t.rows.toNat, by omega⟩
 have hG := mul_64 (a := t.cols) (b := t.rows) (by omega) (by omega) (by omega) (by omega)
 rw [← hg] at hG
 have hn' : t.H.n = (C + 1) * (R + 1) := by
  rw [hC, hR] at hn
  exact_mod_cast hn
 have VH := Lib.hid (fun (W : World) (Q : PT w W B w.heap.size t) (s : 17179869184 ≤ t.cell ∧ t.cell ≤ 274877906944) => rFHeights_any t C R B W Q.bz hC hR (by omega) (by omega) hn' s Q.t)
 clear hn' hn hg hC hR m1 m2 HQ
 obtain ⟨hG0, hG1⟩ := hG
 go_enter Tryz.func56, Tryz.ntmps56
 go_wp2_with fail
 refine calls_gen (S := fun W => PT w W B w.heap.size t) Q0.out (fun W1 hS => ?_)
 have Q1 := Lib.hid hS
 clear hS Q0
 refine (VC.out _ Q1.out).mono ?_
 rintro e w1 ⟨rfl, h⟩
 have Q2 := Lib.hid (Q1.out.step h)
 clear h Q1 VC
 obtain ⟨q0, q1, q2, q3, q4, q5, q6, q7, q8, q9, qa, qb, qc, qd, qe, qf⟩ := Q2.out.all
 go_wp2_with fail
 by_cases s1 : 17179869184 ≤ t.cell ∧ t.cell ≤ 274877906944
 rotate_left
 ·skip
  have V := Lib.hid (fun (W : World) => rFIn_any t.cell 17179869184 274877906944 W)
  rw [decide_eq_false s1] at V
  have E := Lib.hid (NA.out (fun k => s1 k.1.1))
  clear NA NY
  refine (V.out _).mono ?_
  rintro e v1 ⟨rfl, rfl⟩
  go_wp2
  go_ret
  exact ⟨retI E.out, Q2.out.l⟩
 have V := Lib.hid (fun (W : World) => rFIn_any t.cell 17179869184 274877906944 W)
 rw [decide_eq_true s1] at V
 refine (V.out _).mono ?_
 rintro e v1 ⟨rfl, rfl⟩
 clear V
 go_wp2_with fail
 by_cases s2 : -140737488355328 ≤ t.cx ∧ t.cx ≤ 140737488355328
 rotate_left
 ·skip
  have V := Lib.hid (fun (W : World) => rFIn_any t.cx (-140737488355328) 140737488355328 W)
  rw [decide_eq_false s2] at V
  have E := Lib.hid (NA.out (fun k => s2 k.1.2.1))
  clear NA NY
  refine (V.out _).mono ?_
  rintro e v1 ⟨rfl, rfl⟩
  go_wp2
  go_ret
  exact ⟨retI E.out, Q2.out.l⟩
 have V := Lib.hid (fun (W : World) => rFIn_any t.cx (-140737488355328) 140737488355328 W)
 rw [decide_eq_true s2] at V
 refine (V.out _).mono ?_
 rintro e v1 ⟨rfl, rfl⟩
 clear V
 go_wp2_with fail
 by_cases s3 : -140737488355328 ≤ t.cy ∧ t.cy ≤ 140737488355328
 rotate_left
 ·skip
  have V := Lib.hid (fun (W : World) => rFIn_any t.cy (-140737488355328) 140737488355328 W)
  rw [decide_eq_false s3] at V
  have E := Lib.hid (NA.out (fun k => s3 k.1.2.2.1))
  clear NA NY
  refine (V.out _).mono ?_
  rintro e v1 ⟨rfl, rfl⟩
  go_wp2
  go_ret
  exact ⟨retI E.out, Q2.out.l⟩
 have V := Lib.hid (fun (W : World) => rFIn_any t.cy (-140737488355328) 140737488355328 W)
 rw [decide_eq_true s3] at V
 refine (V.out _).mono ?_
 rintro e v1 ⟨rfl, rfl⟩
 clear V
 go_wp2_with fail
 by_cases s4 : hgtP t
 rotate_left
 ·rw [decide_eq_false s4] at VH
  have E := Lib.hid (NA.out (fun k => s4 k.1.2.2.2))
  clear NA NY
  refine (VH.out _ Q2.out s1).mono ?_
  rintro e w3 ⟨rfl, h⟩
  have Q3 := Lib.hid (Q2.out.step h)
  clear h Q2 VH
  go_wp2
  go_ret
  exact ⟨retI E.out, Q3.out.l⟩
 rw [decide_eq_true s4] at VH
 have FR := Lib.hid (show frP t from ⟨s1, s2, s3, s4⟩)
 refine (VH.out _ Q2.out s1).mono ?_
 rintro e w3 ⟨rfl, h⟩
 have Q3 := Lib.hid (Q2.out.step h)
 clear h Q2 VH s1 s2 s3 s4 q0 q1 q2 q3 q4 q5 q6 q7 q8 q9 qa qb qc qd qe qf
 have g0 : (1 : Int) ≤ (t.kn : Int) := by omega
 have g8 : (t.kn : Int) ≤ 8 := by omega
 go_wp2
 go_loopw [3] (fun i wr => ∃ j : Nat, j ≤ t.G.n ∧ i = .int .i64 j ∧ Hid (∀ k, k < j → grQ t k) ∧ PT w wr B w.heap.size t) (fun i _ => t.G.n - (intOf i).toNat)
 case atStart => exact ⟨0, by omega, rfl, Lib.hid (fun k h => absurd h (by omega)), Q3.out⟩
 case round =>
  obtain ⟨j, hj, rfl, I, hQ⟩ := hrel
  have Q4 := Lib.hid hQ
  clear hQ Q3
  obtain ⟨-, -, -, -, -, -, c7, c8⟩ := Q4.out.cs
  by_cases hlt : j < t.G.n
  ·obtain ⟨b, off, ha, hb, hcell⟩ := Q4.out.t.G.at' (by omega)
   have d0 := hcell j hlt
   rw [ha] at c7
   have z0 : (0 : Int) ≤ (j : Int) := by omega
   have z1 : (j : Int) < (t.G.n : Int) := by omega
   clear hcell hb ha
   have NB := Lib.hid (fun (h : ¬ grQ t j) => NA.out (fun k => h (k.2.1 j hlt)))
   by_cases v0 : t.G.v j < 0
   ·have E := Lib.hid (NB.out (fun k => by have := k.1; omega))
    clear I NA NY NB
    go_wp2
    go_quiet (fail)
    go_wp2
    go_ret
    exact ⟨retI E.out, below_drewN Q4.out.l _⟩
   by_cases v1 : t.G.v j < (t.kn : Int)
   rotate_left
   ·have E := Lib.hid (NB.out (fun k => v1 k.2))
    clear I NA NY NB
    go_wp2
    go_quiet (fail)
    go_wp2
    go_ret
    exact ⟨retI E.out, below_drewN Q4.out.l _⟩
   have I2 := Lib.hid (all_nx (P := fun k => grQ t k) I.out ⟨by omega, v1⟩)
   clear I NA NY NB
   go_wp2
   go_quiet (fail)
   go_wp2
   go_roundw
   case rel => exact ⟨j + 1, by omega, by go_num, I2, Q4.out.dn _⟩
   case measure => simp [intOf]; omega
  ·have GR := Lib.hid (show ∀ k, k < t.G.n → grQ t k from fun k hk => I.out k (by omega))
   clear I
   have z1 : ¬ (j : Int) < (t.G.n : Int) := by omega
   go_wp2
   clear c7 c8 z1
   go_loopw [4] (fun i wr => ∃ j : Nat, j ≤ t.kn ∧ i = .int .i64 j ∧ Hid (∀ k, k < j → kdQ t k) ∧ PT w wr B w.heap.size t) (fun i _ => t.kn - (intOf i).toNat)
   case atStart => exact ⟨0, by omega, rfl, Lib.hid (fun k h => absurd h (by omega)), Q4.out⟩
   case round =>
    obtain ⟨j, hj, rfl, I, hQ⟩ := hrel
    have Q5 := Lib.hid hQ
    clear hQ Q4
    obtain ⟨-, -, -, -, -, -, c7, c8⟩ := Q5.out.cs
    by_cases hlt : j < t.kn
    ·obtain ⟨b, off, ha, hb, hcell⟩ := Q5.out.t.k (by omega)
     obtain ⟨d0, d1, d2⟩ := hcell j hlt
     rw [ha] at c8
     have z0 : (0 : Int) ≤ (j : Int) := by omega
     have z1 : (j : Int) < (t.kn : Int) := by omega
     clear hcell hb ha
     have NB := Lib.hid (fun (h : ¬ kdQ t j) => NA.out (fun k => h (k.2.2 j hlt)))
     have N0 := Lib.hid NY.out
     clear NA NY
     have NA := NB
     have NY := N0
     clear NB N0
     go_wp2_with fail
     by_cases s1 : 0 ≤ t.kg j ∧ t.kg j ≤ 8589934592
     rotate_left
     ·skip
      have V := Lib.hid (fun (W : World) => rFIn_any (t.kg j) 0 8589934592 W)
      rw [decide_eq_false s1] at V
      have E := Lib.hid (NA.out (fun k => s1 k.1))
      clear NA NY
      refine (V.out _).mono ?_
      rintro e v1 ⟨rfl, rfl⟩
      go_wp2
      go_ret
      exact ⟨retI E.out, Q5.out.l⟩
     have V := Lib.hid (fun (W : World) => rFIn_any (t.kg j) 0 8589934592 W)
     rw [decide_eq_true s1] at V
     refine (V.out _).mono ?_
     rintro e v1 ⟨rfl, rfl⟩
     clear V
     go_wp2_with fail
     by_cases s2 : 0 ≤ t.kd j ∧ t.kd j ≤ 4294967296
     rotate_left
     ·skip
      have V := Lib.hid (fun (W : World) => rFIn_any (t.kd j) 0 4294967296 W)
      rw [decide_eq_false s2] at V
      have E := Lib.hid (NA.out (fun k => s2 k.2))
      clear NA NY
      refine (V.out _).mono ?_
      rintro e v1 ⟨rfl, rfl⟩
      go_wp2
      go_ret
      exact ⟨retI E.out, Q5.out.l⟩
     have V := Lib.hid (fun (W : World) => rFIn_any (t.kd j) 0 4294967296 W)
     rw [decide_eq_true s2] at V
     refine (V.out _).mono ?_
     rintro e v1 ⟨rfl, rfl⟩
     clear V
     have I2 := Lib.hid (all_nx (P := fun k => kdQ t k) I.out ⟨s1, s2⟩)
     clear I NA NY s1 s2
     go_wp2
     go_roundw
     case rel => exact ⟨j + 1, by omega, by go_num, I2, Q5.out⟩
     case measure => simp [intOf]; omega
    ·have E := Lib.hid (NY.out ⟨FR.out, GR.out, fun k hk => I.out k (by omega)⟩)
     clear I NA NY
     have z1 : ¬ (j : Int) < (t.kn : Int) := by omega
     go_wp2
     go_ret
     exact ⟨retI E.out, Q5.out.l⟩
def okC (t : Trk) (c r : Int) : Prop := (0 ≤ c ∧ c < t.cols) ∧ 0 ≤ r ∧ r < t.rows
instance (t : Trk) (c r : Int) : Decidable (okC t c r) := by unfold okC; exact inferInstance
def atC (t : Trk) (c r : Int) : Nat := (r * (t.cols + 1) + c).toNat
def baseFd (t : Trk) (c r : Int) : Int := if okC t c r then t.H.v (atC t c r) else 0
end Go.Proofs.YtmdjnamkbekjkaaGreatDoor

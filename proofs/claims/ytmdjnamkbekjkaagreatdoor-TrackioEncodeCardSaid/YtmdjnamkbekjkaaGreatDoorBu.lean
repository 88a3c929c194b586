/- -/
import Derived.Test.YtmdjnamkbekjkaaGreatDoorBd
import Derived.Test.YtmdjnamkbekjkaaGreatDoorBx
import Derived.Test.YtmdjnamkbekjkaaGreatDoorBp
import Derived.Test.YtmdjnamkbekjkaaGreatDoorBt
import Derived.Deep.QuietTactic
import Derived.BigQuiet
namespace Go.Proofs.YtmdjnamkbekjkaaGreatDoor
open Go.RowKit
set_option linter.unusedVariables false
set_option linter.unusedSimpArgs false
structure FX (lo top : Nat) (W : World) (f hb gb hc gc : Nat) (t : Trk) : Prop where
 b : BW W f [.int .i64 t.cell, .int .i64 t.cols, .int .i64 t.rows, .int .i64 t.cx, .int .i64 t.cy, .slice (some ⟨hb, 0, none⟩) t.H.n hc, .slice (some ⟨gb, 0, none⟩) t.G.n gc]
 l : lo ≤ f ∧ f < top ∧ top ≤ W.heap.size
 lh : lo ≤ hb ∧ hb < top
 lg : lo ≤ gb ∧ gb < top
 h : ∀ i, i < t.H.n → W.cell? ⟨hb, i, none⟩ = some (.int .i64 (t.H.v i))
 g : ∀ i, i < t.G.n → W.cell? ⟨gb, i, none⟩ = some (.int .i64 (t.G.v i))
 r : cntP t ∧ frP t
theorem FX.keep {lo top : Nat} {W W' : World} {f hb gb hc gc : Nat} {t : Trk} (F : FX lo top W f hb gb hc gc t) (hs : W.heap.size ≤ W'.heap.size) (k : ∀ j, lo ≤ j → j < top → W'.heap[j]? = W.heap[j]?) : FX lo top W' f hb gb hc gc t :=
 ⟨⟨fun i v e => (World.cell?_of_block (w := W) (a := ⟨f, i, none⟩) (k f F.l.1 F.l.2.1)).trans (F.b.c i v e), fun j => (World.frozen?_of_block (w := W) (a := ⟨f, j, none⟩) (k f F.l.1 F.l.2.1)).trans (F.b.f j), by have := F.b.lt; omega⟩,
  ⟨F.l.1, F.l.2.1, by have := F.l.2.2; omega⟩, F.lh, F.lg,
  fun i hi => (World.cell?_of_block (w := W) (a := ⟨hb, i, none⟩) (k hb F.lh.1 F.lh.2)).trans (F.h i hi),
  fun i hi => (World.cell?_of_block (w := W) (a := ⟨gb, i, none⟩) (k gb F.lg.1 F.lg.2)).trans (F.g i hi), F.r⟩
theorem FX.step {lo top : Nat} {W W' : World} {f hb gb hc gc : Nat} {t : Trk} (F : FX lo top W f hb gb hc gc t) (h : Below W.heap.size W W') : FX lo top W' f hb gb hc gc t :=
 F.keep h.size (fun j _ h2 => h.block j (by have := F.l.2.2; omega))
theorem FX.fx {lo top : Nat} {W W' : World} {f hb gb hc gc b k : Nat} {q : Bool} {t : Trk} (F : FX lo top W f hb gb hc gc t) (h : FxW W.heap.size W b k q W') (e : b < lo ∨ top ≤ b) : FX lo top W' f hb gb hc gc t :=
 F.keep h.size (fun j h1 h2 => (fx_grown h).block j (by have := F.l.2.2; omega) (fun c => by injection c with c; omega))
theorem FX.cs {lo top : Nat} {W : World} {f hb gb hc gc : Nat} {t : Trk} (F : FX lo top W f hb gb hc gc t) : W.cell? ⟨f, 0, none⟩ = some (.int .i64 t.cell) ∧ W.cell? ⟨f, 1, none⟩ = some (.int .i64 t.cols) ∧ W.cell? ⟨f, 2, none⟩ = some (.int .i64 t.rows) ∧ W.cell? ⟨f, 3, none⟩ = some (.int .i64 t.cx) ∧ W.cell? ⟨f, 4, none⟩ = some (.int .i64 t.cy) ∧
  W.cell? ⟨f, 5, none⟩ = some (.slice (some ⟨hb, 0, none⟩) t.H.n hc) ∧ W.cell? ⟨f, 6, none⟩ = some (.slice (some ⟨gb, 0, none⟩) t.G.n gc) :=
 ⟨F.b.c 0 _ rfl, F.b.c 1 _ rfl, F.b.c 2 _ rfl, F.b.c 3 _ rfl, F.b.c 4 _ rfl, F.b.c 5 _ rfl, F.b.c 6 _ rfl⟩
structure FS (w : World) (lo top : Nat) (W : World) (f hb gb hc gc : Nat) (t : Trk) : Prop where
 p : FX lo top W f hb gb hc gc t
 l : Below w.heap.size w W
theorem FS.step {w W W' : World} {lo top f hb gb hc gc : Nat} {t : Trk} (S : FS w lo top W f hb gb hc gc t) (h : Below W.heap.size W W') : FS w lo top W' f hb gb hc gc t :=
 ⟨S.p.step h, S.l.trans (h.mono S.l.size)⟩
theorem PT.under {w W W' : World} {B C m : Nat} {t : Trk} (Q : PT w W B m t) (h : Below C W W') (hm : m < C) (hw : w.heap.size ≤ C) : PT w W' B m t :=
 ⟨Q.c.below h hm, Q.l.trans (h.mono hw), Q.t.keep h (by have := Q.z; omega), Q.z⟩
set_option maxHeartbeats 4000000 in
theorem fShaped_any (t : Trk) (B : Nat) (w : World) (hB : B ≤ w.heap.size) (K : TrkM B w t) :
  Calls Tryz.prog 150 #[.agg #[.int .i64 t.rate, .int .i64 t.cell, .int .i64 t.cols, .int .i64 t.rows, .int .i64 t.cx, .int .i64 t.cy, .slice t.H.a t.H.n t.H.c, .slice t.G.a t.G.n t.G.c, .slice t.ka t.kn t.kc, .slice t.la t.ln t.lc, .slice t.ra t.rn t.rc, .slice t.ga t.gn t.gc, .int .i64 t.sx, .int .i64 t.sy, .int .u32 t.head, .int .i64 t.laps]] w fun e w' => e = .returned (.bool (decide (cntP t))) ∧ Below w.heap.size w w' := by
 have Q0 := Lib.hid (PT.new 34 K hB)
 obtain ⟨q, hq⟩ : ∃ q, decide (cntP t) = q := ⟨_, rfl⟩
 rw [hq]
 have NF := Lib.hid (fun (h : ¬ cntP t) => (show false = q by rw [← hq]; exact (decide_eq_false h).symm))
 have NY := Lib.hid (fun (h : cntP t) => (show true = q by rw [← hq]; exact (decide_eq_true h).symm))
 clear hq K
 go_enter Tryz.func150, Tryz.ntmps150
 go_wp2_with fail
 refine calls_gen (S := fun W => PT w W B w.heap.size t ∧ (W.cell? ⟨w.heap.size + 1, 0, none⟩ = some (.int .i64 t.cols) ∧ W.cell? ⟨w.heap.size + 1, 1, none⟩ = some (.int .i64 t.rows)) ∧ w.heap.size + 1 < W.heap.size) ⟨Q0.out.step ((Below.refl _ _).alloc (Nat.le_refl _) _), ⟨by go_simp, by go_simp⟩, by simp⟩ (fun W1 hS => ?_)
 have Q1 := Lib.hid hS.1
 refine (fWithinI_any _ 2 2 (fun i => if i = 0 then t.cols else t.rows) 1 64 _ (by omega) (Lie.two hS.2.1.1 hS.2.1.2 hS.2.2)).mono ?_
 rintro e x1 ⟨rfl, rfl⟩
 rw [allW_two]
 clear hS Q0
 by_cases s1 : (1 ≤ t.cols ∧ t.cols ≤ 64) ∧ 1 ≤ t.rows ∧ t.rows ≤ 64
 rotate_left
 ·rw [decide_eq_false s1]
  have E := Lib.hid (NF.out (fun k => s1 k.1))
  clear NF NY s1
  go_wp2
  go_ret
  exact ⟨by rw [← E.out]; rfl, Q1.out.l⟩
 rw [decide_eq_true s1]
 obtain ⟨-, c2, c3, -, -, c6, c7, c8⟩ := Q1.out.cs
 have p1 := mul_64 (a := t.cols + 1) (b := t.rows + 1) (by omega) (by omega) (by omega) (by omega)
 have p2 := mul_64 (a := t.cols) (b := t.rows) (by omega) (by omega) (by omega) (by omega)
 obtain ⟨P, hP⟩ : ∃ P, (t.cols + 1) * (t.rows + 1) = P := ⟨_, rfl⟩
 obtain ⟨R, hR⟩ : ∃ P, t.cols * t.rows = P := ⟨_, rfl⟩
 have HP := Lib.hid hP
 have HR := Lib.hid hR
 rw [hP] at p1
 rw [hR] at p2
 obtain ⟨u1, v1⟩ := wrap_in' (n := P) (by unfold In64; omega)
 obtain ⟨u2, v2⟩ := wrap_in' (n := R) (by unfold In64; omega)
 obtain ⟨u3, v3⟩ := wrap_in' (n := t.cols + 1) (by unfold In64; omega)
 obtain ⟨u4, v4⟩ := wrap_in' (n := t.rows + 1) (by unfold In64; omega)
 have S1 := Lib.hid s1
 obtain ⟨⟨a1, a2⟩, a3, a4⟩ := s1
 by_cases s5 : (t.H.n : Int) = P
 rotate_left
 ·have E := Lib.hid (NF.out (fun k => s5 (k.2.1.trans HP.out)))
  clear NF NY
  go_wp2
  go_ret
  exact ⟨by rw [← E.out]; rfl, Q1.out.l⟩
 by_cases s6 : (t.G.n : Int) = R
 rotate_left
 ·have E := Lib.hid (NF.out (fun k => s6 (k.2.2.1.trans HR.out)))
  clear NF NY
  go_wp2
  go_ret
  exact ⟨by rw [← E.out]; rfl, Q1.out.l⟩
 go_wp2_with fail
 refine calls_gen (S := fun W => PT w W B w.heap.size t ∧ W.cell? ⟨x1.heap.size, 0, none⟩ = some (.int .i64 t.kn) ∧ x1.heap.size < W.heap.size) ⟨Q1.out.step ((Below.refl _ _).alloc (Nat.le_refl _) _), by go_simp, by simp⟩ (fun W2 hS => ?_)
 have Q2 := Lib.hid hS.1
 refine (fWithinI_any _ 1 1 (fun _ => t.kn) 1 8 _ (by omega) (Lie.one hS.2.1 hS.2.2)).mono ?_
 rintro e x2 ⟨rfl, rfl⟩
 rw [allW_one]
 clear hS Q1
 by_cases s7 : (1 : Int) ≤ t.kn ∧ (t.kn : Int) ≤ 8
 rotate_left
 ·rw [decide_eq_false s7]
  have E := Lib.hid (NF.out (fun k => s7 ⟨by have := k.2.2.2.1; omega, by have := k.2.2.2.2; omega⟩))
  clear NF NY
  go_wp2
  go_ret
  exact ⟨by rw [← E.out]; rfl, Q2.out.l⟩
 rw [decide_eq_true s7]
 have E := Lib.hid (NY.out ⟨S1.out, s5.trans HP.out.symm, s6.trans HR.out.symm, by omega, by omega⟩)
 clear NF NY
 go_wp2
 go_ret
 exact ⟨by rw [← E.out]; rfl, Q2.out.l⟩
structure KTr (w W : World) (B : Nat) (t : Trk) : Prop where
 t : TrkM B W t
 l : Below w.heap.size w W
 z : B ≤ w.heap.size
theorem KTr.step {w W W' : World} {B : Nat} {t : Trk} (Q : KTr w W B t) (h : Below W.heap.size W W') : KTr w W' B t := ⟨Q.t.keep h (by have := Q.z; have := Q.l.size; omega), Q.l.trans (h.mono Q.l.size), Q.z⟩
set_option maxHeartbeats 4000000 in
theorem fFair_any (t : Trk) (B : Nat) (w : World) (hB : B ≤ w.heap.size) (hk : t.kn ≤ 100) (K : TrkM B w t) :
  Calls Tryz.prog 162 #[.slice t.ka t.kn t.kc] w fun e w' => e = .returned (.bool (decide (∀ i, i < t.kn → kdQ t i))) ∧ Below w.heap.size w w' := by
 have Q0 := Lib.hid (KTr.mk (w := w) K (Below.refl _ _) hB)
 obtain ⟨q, hq⟩ : ∃ q, decide (∀ i, i < t.kn → kdQ t i) = q := ⟨_, rfl⟩
 rw [hq]
 have NF := Lib.hid (fun (h : ¬ ∀ i, i < t.kn → kdQ t i) => (show false = q by rw [← hq]; exact (decide_eq_false h).symm))
 have NY := Lib.hid (fun (h : ∀ i, i < t.kn → kdQ t i) => (show true = q by rw [← hq]; exact (decide_eq_true h).symm))
 clear hq K hB
 go_enter Tryz.func162, Tryz.ntmps162
 go_wp2
 go_loopw [7] (fun i wr => ∃ j : Nat, j ≤ t.kn ∧ i = .int .i64 j ∧ Hid (∀ k, k < j → kdQ t k) ∧ KTr w wr B t) (fun i _ => t.kn - (intOf i).toNat)
 case atStart => exact ⟨0, by omega, rfl, Lib.hid (fun k h => absurd h (by omega)), Q0.out⟩
 case round =>
  obtain ⟨j, hj, rfl, I, hQ⟩ := hrel
  have Q1 := Lib.hid hQ
  clear hQ Q0
  by_cases hlt : j < t.kn
  ·obtain ⟨b, off, ha, hb, hcell⟩ := Q1.out.t.k (by omega)
   obtain ⟨d0, d1, d2⟩ := hcell j hlt
   have z0 : (0 : Int) ≤ (j : Int) := by omega
   have z1 : (j : Int) < (t.kn : Int) := by omega
   have NB := Lib.hid (fun (h : ¬ kdQ t j) => NF.out (fun k => h (k j hlt)))
   rw [ha]
   clear hcell hb ha NF
   go_wp2_with fail
   refine calls_gen (S := fun W => KTr w W B t ∧ BW W wr.heap.size [.int .i64 (t.kg j), .int .i64 (t.kd j), .bool (t.ko j)] ∧ W.cell? ⟨wr.heap.size + 1, 0, none⟩ = some (.int .i64 (t.kg j)) ∧ wr.heap.size + 1 < W.heap.size) ⟨(Q1.out.step ((Below.refl _ _).alloc (Nat.le_refl _) _)).step ((Below.refl _ _).alloc (Nat.le_refl _) _), (BW.new wr _ [_, _, _] _ rfl).alloc _, by go_simp, by simp⟩ (fun W1 hS => ?_)
   have Q2 := Lib.hid hS.1
   have A2 := Lib.hid hS.2.1
   refine (fWithinF_any _ 1 1 (fun _ => t.kg j) 0 8589934592 _ (by omega) (Lie.one hS.2.2.1 hS.2.2.2)).mono ?_
   rintro e x1 ⟨rfl, rfl⟩
   rw [allW_one]
   clear hS Q1 d0 d1 d2
   generalize wr.heap.size = n1 at *
   by_cases s1 : 0 ≤ t.kg j ∧ t.kg j ≤ 8589934592
   rotate_left
   ·rw [decide_eq_false s1]
    have E := Lib.hid (NB.out (fun k => s1 k.1))
    clear NB NY s1 I
    go_wp2
    go_ret
    exact ⟨by rw [← E.out]; rfl, Q2.out.l⟩
   rw [decide_eq_true s1]
   have a1 := A2.out.c 1 _ rfl
   go_wp2_with fail
   refine calls_gen (S := fun W => KTr w W B t ∧ W.cell? ⟨x1.heap.size, 0, none⟩ = some (.int .i64 (t.kd j)) ∧ x1.heap.size < W.heap.size) ⟨Q2.out.step ((Below.refl _ _).alloc (Nat.le_refl _) _), by go_simp, by simp⟩ (fun W2 hS => ?_)
   have Q3 := Lib.hid hS.1
   refine (fWithinF_any _ 1 1 (fun _ => t.kd j) 0 4294967296 _ (by omega) (Lie.one hS.2.1 hS.2.2)).mono ?_
   rintro e x2 ⟨rfl, rfl⟩
   rw [allW_one]
   clear hS Q2 a1 A2
   by_cases s2 : 0 ≤ t.kd j ∧ t.kd j ≤ 4294967296
   rotate_left
   ·rw [decide_eq_false s2]
    have E := Lib.hid (NB.out (fun k => s2 k.2))
    clear NB NY s1 s2 I
    go_wp2
    go_ret
    exact ⟨by rw [← E.out]; rfl, Q3.out.l⟩
   rw [decide_eq_true s2]
   have I2 := Lib.hid (all_nx (P := fun k => kdQ t k) I.out ⟨s1, s2⟩)
   clear I NB NY s1 s2
   go_wp2
   go_roundw
   case rel => exact ⟨j + 1, by omega, by go_num, I2, Q3.out⟩
   case measure => simp [intOf]; omega
  ·have E := Lib.hid (NY.out (fun k hk => I.out k (by omega)))
   have z1 : ¬ (j : Int) < (t.kn : Int) := by omega
   clear I NF NY
   go_wp2
   go_ret
   exact ⟨by rw [← E.out]; rfl, Q1.out.l⟩
def dif1 (t : Trk) (C i : Nat) : List Int := if (i + 1) % (C + 1) = 0 then [] else [t.H.v (i + 1) - t.H.v i]
def dif2 (t : Trk) (C i : Nat) : List Int := if i + (C + 1) < t.H.n then [t.H.v (i + (C + 1)) - t.H.v i] else []
def difL (t : Trk) (C : Nat) : Nat → List Int
 | 0 => []
 | j + 1 => difL t C j ++ dif1 t C j ++ dif2 t C j
theorem difL_len (t : Trk) (C : Nat) : ∀ j, (difL t C j).length ≤ 2 * j
 | 0 => Nat.le_refl _
 | j + 1 => by
  have h := difL_len t C j
  show (difL t C j ++ dif1 t C j ++ dif2 t C j).length ≤ _
  rw [List.length_append, List.length_append]
  have h1 : (dif1 t C j).length ≤ 1 := by unfold dif1; split <;> simp
  have h2 : (dif2 t C j).length ≤ 1 := by unfold dif2; split <;> simp
  omega
theorem mod_succ {C i : Nat} (hC : 1 ≤ C) : (i + 1) % (C + 1) = 0 ↔ ¬ i % (C + 1) < C := by
 have h := Nat.mod_lt i (show C + 1 > 0 by omega)
 have e := Nat.add_mod i 1 (C + 1)
 rw [Nat.mod_eq_of_lt (show 1 < C + 1 by omega)] at e
 rcases Nat.lt_or_ge (i % (C + 1)) C with l | l
 ·rw [Nat.mod_eq_of_lt (show i % (C + 1) + 1 < C + 1 by omega)] at e
  omega
 ·have : i % (C + 1) = C := by omega
  rw [this, Nat.mod_self] at e
  omega
theorem div_row {C R i n : Nat} (hn : n = (C + 1) * (R + 1)) (hi : i < n) : i + (C + 1) < n ↔ i / (C + 1) < R := by
 constructor
 ·intro h
  apply Classical.byContradiction; intro c
  have e := Nat.div_add_mod i (C + 1)
  have h2 := Nat.mul_le_mul_left (C + 1) (show R ≤ i / (C + 1) by omega)
  rw [hn, Nat.mul_add, Nat.mul_one] at h
  omega
 ·intro h
  have := idx_up hn hi h
  omega
theorem dif_all (t : Trk) (C R : Nat) (hC : 1 ≤ C) (hn : t.H.n = (C + 1) * (R + 1)) : ∀ j, j ≤ t.H.n → ((∀ x ∈ difL t C j, -t.cell ≤ x ∧ x ≤ t.cell) ↔ ∀ i, i < j → adjX t C i ∧ adjY t C R i)
 | 0, _ => ⟨fun _ i h => absurd h (by omega), fun _ x h => by cases h⟩
 | j + 1, hj => by
  have ih := dif_all t C R hC hn j (by omega)
  have hx : (∀ x ∈ dif1 t C j, -t.cell ≤ x ∧ x ≤ t.cell) ↔ adjX t C j := by
   unfold dif1 adjX
   have m := mod_succ (C := C) (i := j) hC
   by_cases h : (j + 1) % (C + 1) = 0
   ·rw [if_pos h]
    exact ⟨fun _ k => absurd k (m.mp h), fun _ x k => by cases k⟩
   ·rw [if_neg h]
    have l : j % (C + 1) < C := Classical.byContradiction fun k => h (m.mpr k)
    exact ⟨fun k _ => k _ (by simp), fun k x hx => by simp at hx; subst hx; exact k l⟩
  have hy : (∀ x ∈ dif2 t C j, -t.cell ≤ x ∧ x ≤ t.cell) ↔ adjY t C R j := by
   unfold dif2 adjY
   have m := div_row hn (show j < t.H.n by omega)
   by_cases h : j + (C + 1) < t.H.n
   ·rw [if_pos h]
    exact ⟨fun k _ => k _ (by simp; rfl), fun k x hx => by simp at hx; subst hx; exact k (m.mp h)⟩
   ·rw [if_neg h]
    exact ⟨fun _ k => absurd (m.mpr k) h, fun _ x k => by cases k⟩
  constructor
  ·intro h i hi
   rcases Nat.lt_or_ge i j with l | l
   ·exact ih.mp (fun x hx => h x (by show x ∈ difL t C j ++ dif1 t C j ++ dif2 t C j; simp [hx])) i l
   ·have : i = j := by omega
    subst this
    exact ⟨hx.mp (fun x k => h x (by show x ∈ difL t C i ++ dif1 t C i ++ dif2 t C i; simp [k])), hy.mp (fun x k => h x (by show x ∈ difL t C i ++ dif1 t C i ++ dif2 t C i; simp [k]))⟩
  ·intro h x k
   rcases List.mem_append.1 (show x ∈ (difL t C j ++ dif1 t C j) ++ dif2 t C j from k) with k | k
   ·rcases List.mem_append.1 k with k | k
    ·exact ih.mpr (fun i hi => h i (by omega)) x k
    ·exact hx.mpr (h j (by omega)).1 x k
   ·exact hy.mpr (h j (by omega)).2 x k
def intV (l : List Int) : List Value := l.map (Value.int .i64)
theorem intV_add (a b : List Int) : intV (a ++ b) = intV a ++ intV b := by simp [intV]
theorem intV_len (a : List Int) : (intV a).length = a.length := by simp [intV]
theorem lie_ob {base : Nat} {W : World} {v : Value} {l : List Int} (h : OB base W v (intV l)) : ∃ a c, v = .slice a l.length c ∧ Lie W a l.length (fun i => l.getD i 0) := by
 rcases h with ⟨rfl, h0⟩ | ⟨g, cap, rfl, hb, hg, hl, hm, hc, hf, hx⟩
 ·have e : l.length = 0 := by rw [← intV_len, h0]; rfl
  exact ⟨none, 0, by rw [e], fun k => absurd k (by omega)⟩
 ·rw [intV_len]
  refine ⟨_, cap, rfl, fun _ => ⟨g, 0, rfl, hg, fun i hi => ?_⟩⟩
  rw [Nat.zero_add]
  refine (hx i (.int .i64 l[i]) (by unfold intV; rw [List.getElem?_map, List.getElem?_eq_getElem hi]; rfl)).trans ?_
  show some (Value.int .i64 l[i]) = some (.int .i64 (l.getD i 0))
  rw [List.getD_eq_getElem?_getD, List.getElem?_eq_getElem hi]; rfl
theorem allW_list (l : List Int) (a b : Int) : allW (fun i => l.getD i 0) l.length a b ↔ ∀ x ∈ l, a ≤ x ∧ x ≤ b := by
 constructor
 ·intro h x hx
  obtain ⟨i, hi, rfl⟩ := List.mem_iff_getElem.1 hx
  have := h i hi
  dsimp only at this
  rw [List.getD_eq_getElem?_getD, List.getElem?_eq_getElem hi] at this
  exact this
 ·intro h i hi
  show a ≤ l.getD i 0 ∧ l.getD i 0 ≤ b
  rw [List.getD_eq_getElem?_getD, List.getElem?_eq_getElem hi]
  exact h _ (List.getElem_mem hi)
theorem ob_empty (w : World) (o : Obj) (T : TypeId) : OB (w.heap.size + 1) ((w.alloc o).alloc (.cells #[] T)) (.slice (some ⟨w.heap.size + 1, 0, none⟩) 0 0) [] := by
 have h := OB.new (base := w.heap.size + 1) (w.alloc o) [] [] #[] T rfl (by simp) (by unfold maxLen; simp)
 rw [World.size_alloc] at h
 exact h
structure DfS (w W : World) (B : Nat) (t : Trk) (v : Value) (l : List Int) : Prop where
 q : PT w W B w.heap.size t
 o : OB (w.heap.size + 1) W v (intV l)
 s : w.heap.size + 1 ≤ W.heap.size
theorem DfS.step {w W W' : World} {B : Nat} {t : Trk} {v : Value} {l : List Int} (S : DfS w W B t v l) (h : Below W.heap.size W W') : DfS w W' B t v l :=
 ⟨S.q.step h, S.o.below h, by have := S.s; have := h.size; omega⟩
theorem DfS.put {w W W' : World} {B : Nat} {t : Trk} {v v' : Value} {l : List Int} {x : Int} (S : DfS w W B t v l) (o : OB (w.heap.size + 1) W' v' (intV l ++ [.int .i64 x])) (g : W.grownBy W' v.ownBlock) : DfS w W' B t v' (l ++ [x]) :=
 ⟨S.q.under (S.o.up g S.s) (by omega) (by omega), by rw [intV_add]; exact o, by have := S.s; have := g.size; omega⟩
set_option maxRecDepth 100000 in
set_option maxHeartbeats 8000000 in
theorem fDiff_any (t : Trk) (C R B : Nat) (w : World) (hB : B ≤ w.heap.size) (hC : t.cols = (C : Int)) (hR : t.rows = (R : Int)) (hC1 : 1 ≤ C ∧ C ≤ 64) (hR1 : 1 ≤ R ∧ R ≤ 64) (hn : t.H.n = (C + 1) * (R + 1)) (ih : ∀ i, i < t.H.n → inH (t.H.v i)) (K : TrkM B w t) :
  Calls Tryz.prog 161 #[.agg #[.int .i64 t.rate, .int .i64 t.cell, .int .i64 t.cols, .int .i64 t.rows, .int .i64 t.cx, .int .i64 t.cy, .slice t.H.a t.H.n t.H.c, .slice t.G.a t.G.n t.G.c, .slice t.ka t.kn t.kc, .slice t.la t.ln t.lc, .slice t.ra t.rn t.rc, .slice t.ga t.gn t.gc, .int .i64 t.sx, .int .i64 t.sy, .int .u32 t.head, .int .i64 t.laps]] w fun e w' => (∃ v, e = .returned v ∧ OB w.heap.size w' v (intV (difL t C t.H.n))) ∧ Below w.heap.size w w' := by
 have Q0 := Lib.hid (PT.new 34 K hB)
 have h4 : t.H.n ≤ 4225 := by
  rw [hn]
  have := Nat.mul_le_mul (show C + 1 ≤ 65 by omega) (show R + 1 ≤ 65 by omega)
  omega
 have hp : 0 < t.H.n := by rw [hn]; exact Nat.mul_pos (by omega) (by omega)
 have HN := Lib.hid hn
 have IH := Lib.hid ih
 have HCo := Lib.hid hC
 obtain ⟨b, off, ha, hb, -⟩ := K.H.at' hp
 have HA := Lib.hid (And.intro ha hb)
 have CL := Lib.hid (fun (W : World) (Q : PT w W B w.heap.size t) (i : Nat) (hi : i < t.H.n) => show W.cell? ⟨b, off + i, none⟩ = some (.int .i64 (t.H.v i)) by
  obtain ⟨b', off', ha', -, hc⟩ := Q.t.H.at' hp
  rw [HA.out.1] at ha'
  cases ha'
  exact hc i hi)
 have zb : 1 ≤ t.cols ∧ t.cols ≤ 64 := by omega
 obtain ⟨zb1, zb2⟩ := zb
 rw [ha] at Q0 ⊢
 clear K hC hR hn ih hb ha
 go_enter Tryz.func161, Tryz.ntmps161
 go_wp2_with fail
 obtain ⟨y1, y2⟩ := wrap_in' (n := t.cols + 1) (by unfold In64; omega)
 refine wp_gen (S := fun W => DfS w W B t (.slice (some ⟨w.heap.size + 1, 0, none⟩) 0 0) (difL t C 0)) ⟨Q0.out.step ((Below.refl _ _).alloc (Nat.le_refl _) _), ob_empty w _ _, by simp⟩ (fun W1 hS => ?_)
 have S1 := Lib.hid hS
 clear hS Q0
 go_loopw [3, 14] (fun v i wr => ∃ j : Nat, j ≤ t.H.n ∧ i = .int .i64 j ∧ DfS w wr B t v (difL t C j)) (fun _ i _ => t.H.n - (intOf i).toNat)
 case atStart => exact ⟨0, by omega, rfl, S1.out⟩
 case round =>
  obtain ⟨j, hj, rfl, hS⟩ := hrel
  have S2 := Lib.hid hS
  clear hS S1
  by_cases hlt : j < t.H.n
  ·have d0 := CL.out _ S2.out.q j hlt
   have z0 : (0 : Int) ≤ (j : Int) := by omega
   have z1 : (j : Int) < (t.H.n : Int) := by omega
   obtain ⟨v0, v1⟩ := IH.out j hlt
   have e1 : Int.tmod ((j : Int) + 1) (t.cols + 1) = (((j + 1) % (C + 1) : Nat) : Int) := by rw [HCo.out]; exact tmodn (j + 1) (C + 1)
   have zc : ¬ t.cols + 1 = 0 := by omega
   have LB := Lib.hid (difL_len t C j)
   have hm0 : (j + 1) % (C + 1) ≤ 4226 := by have := Nat.mod_le (j + 1) (C + 1); omega
   by_cases gx : (j + 1) % (C + 1) = 0
   ·have D1 := Lib.hid (show dif1 t C j = [] by unfold dif1; rw [if_pos gx])
    rw [gx] at e1
    clear gx hm0
    have S3 := Lib.hid (show DfS w wr B t u3 (difL t C j ++ dif1 t C j) by rw [D1.out, List.append_nil]; exact S2.out)
    rw [D1.out, List.append_nil] at S3
    clear S2
    obtain ⟨-, -, -, -, -, c6, -, -⟩ := S3.out.q.cs
    rw [HA.out.1] at c6
    by_cases gy : j + (C + 1) < t.H.n
    ·obtain ⟨ju, hju⟩ : ∃ u, j + (C + 1) = u := ⟨_, rfl⟩
     have D2 := Lib.hid (show dif2 t C j = [t.H.v ju - t.H.v j] by unfold dif2; rw [if_pos gy, hju])
     rw [hju] at gy
     obtain ⟨v2, v3⟩ := IH.out ju gy
     have d1 := CL.out _ S3.out.q ju gy
     have ex : (j : Int) + (t.cols + 1) = (ju : Int) := by have := HCo.out; omega
     have z2 : (ju : Int) < (t.H.n : Int) := by omega
     have z3 : (0 : Int) ≤ (ju : Int) := by omega
     obtain ⟨y1, y2⟩ := wrap_in' (n := t.H.v ju - t.H.v j) (by unfold In64; omega)
     clear hju gy
     go_wp2_with (at_builtin; refine wpList_ob rfl (.tmp 42) (.tmp 52) 25 25 rfl 22 _ (.int .i64 0) Tryz.underlying25 rfl rfl rfl rfl (by decide) (S3.out.step ((Below.refl _ _).alloc (Nat.le_refl _) (.cells #[.int .i64 (t.H.v ju - t.H.v j)] 22))).o rfl _ 1 [.int .i64 (t.H.v ju - t.H.v j)] rfl (src_new Tryz.underlying25 wr [.int .i64 (t.H.v ju - t.H.v j)] 22 1 rfl (one_ints .i64 [(t.H.v ju - t.H.v j)])) (by rw [intV_len]; have := LB.out; (try simp only [List.length_append, List.length_cons, List.length_nil]); omega) (by have := S3.out.s; simp; omega) ?_)
     intro r4 w4 o1 g1 p1
     have S4 := Lib.hid ((S3.out.step ((Below.refl _ _).alloc (Nat.le_refl _) (.cells #[.int .i64 (t.H.v ju - t.H.v j)] 22))).put o1 g1)
     clear o1 g1 p1 S3
     have S9 := Lib.hid (show DfS w w4 B t r4 (difL t C (j + 1)) by show DfS w w4 B t r4 (difL t C j ++ dif1 t C j ++ dif2 t C j); rw [D1.out, D2.out]; first | exact S4.out | (rw [List.append_nil]; exact S4.out))
     clear S4 c6 d1 ex z2 z3 y1 y2 v2 v3
     go_wp2
     go_roundw
     case rel => exact ⟨j + 1, by omega, by go_num, S9.out⟩
     case measure => simp [intOf]; omega
    ·have D2 := Lib.hid (show dif2 t C j = [] by unfold dif2; rw [if_neg gy])
     have S9 := Lib.hid (show DfS w wr B t u3 (difL t C (j + 1)) by show DfS w wr B t u3 (difL t C j ++ dif1 t C j ++ dif2 t C j); rw [D1.out, D2.out, List.append_nil]; first | exact S3.out | (rw [List.append_nil]; exact S3.out))
     have ey : ¬ (j : Int) + (t.cols + 1) < (t.H.n : Int) := by have := HCo.out; omega
     clear S3
     go_wp2
     go_roundw
     case rel => exact ⟨j + 1, by omega, by go_num, S9.out⟩
     case measure => simp [intOf]; omega
   ·obtain ⟨jx, hjx⟩ : ∃ u, j + 1 = u := ⟨_, rfl⟩
    have D1 := Lib.hid (show dif1 t C j = [t.H.v jx - t.H.v j] by unfold dif1; rw [if_neg gx, hjx])
    have i1 : jx < t.H.n := by
     rw [← hjx]
     exact idx_right HN.out hlt (Classical.byContradiction fun k => gx ((mod_succ hC1.1).mpr k))
    obtain ⟨v2, v3⟩ := IH.out jx i1
    have d1 := CL.out _ S2.out.q jx i1
    have ex : (j : Int) + 1 = (jx : Int) := by omega
    have z2 : (jx : Int) < (t.H.n : Int) := by omega
    have z3 : (0 : Int) ≤ (jx : Int) := by omega
    obtain ⟨mj, hmj⟩ : ∃ m, (j + 1) % (C + 1) = m := ⟨_, rfl⟩
    rw [hmj] at e1 gx hm0
    rw [ex] at e1
    have e2 : (jx : Int) % (t.cols + 1) = (mj : Int) := by rw [← e1]; exact (Int.tmod_eq_emod_of_nonneg (by omega)).symm
    have gx' : ¬ (mj : Int) = 0 := by omega
    obtain ⟨-, -, -, -, -, c6, -, -⟩ := S2.out.q.cs
    rw [HA.out.1] at c6
    obtain ⟨y3, y4⟩ := wrap_in' (n := t.H.v jx - t.H.v j) (by unfold In64; omega)
    clear hmj gx i1
    go_wp2_with (at_builtin; refine wpList_ob rfl (.tmp 24) (.tmp 33) 25 25 rfl 22 _ (.int .i64 0) Tryz.underlying25 rfl rfl rfl rfl (by decide) (S2.out.step ((Below.refl _ _).alloc (Nat.le_refl _) (.cells #[.int .i64 (t.H.v jx - t.H.v j)] 22))).o rfl _ 1 [.int .i64 (t.H.v jx - t.H.v j)] rfl (src_new Tryz.underlying25 wr [.int .i64 (t.H.v jx - t.H.v j)] 22 1 rfl (one_ints .i64 [(t.H.v jx - t.H.v j)])) (by rw [intV_len]; have := LB.out; (try simp only [List.length_append, List.length_cons, List.length_nil]); omega) (by have := S2.out.s; simp; omega) ?_)
    intro r3 w3 o1 g1 p1
    have S3 := Lib.hid ((S2.out.step ((Below.refl _ _).alloc (Nat.le_refl _) (.cells #[.int .i64 (t.H.v jx - t.H.v j)] 22))).put o1 g1)
    clear o1 g1 p1 S2
    clear c6 d1 ex z2 z3 y3 y4 v2 v3 e1 e2 zc gx' hm0 hjx d0
    obtain ⟨-, -, -, -, -, c6, -, -⟩ := S3.out.q.cs
    rw [HA.out.1] at c6
    by_cases gy : j + (C + 1) < t.H.n
    ·obtain ⟨ju, hju⟩ : ∃ u, j + (C + 1) = u := ⟨_, rfl⟩
     have D2 := Lib.hid (show dif2 t C j = [t.H.v ju - t.H.v j] by unfold dif2; rw [if_pos gy, hju])
     rw [hju] at gy
     obtain ⟨v2, v3⟩ := IH.out ju gy
     have d1 := CL.out _ S3.out.q ju gy
     have ex : (j : Int) + (t.cols + 1) = (ju : Int) := by have := HCo.out; omega
     have z2 : (ju : Int) < (t.H.n : Int) := by omega
     have z3 : (0 : Int) ≤ (ju : Int) := by omega
     obtain ⟨y1, y2⟩ := wrap_in' (n := t.H.v ju - t.H.v j) (by unfold In64; omega)
     clear hju gy
     go_wp2_with (at_builtin; refine wpList_ob rfl (.tmp 42) (.tmp 52) 25 25 rfl 22 _ (.int .i64 0) Tryz.underlying25 rfl rfl rfl rfl (by decide) (S3.out.step ((Below.refl _ _).alloc (Nat.le_refl _) (.cells #[.int .i64 (t.H.v ju - t.H.v j)] 22))).o rfl _ 1 [.int .i64 (t.H.v ju - t.H.v j)] rfl (src_new Tryz.underlying25 w3 [.int .i64 (t.H.v ju - t.H.v j)] 22 1 rfl (one_ints .i64 [(t.H.v ju - t.H.v j)])) (by rw [intV_len]; have := LB.out; (try simp only [List.length_append, List.length_cons, List.length_nil]); omega) (by have := S3.out.s; simp; omega) ?_)
     intro r4 w4 o1 g1 p1
     have S4 := Lib.hid ((S3.out.step ((Below.refl _ _).alloc (Nat.le_refl _) (.cells #[.int .i64 (t.H.v ju - t.H.v j)] 22))).put o1 g1)
     clear o1 g1 p1 S3
     have S9 := Lib.hid (show DfS w w4 B t r4 (difL t C (j + 1)) by show DfS w w4 B t r4 (difL t C j ++ dif1 t C j ++ dif2 t C j); rw [D1.out, D2.out]; first | exact S4.out | (rw [List.append_nil]; exact S4.out))
     clear S4 c6 d1 ex z2 z3 y1 y2 v2 v3
     go_wp2
     go_roundw
     case rel => exact ⟨j + 1, by omega, by go_num, S9.out⟩
     case measure => simp [intOf]; omega
    ·have D2 := Lib.hid (show dif2 t C j = [] by unfold dif2; rw [if_neg gy])
     have S9 := Lib.hid (show DfS w w3 B t r3 (difL t C (j + 1)) by show DfS w w3 B t r3 (difL t C j ++ dif1 t C j ++ dif2 t C j); rw [D1.out, D2.out, List.append_nil]; first | exact S3.out | (rw [List.append_nil]; exact S3.out))
     have ey : ¬ (j : Int) + (t.cols + 1) < (t.H.n : Int) := by have := HCo.out; omega
     clear S3
     go_wp2
     go_roundw
     case rel => exact ⟨j + 1, by omega, by go_num, S9.out⟩
     case measure => simp [intOf]; omega
  ·have E := Lib.hid (show j = t.H.n by omega)
   have z1 : ¬ (j : Int) < (t.H.n : Int) := by omega
   go_wp2
   go_ret
   exact ⟨⟨_, rfl, by have := S2.out.o; rw [E.out] at this; exact this.mono (by omega)⟩, S2.out.q.l⟩
end Go.Proofs.YtmdjnamkbekjkaaGreatDoor

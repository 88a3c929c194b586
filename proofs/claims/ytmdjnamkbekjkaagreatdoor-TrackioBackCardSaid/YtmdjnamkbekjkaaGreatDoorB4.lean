/- -/
import Derived.Test.YtmdjnamkbekjkaaGreatDoorCh
import Derived.Test.YtmdjnamkbekjkaaGreatDoorBt
import Derived.Test.YtmdjnamkbekjkaaGreatDoorBk
namespace Go.Proofs.YtmdjnamkbekjkaaGreatDoor
open Go.RowKit
set_option linter.unusedVariables false
set_option linter.unusedSimpArgs false
theorem fstI_is {f : Nat → Int} : ∀ n, (fstI f n < n → f (fstI f n) ≠ 0) ∧ (¬ fstI f n < n → ∀ i, i < n → f i = 0)
 | 0 => ⟨fun h => absurd h (by omega), fun _ i hi => absurd hi (by omega)⟩
 | n + 1 => by
  obtain ⟨h1, h2⟩ := fstI_is (f := f) n
  rw [show fstI f (n + 1) = if fstI f n < n then fstI f n else if f n = 0 then n + 1 else n from rfl]
  by_cases a : fstI f n < n
  ·rw [if_pos a]
   exact ⟨fun _ => h1 a, fun h => absurd (by omega) h⟩
  ·rw [if_neg a]
   by_cases b : f n = 0
   ·rw [if_pos b]
    refine ⟨fun h => absurd h (by omega), fun _ i hi => ?_⟩
    rcases Nat.lt_or_ge i n with l | l
    ·exact h2 a i l
    ·obtain rfl : i = n := by omega
     exact b
   ·rw [if_neg b]
    exact ⟨fun _ => b, fun h => absurd (by omega) h⟩
theorem ways_zero {k : Tk} (h : (waysE k).1 = 0) : (∀ i, i < k.t.rn → railE (k.R i) = 0) ∧ 1 ≤ k.t.gn ∧ ∀ i, i < k.t.gn → gateE (k.G i) = 0 := by
 obtain ⟨a1, a2⟩ := fstI_is (f := fun i => railE (k.R i)) k.t.rn
 obtain ⟨b1, b2⟩ := fstI_is (f := fun i => gateE (k.G i)) k.t.gn
 unfold waysE at h
 split at h
 ·exact absurd h (by decide)
 ·split at h
  ·rename_i c; exact absurd h (a1 c)
  ·rename_i c
   split at h
   ·exact absurd h (by decide)
   ·split at h
    ·rename_i d; exact absurd h (b1 d)
    ·rename_i g d; exact ⟨a2 c, by omega, b2 d⟩
def ptX (l : List (Int × Int)) (i : Nat) : Int := (l.getD i (0, 0)).1 * 4294967296
def ptY (l : List (Int × Int)) (i : Nat) : Int := (l.getD i (0, 0)).2 * 4294967296
def smpL : List (Int × Int) := [(10, 10), (54, 10), (54, 54), (10, 54)]
def smpR0 : List (Int × Int) := [(2, 2), (62, 2), (62, 62), (2, 62), (2, 2)]
def smpR1 : List (Int × Int) := [(24, 24), (24, 40), (40, 40), (40, 24), (24, 24)]
def smpA : List (Int × Int) := [(36, 24), (40, 36), (28, 40)]
def smpB : List (Int × Int) := [(36, 2), (62, 36), (28, 62)]
structure SmpA where
 H : Option Addr
 Hc : Nat
 G : Option Addr
 Gc : Nat
 k : Option Addr
 l : Option Addr
 r : Option Addr
 r0 : Option Addr
 r1 : Option Addr
 g : Option Addr
def smpT (s : SmpA) : Trk := ⟨64, 68719476736, 4, 4, 0, 0, ⟨s.H, 25, s.Hc, fun _ => 0⟩, ⟨s.G, 16, s.Gc, fun i => if i = 5 ∨ i = 6 ∨ i = 9 ∨ i = 10 then 1 else 0⟩, s.k, 2, 2, fun i => if i = 0 then 4294967296 else 2147483648, fun i => if i = 0 then 67108864 else 536870912, fun i => decide (i = 1), s.l, 4, 4, s.r, 2, 2, s.g, 3, 3, 137438953472, 42949672960, 0, 2⟩
def smpK (s : SmpA) : Tk := ⟨smpT s, fun i => (ptX smpL i, ptY smpL i), fun i => ⟨if i = 0 then s.r0 else s.r1, 5, 5, fun j => if i = 0 then ptX smpR0 j else ptX smpR1 j, fun j => if i = 0 then ptY smpR0 j else ptY smpR1 j⟩, fun i => ⟨ptX smpA i, ptY smpA i, ptX smpB i, ptY smpB i, decide (i = 1)⟩⟩
def smpA0 : SmpA := ⟨none, 0, none, 0, none, none, none, none, none, none⟩
theorem smp_far (j : Nat) (hj : j < 8) : ¬ behP (smpK smpA0) j := by
 have z : ∀ {a b p : Pt}, ¬ ((a.near ∧ b.near ∧ p.near) ∧ area a b p < 0 ∧ 0 ≤ dotP a b p ∧ 0 ≤ dotP b a p) → ¬ (0 < beyondN a b p ∧ beyondN a b p < 17179869184) := fun {a b p} h k => by
  unfold beyondN at k
  rw [if_neg h] at k
  omega
 unfold behP behN
 match j, hj with
 | 0, _ => exact z (by decide +kernel)
 | 1, _ => exact z (by decide +kernel)
 | 2, _ => exact z (by decide +kernel)
 | 3, _ => exact z (by decide +kernel)
 | 4, _ => exact z (by decide +kernel)
 | 5, _ =>
  have e : rootI (sqP ⟨103079215104, 171798691840⟩ ⟨171798691840, 171798691840⟩) = 68719476736 := rootI_eq ⟨by decide +kernel, by decide +kernel, by decide +kernel⟩
  intro k
  have k : beyondN ⟨103079215104, 171798691840⟩ ⟨171798691840, 171798691840⟩ ⟨137438953472, 42949672960⟩ < 17179869184 := k.2
  unfold beyondN at k
  rw [e, if_pos (by decide +kernel)] at k
  revert k
  decide +kernel
 | 6, _ => exact z (by decide +kernel)
 | 7, _ => exact z (by decide +kernel)
def rgtB (k : Tk) (b : Bool) : Int × Int :=
 if k.t.rate < 60 ∨ 1024 < k.t.rate then (40, 0)
 else if rightFd k.t ≠ 0 then (rightFd k.t, 0)
 else if lineR k.line.n k.line.x k.line.y ≠ 0 then (lineR k.line.n k.line.x k.line.y, 0)
 else if ¬ hlfN k.line.n k.line.x k.line.y then (40, 0)
 else if (waysE k).1 ≠ 0 then waysE k
 else if ¬ rectP k.t then (40, 0)
 else if ¬ b = true then (43, 0)
 else if k.t.laps < 1 ∨ 100 < k.t.laps then (40, 0)
 else (0, 0)
theorem rgt_b (k : Tk) (h : ∀ j, j < barN k k.t.rn → ¬ behP k j) : rgtK k = rgtB k true := by
 have e : (∀ j, j < barN k k.t.rn → ¬ behP k j) = True := propext ⟨fun _ => trivial, fun _ => h⟩
 unfold rgtK rgtB
 simp only [e]
def ptL (l : List (Int × Int)) : List Value := l.flatMap (fun p => [.int .i64 (p.1 * 4294967296), .int .i64 (p.2 * 4294967296)])
theorem ptL_at : ∀ (l : List (Int × Int)) (i : Nat), i < l.length → (ptL l)[i * 2]? = some (.int .i64 (ptX l i)) ∧ (ptL l)[i * 2 + 1]? = some (.int .i64 (ptY l i))
 | [], i, h => absurd h (by simp)
 | p :: l, 0, _ => ⟨rfl, rfl⟩
 | p :: l, i + 1, h => by
  have := ptL_at l i (by simpa using h)
  rw [show (i + 1) * 2 = i * 2 + 2 by omega, show i * 2 + 2 + 1 = (i * 2 + 1) + 2 by omega]
  exact this
theorem ds_bw {W : World} {n m : Nat} {l : List (Int × Int)} (k : BW W n (ptL l)) (hm : l.length = m) (h : ∀ p ∈ l, (0 ≤ p.1 ∧ p.1 ≤ 64) ∧ 0 ≤ p.2 ∧ p.2 ≤ 64) (h1 : m ≤ 100) : DsM W.heap.size W ⟨some ⟨n, 0, none⟩, m, m, ptX l, ptY l⟩ := by
 subst hm
 refine ⟨by unfold maxLen; simp; omega, Nat.le_refl _, fun i hi => ?_, fun _ => ⟨n, 0, rfl, k.lt, fun i hi => ?_⟩⟩
 ·have hi : i < l.length := hi
  have := h _ (List.getElem_mem hi)
  show In64 (ptX l i) ∧ In64 (ptY l i)
  unfold ptX ptY In64
  rw [List.getD_eq_getElem?_getD, List.getElem?_eq_getElem hi]
  show (_ ≤ l[i].1 * 4294967296 ∧ l[i].1 * 4294967296 ≤ _) ∧ _ ≤ l[i].2 * 4294967296 ∧ l[i].2 * 4294967296 ≤ _
  omega
 ·rw [Nat.zero_add]
  exact ⟨k.c _ _ (ptL_at l i hi).1, k.c _ _ (ptL_at l i hi).2⟩
section
theorem bw_put {W : World} {n i : Nat} {l : List Value} (k : BW W n l) (v u : Value) (hu : l[i]? = some u) : BW (W.setCell ⟨n, i, none⟩ v) n (l.set i v) := by
 refine ⟨fun j x h => ?_, fun j => (World.frozen?_setCell _ _ _ _).trans (k.f j), by rw [set_size]; exact k.lt⟩
 by_cases e : i = j
 ·subst e
  have : x = v := by
   have hl : i < l.length := by
    apply Classical.byContradiction; intro c
    rw [List.getElem?_eq_none (by omega)] at hu; cases hu
   rw [List.getElem?_set_self hl] at h; cases h; rfl
  subst this
  exact World.cell?_setCell_same _ _ _ (k.c i u hu)
 ·rw [List.getElem?_set_ne e] at h
  exact (World.cell?_setCell_other _ _ _ _ (fun h' => e (by cases h'; rfl))).trans (k.c j x h)
theorem OB.setLow {base : Nat} {W : World} {v : Value} {xs : List Value} (h : OB base W v xs) {p : Addr} (hp : p.block < base) (u : Value) : OB base (W.setCell p u) v xs := by
 rcases h with h | ⟨g, cap, rfl, hb, hg, hl, hm, hc, hf, hx⟩
 ·exact .inl h
 ·have B : (W.setCell p u).heap[g]? = W.heap[g]? := Below.heap_setCell W p u g (by omega)
  have C : ∀ j, (W.setCell p u).cell? ⟨g, j, none⟩ = W.cell? ⟨g, j, none⟩ := fun j => World.cell?_of_block (a := ⟨g, j, none⟩) B
  have F : ∀ j, (W.setCell p u).frozen? ⟨g, j, none⟩ = W.frozen? ⟨g, j, none⟩ := fun j => World.frozen?_of_block (a := ⟨g, j, none⟩) B
  exact .inr ⟨g, cap, rfl, hb, by rw [set_size]; exact hg, hl, hm, fun j hj => by rw [C]; exact hc j hj, fun j => by rw [F]; exact hf j, fun j u hj => by rw [C]; exact hx j u hj⟩
def HsL (W : World) (q : Nat × Nat × (Nat → Int)) : Prop := q.1 < W.heap.size ∧ ∀ i, i < q.2.1 → W.cell? ⟨q.1, i, none⟩ = some (.int .i64 (q.2.2 i))
structure SmS (w W : World) (n : Nat) (l lr : List Value) (ls : List (Nat × List Value)) (hs : List (Nat × Nat × (Nat → Int))) : Prop where
 c : BW W n l
 z : w.heap.size < n
 r : BW W w.heap.size lr
 k : ∀ q ∈ ls, BW W q.1 q.2 ∧ w.heap.size < q.1 ∧ q.1 ≠ n
 h : ∀ q ∈ hs, HsL W q ∧ w.heap.size < q.1 ∧ q.1 ≠ n
 b : Below w.heap.size w W
section
variable {w W W' : World} {n : Nat} {l lr : List Value} {ls : List (Nat × List Value)} {hs : List (Nat × Nat × (Nat → Int))}
theorem SmS.under {C : Nat} (S : SmS w W n l lr ls hs) (h : Below C W W') (hn : n < C) (hk : ∀ q ∈ ls, q.1 < C) (hh : ∀ q ∈ hs, q.1 < C) : SmS w W' n l lr ls hs := by
 have z := S.z
 exact ⟨S.c.below h hn, S.z, S.r.below h (by omega), fun q hq => ⟨(S.k q hq).1.below h (hk q hq), (S.k q hq).2⟩, fun q hq => ⟨⟨by have := (S.h q hq).1.1; have := h.size; omega, fun i hi => (h.cell (p := ⟨q.1, i, none⟩) (hh q hq)).trans ((S.h q hq).1.2 i hi)⟩, (S.h q hq).2⟩, S.b.trans (h.mono (by omega))⟩
theorem SmS.step (S : SmS w W n l lr ls hs) (h : Below W.heap.size W W') : SmS w W' n l lr ls hs :=
 S.under h S.c.lt (fun q hq => (S.k q hq).1.lt) (fun q hq => (S.h q hq).1.1)
theorem SmS.set (S : SmS w W n l lr ls hs) (i : Nat) (v u : Value) (hu : l[i]? = some u) : SmS w (W.setCell ⟨n, i, none⟩ v) n (l.set i v) lr ls hs := by
 have z := S.z
 exact ⟨bw_put S.c v u hu, S.z, S.r.far (by omega) i v, fun q hq => ⟨(S.k q hq).1.far (fun e => (S.k q hq).2.2 e.symm) i v, (S.k q hq).2⟩,
  fun q hq => ⟨⟨by rw [set_size]; exact (S.h q hq).1.1, fun j hj => (World.cell?_setCell_other _ _ _ _ (fun e => (S.h q hq).2.2 (congrArg Addr.block e).symm)).trans ((S.h q hq).1.2 j hj)⟩, (S.h q hq).2⟩, S.b.setCell (p := ⟨n, i, none⟩) (by show w.heap.size ≤ n; omega) v⟩
theorem SmS.setR (S : SmS w W n l lr ls hs) (i : Nat) (v u : Value) (hu : lr[i]? = some u) : SmS w (W.setCell ⟨w.heap.size, i, none⟩ v) n l (lr.set i v) ls hs := by
 have z := S.z
 exact ⟨S.c.far (by omega) i v, S.z, bw_put S.r v u hu, fun q hq => ⟨(S.k q hq).1.far (fun e => by have := (S.k q hq).2.1; omega) i v, (S.k q hq).2⟩,
  fun q hq => ⟨⟨by rw [set_size]; exact (S.h q hq).1.1, fun j hj => (World.cell?_setCell_other _ _ _ _ (fun e => by have := (S.h q hq).2.1; have := congrArg Addr.block e; simp at this; omega)).trans ((S.h q hq).1.2 j hj)⟩, (S.h q hq).2⟩, S.b.setCell (p := ⟨w.heap.size, i, none⟩) (Nat.le_refl _) v⟩
theorem SmS.add (S : SmS w W n l lr ls hs) (m : Nat) (e : m = W.heap.size) (vs : List Value) (T : TypeId) : SmS w (W.alloc (.cells vs.toArray T)) n l lr ((m, vs) :: ls) hs := by
 subst e
 have s := S.step ((Below.refl _ _).alloc (Nat.le_refl _) (.cells vs.toArray T))
 have z := S.z
 have t := S.c.lt
 refine ⟨s.c, s.z, s.r, fun q hq => ?_, s.h, s.b⟩
 rcases List.mem_cons.1 hq with e | e
 ·subst e; exact ⟨BW.new W _ vs T rfl, by show w.heap.size < W.heap.size; omega, by show W.heap.size ≠ n; omega⟩
 ·exact s.k q e
theorem SmS.num {m base : Nat} {v : Value} {f : Nat → Int} (S : SmS w W n l lr ls hs) (o : OB base W v (vals f m)) (hm : 0 < m) (hb : n + 1 ≤ base) : ∃ g c, v = .slice (some ⟨g, 0, none⟩) m c ∧ (m ≤ c ∧ c ≤ maxLen) ∧ SmS w W n l lr ls ((g, m, f) :: hs) := by
 rcases o with ⟨_, h0⟩ | ⟨g, cap, rfl, hb1, hg, hl, hmx, hc, hf, hx⟩
 ·have := congrArg List.length h0
  rw [vals_len] at this
  exact absurd this (by simp; omega)
 rw [vals_len] at *
 refine ⟨g, cap, rfl, ⟨hl, hmx⟩, S.c, S.z, S.r, S.k, fun q hq => ?_, S.b⟩
 rcases List.mem_cons.1 hq with e | e
 ·subst e; exact ⟨⟨hg, fun i hi => hx i _ (vals_at hi)⟩, by have := S.z; show w.heap.size < g; omega, by show g ≠ n; omega⟩
 ·exact S.h q e
end
theorem vals_succ (v : Nat → Int) (n : Nat) : vals v (n + 1) = vals v n ++ [.int .i64 (v n)] := by unfold vals; rw [List.range_succ, List.map_append]; rfl
theorem post_gen {P : Program} {fn : Func} {R : Ending → World → Prop} {e : Exit} {a : Act} {W : World} (S : World → Prop) (h : S W) (k : ∀ W', S W' → bodyPost P fn R e a W') : bodyPost P fn R e a W := k W h
def zeroT : List Value := [.int .i64 0, .int .i64 0, .int .i64 0, .int .i64 0, .int .i64 0, .int .i64 0, .slice none 0 0, .slice none 0 0, .slice none 0 0, .slice none 0 0, .slice none 0 0, .slice none 0 0, .int .i64 0, .int .i64 0, .int .u32 0, .int .i64 0]
def smL (h g k l r t : Value) : List Value := [.int .i64 64, .int .i64 68719476736, .int .i64 4, .int .i64 4, .int .i64 0, .int .i64 0, h, g, k, l, r, t, .int .i64 137438953472, .int .i64 42949672960, .int .u32 0, .int .i64 2]
def smKd : List Value := [.int .i64 4294967296, .int .i64 67108864, .bool false, .int .i64 2147483648, .int .i64 536870912, .bool true]
def grF (i : Nat) : Int := if i = 5 ∨ i = 6 ∨ i = 9 ∨ i = 10 then 1 else 0
def gtL : List Value := [.int .i64 (36 * 4294967296), .int .i64 (24 * 4294967296), .int .i64 (36 * 4294967296), .int .i64 (2 * 4294967296), .bool false, .int .i64 (40 * 4294967296), .int .i64 (36 * 4294967296), .int .i64 (62 * 4294967296), .int .i64 (36 * 4294967296), .bool true, .int .i64 (28 * 4294967296), .int .i64 (40 * 4294967296), .int .i64 (28 * 4294967296), .int .i64 (62 * 4294967296), .bool false]
theorem smp_m {w W : World} {n gH gG kb lb r0 r1 rb gb cH cG : Nat} {l lr : List Value} (S : SmS w W n l lr [(gb, gtL), (rb, [.slice (some ⟨r0, 0, none⟩) 5 5, .slice (some ⟨r1, 0, none⟩) 5 5]), (r1, ptL smpR1), (r0, ptL smpR0), (lb, ptL smpL), (kb, smKd)] [(gG, 16, grF), (gH, 25, fun _ => 0)]) (hH : 25 ≤ cH ∧ cH ≤ maxLen) (hG : 16 ≤ cG ∧ cG ≤ maxLen) :
  TkM W.heap.size W (smpK ⟨some ⟨gH, 0, none⟩, cH, some ⟨gG, 0, none⟩, cG, some ⟨kb, 0, none⟩, some ⟨lb, 0, none⟩, some ⟨rb, 0, none⟩, some ⟨r0, 0, none⟩, some ⟨r1, 0, none⟩, some ⟨gb, 0, none⟩⟩) := by
 have kg := (S.k (gb, gtL) (by simp)).1
 have kr := (S.k (rb, [.slice (some ⟨r0, 0, none⟩) 5 5, .slice (some ⟨r1, 0, none⟩) 5 5]) (by simp)).1
 have k1 := (S.k (r1, ptL smpR1) (by simp)).1
 have k0 := (S.k (r0, ptL smpR0) (by simp)).1
 have kl := (S.k (lb, ptL smpL) (by simp)).1
 have kk := (S.k (kb, smKd) (by simp)).1
 have hG' := (S.h (gG, 16, grF) (by simp)).1
 have hH' := (S.h (gH, 25, fun _ => 0) (by simp)).1
 refine ⟨⟨⟨hH.2, hH.1, fun i hi => ?_, fun _ => ⟨gH, 0, rfl, hH'.1, fun i hi => by rw [Nat.zero_add]; exact hH'.2 i hi⟩⟩, ⟨hG.2, hG.1, fun i hi => ?_, fun _ => ⟨gG, 0, rfl, hG'.1, fun i hi => by rw [Nat.zero_add]; exact hG'.2 i hi⟩⟩, by unfold maxLen smpK smpT; simp, Nat.le_refl _, fun i hi => ?_, fun _ => ⟨kb, 0, rfl, kk.lt, fun i hi => ?_⟩, by unfold In64 smpK smpT; simp⟩, ds_bw (l := smpL) (m := 4) kl rfl (by decide) (by omega), by unfold maxLen smpK smpT; simp, Nat.le_refl _, fun _ => ⟨rb, 0, rfl, kr.lt, fun i hi => ?_⟩, fun i hi => ?_, by unfold maxLen smpK smpT; simp, Nat.le_refl _, fun i hi => ?_, fun _ => ⟨gb, 0, rfl, kg.lt, fun i hi => ?_⟩, by unfold In64 smpK smpT; simp⟩
 ·show (Lit.int .i64 0).wf = true
  decide
 ·show (Lit.int .i64 (if i = 5 ∨ i = 6 ∨ i = 9 ∨ i = 10 then 1 else 0)).wf = true
  split <;> decide
 ·show In64 (if i = 0 then 4294967296 else 2147483648) ∧ In64 (if i = 0 then 67108864 else 536870912)
  unfold In64
  constructor <;> split <;> omega
 ·have hi : i < 2 := hi
  match i, hi with
  | 0, _ => exact ⟨kk.c 0 _ rfl, kk.c 1 _ rfl, kk.c 2 _ rfl⟩
  | 1, _ => exact ⟨kk.c 3 _ rfl, kk.c 4 _ rfl, kk.c 5 _ rfl⟩
 ·have hi : i < 2 := hi
  match i, hi with
  | 0, _ => exact kr.c 0 _ rfl
  | 1, _ => exact kr.c 1 _ rfl
 ·have hi : i < 2 := hi
  match i, hi with
  | 0, _ => exact ds_bw (l := smpR0) (m := 5) k0 rfl (by decide) (by omega)
  | 1, _ => exact ds_bw (l := smpR1) (m := 5) k1 rfl (by decide) (by omega)
 ·have hi : i < 3 := hi
  match i, hi with
  | 0, _ => exact (show (In64 (ptX smpA 0) ∧ In64 (ptY smpA 0)) ∧ In64 (ptX smpB 0) ∧ In64 (ptY smpB 0) by unfold In64; decide)
  | 1, _ => exact (show (In64 (ptX smpA 1) ∧ In64 (ptY smpA 1)) ∧ In64 (ptX smpB 1) ∧ In64 (ptY smpB 1) by unfold In64; decide)
  | 2, _ => exact (show (In64 (ptX smpA 2) ∧ In64 (ptY smpA 2)) ∧ In64 (ptX smpB 2) ∧ In64 (ptY smpB 2) by unfold In64; decide)
 ·have hi : i < 3 := hi
  match i, hi with
  | 0, _ => exact ⟨⟨kg.c 0 _ rfl, kg.c 1 _ rfl⟩, ⟨kg.c 2 _ rfl, kg.c 3 _ rfl⟩, kg.c 4 _ rfl⟩
  | 1, _ => exact ⟨⟨kg.c 5 _ rfl, kg.c 6 _ rfl⟩, ⟨kg.c 7 _ rfl, kg.c 8 _ rfl⟩, kg.c 9 _ rfl⟩
  | 2, _ => exact ⟨⟨kg.c 10 _ rfl, kg.c 11 _ rfl⟩, ⟨kg.c 12 _ rfl, kg.c 13 _ rfl⟩, kg.c 14 _ rfl⟩
abbrev nilS : Value := .slice none 0 0
theorem lat_any (x y : Int) (w : World) (hx : 0 ≤ x ∧ x ≤ 64) (hy : 0 ≤ y ∧ y ≤ 64) :
  Calls Tryz.prog 63 #[.int .i64 x, .int .i64 y] w fun e w' => e = .returned (.agg #[.int .i64 (x * 4294967296), .int .i64 (y * 4294967296)]) ∧ Below w.heap.size w w' := by
 obtain ⟨u1, v1⟩ := wrap_in' (n := x * 4294967296) (by unfold In64; omega)
 obtain ⟨u2, v2⟩ := wrap_in' (n := y * 4294967296) (by unfold In64; omega)
 go_enter Tryz.func63, Tryz.ntmps63
 go_wp2
 exact bodyPost_ret (v := .agg #[.int .i64 (x * 4294967296), .int .i64 (y * 4294967296)]) (by simp [results, Tryz.results63, go_sem]) rfl ⟨rfl, by repeat (first | exact Below.refl _ _ | assumption | refine Below.setCell ?_ (by first | omega | (simp; done) | (simp; omega)) _ | refine Below.alloc ?_ (by first | omega | (simp; done) | (simp; omega)) _ | refine below_drewN ?_ _ | refine Below.drew ?_ | refine Below.trans ?_ (Below.mono (by assumption) (by first | omega | (simp; done) | (simp; omega))))⟩
set_option maxRecDepth 100000 in
set_option maxHeartbeats 8000000 in
theorem lsample_any (w : World) :
  Calls Tryz.prog 25 #[] w fun e w' => (∃ s : SmpA, e = .returned (trkV (smpT s)) ∧ TkM w'.heap.size w' (smpK s)) ∧ Below w.heap.size w w' := by
 go_enter Tryz.func25, Tryz.ntmps25
 go_wp2_with fail
 refine calls_gen (S := fun W => (BW W w.heap.size zeroT ∧ BW W (w.heap.size + 1) smKd) ∧ Below w.heap.size w W) ⟨⟨(BW.new w _ zeroT _ rfl).alloc _, BW.new _ _ smKd _ (by simp)⟩, by repeat (first | exact Below.refl _ _ | assumption | refine Below.setCell ?_ (by first | omega | (simp; done) | (simp; omega)) _ | refine Below.alloc ?_ (by first | omega | (simp; done) | (simp; omega)) _ | refine below_drewN ?_ _ | refine Below.drew ?_ | refine Below.trans ?_ (Below.mono (by assumption) (by first | omega | (simp; done) | (simp; omega))))⟩ (fun W0 hS => ?_)
 have R0 := Lib.hid hS
 clear hS
 refine (lat_any 32 10 _ (by decide) (by decide)).mono ?_
 rintro e w1 ⟨rfl, h⟩
 have R1 := Lib.hid (show (BW w1 w.heap.size zeroT ∧ BW w1 (w.heap.size + 1) smKd) ∧ Below w.heap.size w w1 from ⟨⟨R0.out.1.1.below h R0.out.1.1.lt, R0.out.1.2.below h R0.out.1.2.lt⟩, R0.out.2.trans (h.mono R0.out.2.size)⟩)
 clear h R0
 go_wp2_with fail
 refine wp_gen (S := fun W => SmS w W w1.heap.size (smL nilS nilS (.slice (some ⟨w.heap.size + 1, 0, none⟩) 2 2) nilS nilS nilS) zeroT [(w.heap.size + 1, smKd)] []) ?_ (fun W2 hS => ?_)
 ·have a := R1.out.1.2.lt
  refine ⟨BW.new w1 _ (smL nilS nilS (.slice (some ⟨w.heap.size + 1, 0, none⟩) 2 2) nilS nilS nilS) _ rfl, by omega, R1.out.1.1.alloc _, fun q hq => ?_, (fun q hq => by cases hq), R1.out.2.alloc R1.out.2.size _⟩
  rcases List.mem_cons.1 hq with e | e
  ·subst e; exact ⟨R1.out.1.2.alloc _, by show w.heap.size < w.heap.size + 1; omega, by show w.heap.size + 1 ≠ _; omega⟩
  ·cases e
 have S2 := Lib.hid hS
 obtain ⟨n, hn⟩ : ∃ n, w1.heap.size = n := ⟨_, rfl⟩
 rw [hn] at S2 ⊢
 have NB := Lib.hid (show w.heap.size + 1 < n by have := R1.out.1.2.lt; omega)
 clear hS hn R1
 go_loopw [2] (fun i wr => ∃ (j : Nat) (v : Value), j ≤ 25 ∧ i = .int .i64 j ∧ SmS w wr n (smL v nilS (.slice (some ⟨w.heap.size + 1, 0, none⟩) 2 2) nilS nilS nilS) zeroT [(w.heap.size + 1, smKd)] [] ∧ OB (n + 1) wr v (vals (fun _ => 0) j)) (fun i _ => 25 - (intOf i).toNat)
 case atStart => exact ⟨0, nilS, by omega, rfl, S2.out, OB.nil _ _⟩
 case round =>
  obtain ⟨j, v, hj, rfl, hS, hO⟩ := hrel
  have S3 := Lib.hid hS
  have O3 := Lib.hid hO
  clear hS hO S2
  by_cases hlt : j < 25
  ·have c6 := S3.out.c.c 6 _ rfl
   have z1 : (j : Int) < 25 := by omega
   have sz := S3.out.c.lt
   go_wp2_with (at_builtin; refine wpList_ob rfl (.tmp 15) (.tmp 16) 25 25 rfl 22 _ (.int .i64 0) Tryz.underlying25 rfl rfl rfl rfl (by decide) (O3.out.below ((Below.refl _ _).alloc (Nat.le_refl _) (.cells #[.int .i64 0] 22))) rfl _ 1 [.int .i64 0] rfl (src_new Tryz.underlying25 wr [.int .i64 0] 22 1 rfl (one_ints .i64 [0])) (by rw [vals_len]; omega) (by simp; omega) ?_)
   intro r4 w4 o1 g1 p1
   rw [show (vals (fun _ => 0) j ++ [.int .i64 0] : List Value) = vals (fun _ => 0) (j + 1) from (vals_succ _ _).symm] at o1
   have S4 := Lib.hid ((S3.out.step ((Below.refl _ _).alloc (Nat.le_refl _) (.cells #[.int .i64 0] 22))).under ((O3.out.below ((Below.refl _ _).alloc (Nat.le_refl _) (.cells #[.int .i64 0] 22))).up g1 (by simp; omega)) (by omega) (fun q hq => by rcases List.mem_cons.1 hq with e | e; subst e; have := NB.out; show w.heap.size + 1 < n + 1; omega; cases e) (fun q hq => by cases hq))
   have O4 := Lib.hid o1
   obtain ⟨a, c, hv⟩ := o1.form
   rw [vals_len] at hv
   subst hv
   clear o1 g1 p1 S3 O3 c6
   have c6 := S4.out.c.c 6 _ rfl
   have cf := S4.out.c.f
   go_wp2
   go_roundw
   case rel => exact ⟨j + 1, _, by omega, by go_num, S4.out.set 6 _ _ rfl, O4.out.setLow (by show n < n + 1; omega) _⟩
   case measure => simp [intOf]; omega
  have E := Lib.hid (show j = 25 by omega)
  have z1 : ¬ (j : Int) < 25 := by omega
  have O5 := O3.out
  rw [E.out] at O5
  obtain ⟨gH, cH, hv, hcH, hS⟩ := S3.out.num O5 (by omega) (Nat.le_refl _)
  subst hv
  have S5 := Lib.hid hS
  have CH := Lib.hid hcH
  clear hS S3 O3 O5 E hj hlt hcH
  go_wp2
  obtain ⟨base, hbase⟩ : ∃ b, wr.heap.size = b := ⟨_, rfl⟩
  have HB := Lib.hid (show (gH < base ∧ n < base) ∧ n + 1 ≤ base from ⟨⟨by rw [← hbase]; exact (S5.out.h _ List.mem_cons_self).1.1, by rw [← hbase]; exact S5.out.c.lt⟩, by rw [← hbase]; exact S5.out.c.lt⟩)
  have HW := Lib.hid (show base ≤ wr.heap.size by omega)
  clear hbase z1
  go_loopw [3] (fun i ws => ∃ (j : Nat) (v : Value), j ≤ 16 ∧ i = .int .i64 j ∧ SmS w ws n (smL (.slice (some ⟨gH, 0, none⟩) 25 cH) v (.slice (some ⟨w.heap.size + 1, 0, none⟩) 2 2) nilS nilS nilS) zeroT [(w.heap.size + 1, smKd)] [(gH, 25, fun _ => 0)] ∧ OB base ws v (vals grF j) ∧ base ≤ ws.heap.size) (fun i _ => 16 - (intOf i).toNat)
  case atStart => exact ⟨0, nilS, by omega, rfl, S5.out, OB.nil _ _, HW.out⟩
  case round =>
   obtain ⟨j, v, hj, rfl, hS, hO, hsz⟩ := hrel
   have S6 := Lib.hid hS
   have O6 := Lib.hid hO
   clear hS hO S5 HW
   by_cases hlt : j < 16
   ·have c7 := S6.out.c.c 7 _ rfl
    have z1 : (j : Int) < 16 := by omega
    by_cases g5 : j = 5
    ·have GP := Lib.hid (show grF j = 1 by unfold grF; rw [if_pos (Or.inl g5)])
     have e5 : ((j : Int) == 5) = true := by rw [g5]; rfl
     have f5 : (j : Int) = 5 := by omega
     clear g5
     go_wp2_with (at_builtin; refine wpList_ob rfl (.tmp 38) (.tmp 40) 26 26 rfl 3 _ (.int .i64 0) Tryz.underlying26 rfl rfl rfl rfl (by decide) (O6.out.below ((Below.refl _ _).alloc (Nat.le_refl _) (.cells #[.int .i64 1] 3))) rfl _ 1 [.int .i64 1] rfl (src_new Tryz.underlying26 wr [.int .i64 1] 3 1 rfl (one_ints .i64 [1])) (by rw [vals_len]; omega) (by simp; omega) ?_)
     intro r7 w7 o1 g1 p1
     rw [show (vals grF j ++ [.int .i64 1] : List Value) = vals grF (j + 1) from by rw [vals_succ, GP.out]] at o1
     have B7 := (O6.out.below ((Below.refl _ _).alloc (Nat.le_refl _) (.cells #[.int .i64 1] 3))).up g1 (by simp; omega)
     have Z7 := Lib.hid (show base ≤ w7.heap.size by have := B7.size; simp at this; omega)
     have S7 := Lib.hid ((S6.out.step ((Below.refl _ _).alloc (Nat.le_refl _) (.cells #[.int .i64 1] 3))).under B7 HB.out.1.2 (fun q hq => by rcases List.mem_cons.1 hq with e | e; subst e; have := NB.out; have := HB.out.1.2; show w.heap.size + 1 < base; omega; cases e) (fun q hq => by rcases List.mem_cons.1 hq with e | e; subst e; exact HB.out.1.1; cases e))
     have O7 := Lib.hid o1
     obtain ⟨a, c, hv⟩ := o1.form
     rw [vals_len] at hv
     subst hv
     clear o1 g1 p1 B7 S6 O6 c7
     have c7 := S7.out.c.c 7 _ rfl
     have cf := S7.out.c.f
     go_wp2
     go_roundw
     case rel => exact ⟨j + 1, _, by omega, by go_num, S7.out.set 7 _ _ rfl, O7.out.setLow (by show n < base; exact HB.out.1.2) _, by rw [set_size]; exact Z7.out⟩
     case measure => simp [intOf]; omega
    have e5 : ((j : Int) == 5) = false := beq_false_of_ne (by omega)
    have f5 : ¬ (j : Int) = 5 := by omega
    by_cases g6 : j = 6
    ·have GP := Lib.hid (show grF j = 1 by unfold grF; rw [if_pos (Or.inr (Or.inl g6))])
     have e6 : ((j : Int) == 6) = true := by rw [g6]; rfl
     have f6 : (j : Int) = 6 := by omega
     clear g6
     go_wp2_with (at_builtin; refine wpList_ob rfl (.tmp 38) (.tmp 40) 26 26 rfl 3 _ (.int .i64 0) Tryz.underlying26 rfl rfl rfl rfl (by decide) (O6.out.below ((Below.refl _ _).alloc (Nat.le_refl _) (.cells #[.int .i64 1] 3))) rfl _ 1 [.int .i64 1] rfl (src_new Tryz.underlying26 wr [.int .i64 1] 3 1 rfl (one_ints .i64 [1])) (by rw [vals_len]; omega) (by simp; omega) ?_)
     intro r7 w7 o1 g1 p1
     rw [show (vals grF j ++ [.int .i64 1] : List Value) = vals grF (j + 1) from by rw [vals_succ, GP.out]] at o1
     have B7 := (O6.out.below ((Below.refl _ _).alloc (Nat.le_refl _) (.cells #[.int .i64 1] 3))).up g1 (by simp; omega)
     have Z7 := Lib.hid (show base ≤ w7.heap.size by have := B7.size; simp at this; omega)
     have S7 := Lib.hid ((S6.out.step ((Below.refl _ _).alloc (Nat.le_refl _) (.cells #[.int .i64 1] 3))).under B7 HB.out.1.2 (fun q hq => by rcases List.mem_cons.1 hq with e | e; subst e; have := NB.out; have := HB.out.1.2; show w.heap.size + 1 < base; omega; cases e) (fun q hq => by rcases List.mem_cons.1 hq with e | e; subst e; exact HB.out.1.1; cases e))
     have O7 := Lib.hid o1
     obtain ⟨a, c, hv⟩ := o1.form
     rw [vals_len] at hv
     subst hv
     clear o1 g1 p1 B7 S6 O6 c7
     have c7 := S7.out.c.c 7 _ rfl
     have cf := S7.out.c.f
     go_wp2
     go_roundw
     case rel => exact ⟨j + 1, _, by omega, by go_num, S7.out.set 7 _ _ rfl, O7.out.setLow (by show n < base; exact HB.out.1.2) _, by rw [set_size]; exact Z7.out⟩
     case measure => simp [intOf]; omega
    have e6 : ((j : Int) == 6) = false := beq_false_of_ne (by omega)
    have f6 : ¬ (j : Int) = 6 := by omega
    by_cases g9 : j = 9
    ·have GP := Lib.hid (show grF j = 1 by unfold grF; rw [if_pos (Or.inr (Or.inr (Or.inl g9)))])
     have e9 : ((j : Int) == 9) = true := by rw [g9]; rfl
     have f9 : (j : Int) = 9 := by omega
     clear g9
     go_wp2_with (at_builtin; refine wpList_ob rfl (.tmp 38) (.tmp 40) 26 26 rfl 3 _ (.int .i64 0) Tryz.underlying26 rfl rfl rfl rfl (by decide) (O6.out.below ((Below.refl _ _).alloc (Nat.le_refl _) (.cells #[.int .i64 1] 3))) rfl _ 1 [.int .i64 1] rfl (src_new Tryz.underlying26 wr [.int .i64 1] 3 1 rfl (one_ints .i64 [1])) (by rw [vals_len]; omega) (by simp; omega) ?_)
     intro r7 w7 o1 g1 p1
     rw [show (vals grF j ++ [.int .i64 1] : List Value) = vals grF (j + 1) from by rw [vals_succ, GP.out]] at o1
     have B7 := (O6.out.below ((Below.refl _ _).alloc (Nat.le_refl _) (.cells #[.int .i64 1] 3))).up g1 (by simp; omega)
     have Z7 := Lib.hid (show base ≤ w7.heap.size by have := B7.size; simp at this; omega)
     have S7 := Lib.hid ((S6.out.step ((Below.refl _ _).alloc (Nat.le_refl _) (.cells #[.int .i64 1] 3))).under B7 HB.out.1.2 (fun q hq => by rcases List.mem_cons.1 hq with e | e; subst e; have := NB.out; have := HB.out.1.2; show w.heap.size + 1 < base; omega; cases e) (fun q hq => by rcases List.mem_cons.1 hq with e | e; subst e; exact HB.out.1.1; cases e))
     have O7 := Lib.hid o1
     obtain ⟨a, c, hv⟩ := o1.form
     rw [vals_len] at hv
     subst hv
     clear o1 g1 p1 B7 S6 O6 c7
     have c7 := S7.out.c.c 7 _ rfl
     have cf := S7.out.c.f
     go_wp2
     go_roundw
     case rel => exact ⟨j + 1, _, by omega, by go_num, S7.out.set 7 _ _ rfl, O7.out.setLow (by show n < base; exact HB.out.1.2) _, by rw [set_size]; exact Z7.out⟩
     case measure => simp [intOf]; omega
    have e9 : ((j : Int) == 9) = false := beq_false_of_ne (by omega)
    have f9 : ¬ (j : Int) = 9 := by omega
    by_cases g10 : j = 10
    ·have GP := Lib.hid (show grF j = 1 by unfold grF; rw [if_pos (Or.inr (Or.inr (Or.inr g10)))])
     have e10 : ((j : Int) == 10) = true := by rw [g10]; rfl
     have f10 : (j : Int) = 10 := by omega
     clear g10
     go_wp2_with (at_builtin; refine wpList_ob rfl (.tmp 38) (.tmp 40) 26 26 rfl 3 _ (.int .i64 0) Tryz.underlying26 rfl rfl rfl rfl (by decide) (O6.out.below ((Below.refl _ _).alloc (Nat.le_refl _) (.cells #[.int .i64 1] 3))) rfl _ 1 [.int .i64 1] rfl (src_new Tryz.underlying26 wr [.int .i64 1] 3 1 rfl (one_ints .i64 [1])) (by rw [vals_len]; omega) (by simp; omega) ?_)
     intro r7 w7 o1 g1 p1
     rw [show (vals grF j ++ [.int .i64 1] : List Value) = vals grF (j + 1) from by rw [vals_succ, GP.out]] at o1
     have B7 := (O6.out.below ((Below.refl _ _).alloc (Nat.le_refl _) (.cells #[.int .i64 1] 3))).up g1 (by simp; omega)
     have Z7 := Lib.hid (show base ≤ w7.heap.size by have := B7.size; simp at this; omega)
     have S7 := Lib.hid ((S6.out.step ((Below.refl _ _).alloc (Nat.le_refl _) (.cells #[.int .i64 1] 3))).under B7 HB.out.1.2 (fun q hq => by rcases List.mem_cons.1 hq with e | e; subst e; have := NB.out; have := HB.out.1.2; show w.heap.size + 1 < base; omega; cases e) (fun q hq => by rcases List.mem_cons.1 hq with e | e; subst e; exact HB.out.1.1; cases e))
     have O7 := Lib.hid o1
     obtain ⟨a, c, hv⟩ := o1.form
     rw [vals_len] at hv
     subst hv
     clear o1 g1 p1 B7 S6 O6 c7
     have c7 := S7.out.c.c 7 _ rfl
     have cf := S7.out.c.f
     go_wp2
     go_roundw
     case rel => exact ⟨j + 1, _, by omega, by go_num, S7.out.set 7 _ _ rfl, O7.out.setLow (by show n < base; exact HB.out.1.2) _, by rw [set_size]; exact Z7.out⟩
     case measure => simp [intOf]; omega
    have e10 : ((j : Int) == 10) = false := beq_false_of_ne (by omega)
    have f10 : ¬ (j : Int) = 10 := by omega
    have GP := Lib.hid (show grF j = 0 by unfold grF; rw [if_neg (by rintro (h | h | h | h) <;> omega)])
    go_wp2_with (at_builtin; refine wpList_ob rfl (.tmp 38) (.tmp 40) 26 26 rfl 3 _ (.int .i64 0) Tryz.underlying26 rfl rfl rfl rfl (by decide) (O6.out.below ((Below.refl _ _).alloc (Nat.le_refl _) (.cells #[.int .i64 0] 3))) rfl _ 1 [.int .i64 0] rfl (src_new Tryz.underlying26 wr [.int .i64 0] 3 1 rfl (one_ints .i64 [0])) (by rw [vals_len]; omega) (by simp; omega) ?_)
    intro r7 w7 o1 g1 p1
    rw [show (vals grF j ++ [.int .i64 0] : List Value) = vals grF (j + 1) from by rw [vals_succ, GP.out]] at o1
    have B7 := (O6.out.below ((Below.refl _ _).alloc (Nat.le_refl _) (.cells #[.int .i64 0] 3))).up g1 (by simp; omega)
    have Z7 := Lib.hid (show base ≤ w7.heap.size by have := B7.size; simp at this; omega)
    have S7 := Lib.hid ((S6.out.step ((Below.refl _ _).alloc (Nat.le_refl _) (.cells #[.int .i64 0] 3))).under B7 HB.out.1.2 (fun q hq => by rcases List.mem_cons.1 hq with e | e; subst e; have := NB.out; have := HB.out.1.2; show w.heap.size + 1 < base; omega; cases e) (fun q hq => by rcases List.mem_cons.1 hq with e | e; subst e; exact HB.out.1.1; cases e))
    have O7 := Lib.hid o1
    obtain ⟨a, c, hv⟩ := o1.form
    rw [vals_len] at hv
    subst hv
    clear o1 g1 p1 B7 S6 O6 c7
    have c7 := S7.out.c.c 7 _ rfl
    have cf := S7.out.c.f
    go_wp2
    go_roundw
    case rel => exact ⟨j + 1, _, by omega, by go_num, S7.out.set 7 _ _ rfl, O7.out.setLow (by show n < base; exact HB.out.1.2) _, by rw [set_size]; exact Z7.out⟩
    case measure => simp [intOf]; omega
   have E := Lib.hid (show j = 16 by omega)
   have z1 : ¬ (j : Int) < 16 := by omega
   have O7 := O6.out
   rw [E.out] at O7
   obtain ⟨gG, cG, hv, hcG, hS⟩ := S6.out.num O7 (by omega) HB.out.2
   subst hv
   have S7 := Lib.hid hS
   have CG := Lib.hid hcG
   clear hS S6 O6 O7 E hj hlt hcG HB
   go_wp2_with fail
   refine (lat_any 10 10 _ (by decide) (by decide)).mono ?_
   rintro e w8 ⟨rfl, h⟩
   have S8 := Lib.hid (S7.out.step h)
   clear h S7
   go_wp2_with fail
   refine (lat_any 54 10 _ (by decide) (by decide)).mono ?_
   rintro e w9 ⟨rfl, h⟩
   have S9 := Lib.hid (S8.out.step h)
   clear h S8
   go_wp2_with fail
   refine (lat_any 54 54 _ (by decide) (by decide)).mono ?_
   rintro e w10 ⟨rfl, h⟩
   have S10 := Lib.hid (S9.out.step h)
   clear h S9
   go_wp2_with fail
   refine (lat_any 10 54 _ (by decide) (by decide)).mono ?_
   rintro e w11 ⟨rfl, h⟩
   have S11 := Lib.hid (S10.out.step h)
   clear h S10
   obtain ⟨lb, hlb⟩ : ∃ b, w11.heap.size = b := ⟨_, rfl⟩
   have c9 := fun (o : Obj) => (S11.out.c.alloc o).c 9 _ rfl
   have cf := fun (o : Obj) => (S11.out.c.alloc o).f
   go_wp2_with fail
   refine calls_gen (S := fun W => SmS w W n (smL (.slice (some ⟨gH, 0, none⟩) 25 cH) (.slice (some ⟨gG, 0, none⟩) 16 cG) (.slice (some ⟨w.heap.size + 1, 0, none⟩) 2 2) (.slice (some ⟨lb, 0, none⟩) 4 4) nilS nilS) zeroT [(lb, ptL smpL), (w.heap.size + 1, smKd)] [(gG, 16, grF), (gH, 25, fun _ => 0)]) (by rw [← hlb]; exact (S11.out.add _ rfl (ptL smpL) 24).set 9 _ _ rfl) (fun W12 hS => ?_)
   try rw [hlb]
   have S12 := Lib.hid hS
   clear hS S11 c9 cf hlb
   refine (lat_any 2 2 _ (by decide) (by decide)).mono ?_
   rintro e w13 ⟨rfl, h⟩
   have S13 := Lib.hid (S12.out.step h)
   clear h S12
   go_wp2_with fail
   refine (lat_any 62 2 _ (by decide) (by decide)).mono ?_
   rintro e w14 ⟨rfl, h⟩
   have S14 := Lib.hid (S13.out.step h)
   clear h S13
   go_wp2_with fail
   refine (lat_any 62 62 _ (by decide) (by decide)).mono ?_
   rintro e w15 ⟨rfl, h⟩
   have S15 := Lib.hid (S14.out.step h)
   clear h S14
   go_wp2_with fail
   refine (lat_any 2 62 _ (by decide) (by decide)).mono ?_
   rintro e w16 ⟨rfl, h⟩
   have S16 := Lib.hid (S15.out.step h)
   clear h S15
   go_wp2_with fail
   refine (lat_any 2 2 _ (by decide) (by decide)).mono ?_
   rintro e w17 ⟨rfl, h⟩
   have S17 := Lib.hid (S16.out.step h)
   clear h S16
   obtain ⟨r0, hr0⟩ : ∃ b, w17.heap.size = b := ⟨_, rfl⟩
   go_wp2_with fail
   refine calls_gen (S := fun W => SmS w W n (smL (.slice (some ⟨gH, 0, none⟩) 25 cH) (.slice (some ⟨gG, 0, none⟩) 16 cG) (.slice (some ⟨w.heap.size + 1, 0, none⟩) 2 2) (.slice (some ⟨lb, 0, none⟩) 4 4) nilS nilS) zeroT [(r0, ptL smpR0), (lb, ptL smpL), (w.heap.size + 1, smKd)] [(gG, 16, grF), (gH, 25, fun _ => 0)]) (S17.out.add _ hr0.symm (ptL smpR0) 24) (fun W18 hS => ?_)
   try rw [hr0]
   have S18 := Lib.hid hS
   clear hS S17 hr0
   refine (lat_any 24 24 _ (by decide) (by decide)).mono ?_
   rintro e w19 ⟨rfl, h⟩
   have S19 := Lib.hid (S18.out.step h)
   clear h S18
   go_wp2_with fail
   refine (lat_any 24 40 _ (by decide) (by decide)).mono ?_
   rintro e w20 ⟨rfl, h⟩
   have S20 := Lib.hid (S19.out.step h)
   clear h S19
   go_wp2_with fail
   refine (lat_any 40 40 _ (by decide) (by decide)).mono ?_
   rintro e w21 ⟨rfl, h⟩
   have S21 := Lib.hid (S20.out.step h)
   clear h S20
   go_wp2_with fail
   refine (lat_any 40 24 _ (by decide) (by decide)).mono ?_
   rintro e w22 ⟨rfl, h⟩
   have S22 := Lib.hid (S21.out.step h)
   clear h S21
   go_wp2_with fail
   refine (lat_any 24 24 _ (by decide) (by decide)).mono ?_
   rintro e w23 ⟨rfl, h⟩
   have S23 := Lib.hid (S22.out.step h)
   clear h S22
   obtain ⟨r1, hr1⟩ : ∃ b, w23.heap.size = b := ⟨_, rfl⟩
   have c10 := fun (o o' : Obj) => ((S23.out.c.alloc o).alloc o').c 10 _ rfl
   have cf := fun (o o' : Obj) => ((S23.out.c.alloc o).alloc o').f
   go_wp2_with fail
   refine calls_gen (S := fun W => SmS w W n (smL (.slice (some ⟨gH, 0, none⟩) 25 cH) (.slice (some ⟨gG, 0, none⟩) 16 cG) (.slice (some ⟨w.heap.size + 1, 0, none⟩) 2 2) (.slice (some ⟨lb, 0, none⟩) 4 4) (.slice (some ⟨r1 + 1, 0, none⟩) 2 2) nilS) zeroT [(r1 + 1, [.slice (some ⟨r0, 0, none⟩) 5 5, .slice (some ⟨r1, 0, none⟩) 5 5]), (r1, ptL smpR1), (r0, ptL smpR0), (lb, ptL smpL), (w.heap.size + 1, smKd)] [(gG, 16, grF), (gH, 25, fun _ => 0)]) (by rw [← hr1]; exact ((S23.out.add _ rfl (ptL smpR1) 24).add (w23.heap.size + 1) (by simp) [.slice (some ⟨r0, 0, none⟩) 5 5, .slice (some ⟨w23.heap.size, 0, none⟩) 5 5] 28).set 10 _ _ rfl) (fun W24 hS => ?_)
   try rw [hr1]
   have S24 := Lib.hid hS
   clear hS S23 hr1 c10 cf
   refine (lat_any 36 24 _ (by decide) (by decide)).mono ?_
   rintro e w25 ⟨rfl, h⟩
   have S25 := Lib.hid (S24.out.step h)
   clear h S24
   go_wp2_with fail
   refine (lat_any 36 2 _ (by decide) (by decide)).mono ?_
   rintro e w26 ⟨rfl, h⟩
   have S26 := Lib.hid (S25.out.step h)
   clear h S25
   go_wp2_with fail
   refine (lat_any 40 36 _ (by decide) (by decide)).mono ?_
   rintro e w27 ⟨rfl, h⟩
   have S27 := Lib.hid (S26.out.step h)
   clear h S26
   go_wp2_with fail
   refine (lat_any 62 36 _ (by decide) (by decide)).mono ?_
   rintro e w28 ⟨rfl, h⟩
   have S28 := Lib.hid (S27.out.step h)
   clear h S27
   go_wp2_with fail
   refine (lat_any 28 40 _ (by decide) (by decide)).mono ?_
   rintro e w29 ⟨rfl, h⟩
   have S29 := Lib.hid (S28.out.step h)
   clear h S28
   go_wp2_with fail
   refine (lat_any 28 62 _ (by decide) (by decide)).mono ?_
   rintro e w30 ⟨rfl, h⟩
   have S30 := Lib.hid (S29.out.step h)
   clear h S29
   obtain ⟨gb, hgb⟩ : ∃ b, w30.heap.size = b := ⟨_, rfl⟩
   have c11 := fun (o : Obj) => (S30.out.c.alloc o).c 11 _ rfl
   have cf := fun (o : Obj) => (S30.out.c.alloc o).f
   have hne : n ≠ w.heap.size := by have := S30.out.z; omega
   have rf := fun (o : Obj) (u : Value) => ((S30.out.r.alloc o).far hne 11 u).f
   have F := fun (o : Obj) (u : Value) (i : Nat) (x : Value) (h : ((smL (.slice (some ⟨gH, 0, none⟩) 25 cH) (.slice (some ⟨gG, 0, none⟩) 16 cG) (.slice (some ⟨w.heap.size + 1, 0, none⟩) 2 2) (.slice (some ⟨lb, 0, none⟩) 4 4) (.slice (some ⟨r1 + 1, 0, none⟩) 2 2) nilS).set 11 u)[i]? = some x) => (bw_put (i := 11) (S30.out.c.alloc o) u _ rfl).c i x h
   have R := fun (o : Obj) (u : Value) (i : Nat) (x : Value) (h : zeroT[i]? = some x) => ((S30.out.r.alloc o).far hne 11 u).c i x h
   have f0 := fun (o : Obj) (u : Value) => F o u 0 _ rfl
   have f1 := fun (o : Obj) (u : Value) => F o u 1 _ rfl
   have f2 := fun (o : Obj) (u : Value) => F o u 2 _ rfl
   have f3 := fun (o : Obj) (u : Value) => F o u 3 _ rfl
   have f4 := fun (o : Obj) (u : Value) => F o u 4 _ rfl
   have f5 := fun (o : Obj) (u : Value) => F o u 5 _ rfl
   have f6 := fun (o : Obj) (u : Value) => F o u 6 _ rfl
   have f7 := fun (o : Obj) (u : Value) => F o u 7 _ rfl
   have f8 := fun (o : Obj) (u : Value) => F o u 8 _ rfl
   have f9 := fun (o : Obj) (u : Value) => F o u 9 _ rfl
   have f10 := fun (o : Obj) (u : Value) => F o u 10 _ rfl
   have f11 := fun (o : Obj) (u : Value) => F o u 11 _ rfl
   have f12 := fun (o : Obj) (u : Value) => F o u 12 _ rfl
   have f13 := fun (o : Obj) (u : Value) => F o u 13 _ rfl
   have f14 := fun (o : Obj) (u : Value) => F o u 14 _ rfl
   have f15 := fun (o : Obj) (u : Value) => F o u 15 _ rfl
   have q0 := fun (o : Obj) (u : Value) => R o u 0 _ rfl
   have q1 := fun (o : Obj) (u : Value) => R o u 1 _ rfl
   have q2 := fun (o : Obj) (u : Value) => R o u 2 _ rfl
   have q3 := fun (o : Obj) (u : Value) => R o u 3 _ rfl
   have q4 := fun (o : Obj) (u : Value) => R o u 4 _ rfl
   have q5 := fun (o : Obj) (u : Value) => R o u 5 _ rfl
   have q6 := fun (o : Obj) (u : Value) => R o u 6 _ rfl
   have q7 := fun (o : Obj) (u : Value) => R o u 7 _ rfl
   have q8 := fun (o : Obj) (u : Value) => R o u 8 _ rfl
   have q9 := fun (o : Obj) (u : Value) => R o u 9 _ rfl
   have q10 := fun (o : Obj) (u : Value) => R o u 10 _ rfl
   have q11 := fun (o : Obj) (u : Value) => R o u 11 _ rfl
   have q12 := fun (o : Obj) (u : Value) => R o u 12 _ rfl
   have q13 := fun (o : Obj) (u : Value) => R o u 13 _ rfl
   have q14 := fun (o : Obj) (u : Value) => R o u 14 _ rfl
   have q15 := fun (o : Obj) (u : Value) => R o u 15 _ rfl
   clear F R
   go_wp2
   have S31 := (S30.out.add _ hgb.symm gtL 59).set 11 (.slice (some ⟨gb, 0, none⟩) 3 3) _ rfl
   refine post_gen (S := fun W => SmS w W n (smL (.slice (some ⟨gH, 0, none⟩) 25 cH) (.slice (some ⟨gG, 0, none⟩) 16 cG) (.slice (some ⟨w.heap.size + 1, 0, none⟩) 2 2) (.slice (some ⟨lb, 0, none⟩) 4 4) (.slice (some ⟨r1 + 1, 0, none⟩) 2 2) (.slice (some ⟨gb, 0, none⟩) 3 3)) (smL (.slice (some ⟨gH, 0, none⟩) 25 cH) (.slice (some ⟨gG, 0, none⟩) 16 cG) (.slice (some ⟨w.heap.size + 1, 0, none⟩) 2 2) (.slice (some ⟨lb, 0, none⟩) 4 4) (.slice (some ⟨r1 + 1, 0, none⟩) 2 2) (.slice (some ⟨gb, 0, none⟩) 3 3)) [(gb, gtL), (r1 + 1, [.slice (some ⟨r0, 0, none⟩) 5 5, .slice (some ⟨r1, 0, none⟩) 5 5]), (r1, ptL smpR1), (r0, ptL smpR0), (lb, ptL smpL), (w.heap.size + 1, smKd)] [(gG, 16, grF), (gH, 25, fun _ => 0)]) ((((((((((((((((S31.setR 0 (.int .i64 64) _ rfl).setR 1 (.int .i64 68719476736) _ rfl).setR 2 (.int .i64 4) _ rfl).setR 3 (.int .i64 4) _ rfl).setR 4 (.int .i64 0) _ rfl).setR 5 (.int .i64 0) _ rfl).setR 6 (.slice (some ⟨gH, 0, none⟩) 25 cH) _ rfl).setR 7 (.slice (some ⟨gG, 0, none⟩) 16 cG) _ rfl).setR 8 (.slice (some ⟨w.heap.size + 1, 0, none⟩) 2 2) _ rfl).setR 9 (.slice (some ⟨lb, 0, none⟩) 4 4) _ rfl).setR 10 (.slice (some ⟨r1 + 1, 0, none⟩) 2 2) _ rfl).setR 11 (.slice (some ⟨gb, 0, none⟩) 3 3) _ rfl).setR 12 (.int .i64 137438953472) _ rfl).setR 13 (.int .i64 42949672960) _ rfl).setR 14 (.int .u32 0) _ rfl).setR 15 (.int .i64 2) _ rfl) (fun W9 hS => ?_)
   have e0 := hS.r.c 0 _ rfl
   have e1 := hS.r.c 1 _ rfl
   have e2 := hS.r.c 2 _ rfl
   have e3 := hS.r.c 3 _ rfl
   have e4 := hS.r.c 4 _ rfl
   have e5 := hS.r.c 5 _ rfl
   have e6 := hS.r.c 6 _ rfl
   have e7 := hS.r.c 7 _ rfl
   have e8 := hS.r.c 8 _ rfl
   have e9 := hS.r.c 9 _ rfl
   have e10 := hS.r.c 10 _ rfl
   have e11 := hS.r.c 11 _ rfl
   have e12 := hS.r.c 12 _ rfl
   have e13 := hS.r.c 13 _ rfl
   have e14 := hS.r.c 14 _ rfl
   have e15 := hS.r.c 15 _ rfl
   have M := smp_m hS CH.out CG.out
   exact bodyPost_ret (v := .agg #[.int .i64 64, .int .i64 68719476736, .int .i64 4, .int .i64 4, .int .i64 0, .int .i64 0, .slice (some ⟨gH, 0, none⟩) 25 cH, .slice (some ⟨gG, 0, none⟩) 16 cG, .slice (some ⟨w.heap.size + 1, 0, none⟩) 2 2, .slice (some ⟨lb, 0, none⟩) 4 4, .slice (some ⟨r1 + 1, 0, none⟩) 2 2, .slice (some ⟨gb, 0, none⟩) 3 3, .int .i64 137438953472, .int .i64 42949672960, .int .u32 0, .int .i64 2]) (by simp [results, Tryz.results25, go_sem, e0, e1, e2, e3, e4, e5, e6, e7, e8, e9, e10, e11, e12, e13, e14, e15]) rfl ⟨⟨_, rfl, M⟩, hS.b⟩
end
end Go.Proofs.YtmdjnamkbekjkaaGreatDoor

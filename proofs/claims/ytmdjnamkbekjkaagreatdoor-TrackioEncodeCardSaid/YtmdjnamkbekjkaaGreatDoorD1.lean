/- -/
import Derived.Test.YtmdjnamkbekjkaaGreatDoorB9
import Derived.Test.YtmdjnamkbekjkaaGreatDoorB7
import Derived.Test.YtmdjnamkbekjkaaGreatDoorBp
import Derived.Test.YtmdjnamkbekjkaaGreatDoorBo
namespace Go.Proofs.YtmdjnamkbekjkaaGreatDoor
open Go.RowKit
set_option linter.unusedVariables false
set_option linter.unusedSimpArgs false
theorem BW.grown {W W' : World} {n : Nat} {l : List Value} {row : Option Nat} (k : BW W n l) (h : W.grownBy W' row) (ne : some n ≠ row) : BW W' n l :=
 ⟨fun i v e => (h.cell_far ⟨n, i, none⟩ k.lt ne).trans (k.c i v e), fun j => (h.frozen_far ⟨n, j, none⟩ k.lt ne).trans (k.f j), Nat.lt_of_lt_of_le k.lt h.size⟩
structure RdS (w W : World) (nb : Nat) (a : Option Addr) (n c : Nat) (l : List Int) (s : IS) (lr : List Value) : Prop where
 i : IN W nb a n c l s
 r : BW W w.heap.size lr
 g : w.grownBy W (some nb)
 z : nb < w.heap.size
theorem RdS.num {w W W' : World} {nb : Nat} {a : Option Addr} {n c : Nat} {l : List Int} {s s' : IS} {lr : List Value} (S : RdS w W nb a n c l s lr) (h : IN W' nb a n c l s') (g : W.grownBy W' (some nb)) : RdS w W' nb a n c l s' lr :=
 ⟨h, S.r.grown g (fun e => by have := S.z; injection e with e; omega), S.g.trans g, S.z⟩
theorem v2InfoX : (Tryz.prog.info? 24).map (fun i => (i.zero, i.size, i.bytes)) = some (some (.agg #[.int .i64 0, .int .i64 0]), 2, 16) := by kernel_rfl
def ptV (xs : List (Int × Int)) : List Value := xs.flatMap (fun p => [.int .i64 p.1, .int .i64 p.2])
theorem ptV_add (xs : List (Int × Int)) (p : Int × Int) : ptV (xs ++ [p]) = ptV xs ++ [.int .i64 p.1, .int .i64 p.2] := by
 unfold ptV; rw [List.flatMap_append]; simp
structure RlS (w W : World) (nb : Nat) (a : Option Addr) (n c : Nat) (l : List Int) (s : IS) (v : Value) (xs : List (Int × Int)) : Prop where
 i : IN W nb a n c l s
 o : W.ownsRow w.heap.size 24 2 v xs.length (ptV xs)
 g : w.grownBy W (some nb)
 z : nb < w.heap.size
 b : 0 < n → ∀ p, a = some p → p.block < w.heap.size
theorem RlS.num {w W W' : World} {nb : Nat} {a : Option Addr} {n c : Nat} {l : List Int} {s s' : IS} {v : Value} {xs : List (Int × Int)} (S : RlS w W nb a n c l s v xs) (h : IN W' nb a n c l s') (g : W.grownBy W' (some nb)) : RlS w W' nb a n c l s' v xs :=
 ⟨h, S.o.kept g (Or.inr (fun e => by have := (S.o.lt nb e).1; have := S.z; omega)), S.g.trans g, S.z, S.b⟩
theorem RlS.app {w W W1 : World} {nb : Nat} {a : Option Addr} {n c : Nat} {l : List Int} {s : IS} {v v' : Value} {xs : List (Int × Int)} {p : Int × Int} (S : RlS w W nb a n c l s v xs) (o : Obj) (h : W1.ownsRow w.heap.size 24 2 v' (xs.length + 1) (ptV xs ++ [.int .i64 p.1, .int .i64 p.2])) (g : (W.alloc o).grownBy W1 v.ownBlock) : RlS w W1 nb a n c l s v' (xs ++ [p]) := by
 have b := (Below.refl W.heap.size W).alloc (Nat.le_refl _) o
 have i1 := S.i.grown (row := none) (grown_below b none) (fun j e => by cases e)
 have lo : ∀ j, v.ownBlock = some j → w.heap.size ≤ j := fun j e => (S.o.lt j e).1
 refine ⟨i1.grown g (fun j e => ⟨by have := lo j e; have := S.z; omega, fun h0 q hq => by have := lo j e; have := S.b h0 q hq; omega⟩), by rw [ptV_add, List.length_append]; exact h, ⟨(g.os.trans b.os).trans S.g.os, (g.tape.trans b.tape).trans S.g.tape, (g.output.trans b.output).trans S.g.output, by have := S.g.size; have := b.size; have := g.size; omega, fun k hk e => ?_⟩, S.z, S.b⟩
 have z := S.g.size
 exact ((g.block k (by have := b.size; omega) (fun q => by have := lo k q.symm; omega)).trans (b.block k (by omega))).trans (S.g.block k hk e)
structure SmD (w W : World) (B : Nat) (s t : Ds) : Prop where
 s : DsM B W s
 t : DsM B W t
 l : Below w.heap.size w W
 z : B ≤ w.heap.size
theorem SmD.step {w W W' : World} {B : Nat} {s t : Ds} (S : SmD w W B s t) (h : Below W.heap.size W W') : SmD w W' B s t :=
 ⟨S.s.keep h (by have := S.z; have := S.l.size; omega), S.t.keep h (by have := S.z; have := S.l.size; omega), S.l.trans (h.mono S.l.size), S.z⟩
theorem get_ext {α : Type} {l m : List α} (z : α) (hl : l.length = m.length) (h : ∀ i, i < l.length → l.getD i z = m.getD i z) : l = m := by
 apply List.ext_getElem hl
 intro i h1 h2
 have := h i h1
 rw [List.getD_eq_getElem?_getD, List.getD_eq_getElem?_getD, List.getElem?_eq_getElem h1, List.getElem?_eq_getElem h2] at this
 exact this
set_option maxRecDepth 100000 in
set_option maxHeartbeats 4000000 in
theorem r15Same1_any (a b : Option Addr × Nat) (l m : List (Int × Int)) (B : Nat) (w : World) (hB : B ≤ w.heap.size) (hmax : l.length ≤ 100000) (D : DsM B w (dsOf a l)) (F : DsM B w (dsOf b m)) :
  Calls Tryz.prog 38 #[.slice a.1 l.length a.2, .slice b.1 m.length b.2] w fun e w' => e = .returned (.bool (decide (l = m))) ∧ Below w.heap.size w w' := by
 have S0 := Lib.hid (SmD.mk (w := w) D F (Below.refl _ _) hB)
 obtain ⟨q, hq⟩ : ∃ q, decide (l = m) = q := ⟨_, rfl⟩
 rw [hq]
 have NF := Lib.hid (fun (h : ¬ l = m) => (show false = q by rw [← hq]; exact (decide_eq_false h).symm))
 have NY := Lib.hid (fun (h : l = m) => (show true = q by rw [← hq]; exact (decide_eq_true h).symm))
 clear hq D F hB
 by_cases hlen : l.length = m.length
 rotate_left
 ·have E := Lib.hid (NF.out (fun h => hlen (by rw [h])))
  have g : ¬ (l.length : Int) = (m.length : Int) := by omega
  have g2 : ((l.length : Int) == (m.length : Int)) = false := beq_false_of_ne g
  clear NF NY hlen
  go_enter Tryz.func38, Tryz.ntmps38
  go_wp2
  go_ret
  exact ⟨by rw [← E.out]; rfl, S0.out.l⟩
 have HL := Lib.hid hlen
 rw [← hlen]
 clear hlen
 go_enter Tryz.func38, Tryz.ntmps38
 go_wp2
 go_loopw [5] (fun i wr => ∃ j : Nat, j ≤ l.length ∧ i = .int .i64 j ∧ Hid (∀ k, k < j → l.getD k (0, 0) = m.getD k (0, 0)) ∧ SmD w wr B (dsOf a l) (dsOf b m)) (fun i _ => l.length - (intOf i).toNat)
 case atStart => exact ⟨0, by omega, rfl, Lib.hid (fun k h => absurd h (by omega)), S0.out⟩
 case round =>
  obtain ⟨j, hj, rfl, I, hS⟩ := hrel
  have S1 := Lib.hid hS
  clear hS S0
  by_cases hlt : j < l.length
  ·obtain ⟨b1, o1, ha, hb1, hc1⟩ := S1.out.s.at' (by show 0 < l.length; omega)
   obtain ⟨b2, o2, hb, hb2, hc2⟩ := S1.out.t.at' (by have := HL.out; show 0 < m.length; omega)
   have ha : a.1 = some ⟨b1, o1, none⟩ := ha
   have hb : b.1 = some ⟨b2, o2, none⟩ := hb
   obtain ⟨k0, k1⟩ := hc1 j hlt
   obtain ⟨k2, k3⟩ := hc2 j (by have := HL.out; show j < m.length; omega)
   have d0 : wr.cell? ⟨b1, o1 + j * 2, none⟩ = some (.int .i64 (l.getD j (0, 0)).1) := k0
   have d1 : wr.cell? ⟨b1, o1 + j * 2 + 1, none⟩ = some (.int .i64 (l.getD j (0, 0)).2) := k1
   have d2 : wr.cell? ⟨b2, o2 + j * 2, none⟩ = some (.int .i64 (m.getD j (0, 0)).1) := k2
   have d3 : wr.cell? ⟨b2, o2 + j * 2 + 1, none⟩ = some (.int .i64 (m.getD j (0, 0)).2) := k3
   have z0 : (0 : Int) ≤ (j : Int) := by omega
   have z1 : (j : Int) < (l.length : Int) := by omega
   have NB := Lib.hid (fun (h : ¬ l.getD j (0, 0) = m.getD j (0, 0)) => NF.out (fun e => h (by rw [e])))
   have I2 := Lib.hid (fun (h : l.getD j (0, 0) = m.getD j (0, 0)) => all_nx (P := fun k => l.getD k (0, 0) = m.getD k (0, 0)) I.out h)
   clear k0 k1 k2 k3 hc1 hc2 hb1 hb2 NF I
   generalize l.getD j (0, 0) = p at *
   generalize m.getD j (0, 0) = r at *
   obtain ⟨x, y⟩ := p
   obtain ⟨u, v⟩ := r
   dsimp only at d0 d1 d2 d3
   rw [ha, hb]
   obtain ⟨z, hz⟩ : ∃ z, (x == u && y == v) = z := ⟨_, rfl⟩
   have ev : ∀ w : World, (Op.equalIn 10000 24 (.agg #[.int .i64 x, .int .i64 y]) (.agg #[.int .i64 u, .int .i64 v])).run Tryz.prog w = .ok z w := fun w => by rw [eqV2, hz]
   have hzz := Lib.hid hz
   clear hz ha hb
   cases z with
   | false =>
    have E := Lib.hid (NB.out (fun h => by have := hzz.out; injection h with h1 h2; subst h1 h2; simp at this))
    clear NB I2 NY hzz
    go_wp2
    go_quiet (fail)
    go_wp2
    go_ret
    exact ⟨by rw [← E.out]; rfl, below_drewN S1.out.l _⟩
   | true =>
    have I3 := Lib.hid (I2.out (by have := hzz.out; simp at this; rw [this.1, this.2]))
    clear NB I2 hzz
    go_wp2
    go_quiet (fail)
    go_wp2
    go_roundw
    case rel => exact ⟨j + 1, by omega, by go_num, I3, S1.out.step (below_drewN (Below.refl _ _) _)⟩
    case measure => simp [intOf]; omega
  ·have E := Lib.hid (NY.out (get_ext (0, 0) HL.out (fun i hi => I.out i (by omega))))
   have z1 : ¬ (j : Int) < (l.length : Int) := by omega
   clear NF NY I
   go_wp2
   go_ret
   exact ⟨by rw [← E.out]; rfl, S1.out.l⟩
end Go.Proofs.YtmdjnamkbekjkaaGreatDoor

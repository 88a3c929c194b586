/- -/
import Derived.Test.YtmdjnamkbekjkaaGreatDoorD1
import Derived.Test.YtmdjnamkbekjkaaGreatDoorB7
import Derived.Deep.CutBlock
import Derived.Deep.DeepCutAuto
namespace Go.Proofs.YtmdjnamkbekjkaaGreatDoor
open Go.RowKit
set_option linter.unusedVariables false
set_option linter.unusedSimpArgs false
def Stab (lo hi : Nat) (F : World → Prop) : Prop := ∀ W W' : World, F W → W.heap.size ≤ W'.heap.size → (∀ j, lo ≤ j → j < hi → W'.heap[j]? = W.heap[j]?) → F W'
theorem Stab.mono {lo hi lo' hi' : Nat} {F : World → Prop} (S : Stab lo hi F) (h1 : lo' ≤ lo) (h2 : hi ≤ hi') : Stab lo' hi' F := fun W W' f hs k => S W W' f hs (fun j a b => k j (by omega) (by omega))
theorem Stab.and {lo hi : Nat} {F G : World → Prop} (S : Stab lo hi F) (T : Stab lo hi G) : Stab lo hi (fun W => F W ∧ G W) := fun W W' f hs k => ⟨S W W' f.1 hs k, T W W' f.2 hs k⟩
theorem Stab.true {lo hi : Nat} : Stab lo hi (fun _ => True) := fun _ _ _ _ _ => trivial
def Lies (lo hi : Nat) (v : Value) (n : Nat) (xs : List Value) (W : World) : Prop :=
 ∃ a c, v = .slice a n c ∧ n ≤ c ∧ c ≤ maxLen ∧ (0 < n → ∃ g, a = some ⟨g, 0, none⟩ ∧ lo ≤ g ∧ g < hi ∧ ∀ i u, xs[i]? = some u → W.cell? ⟨g, i, none⟩ = some u)
theorem Lies.stab (lo hi : Nat) (v : Value) (n : Nat) (xs : List Value) : Stab lo hi (Lies lo hi v n xs) := fun W W' ⟨a, c, e, h1, h2, h⟩ _ k =>
 ⟨a, c, e, h1, h2, fun h0 => by
  obtain ⟨g, ea, l1, l2, hc⟩ := h h0
  exact ⟨g, ea, l1, l2, fun i u e => (World.cell?_of_block (w := W) (a := ⟨g, i, none⟩) (k g l1 l2)).trans (hc i u e)⟩⟩
theorem Lies.mono {lo hi lo' hi' : Nat} {v : Value} {n : Nat} {xs : List Value} {W : World} (h : Lies lo hi v n xs W) (h1 : lo' ≤ lo) (h2 : hi ≤ hi') : Lies lo' hi' v n xs W := by
 obtain ⟨a, c, e, g1, g2, g3⟩ := h
 exact ⟨a, c, e, g1, g2, fun h0 => by obtain ⟨g, ea, l1, l2, hc⟩ := g3 h0; exact ⟨g, ea, by omega, by omega, hc⟩⟩
theorem lies_owned {w : World} {base : Nat} {e : TypeId} {sz : Nat} {v : Value} {n : Nat} {xs : List Value} (h : w.ownsRow base e sz v n xs) : Lies base w.heap.size v n xs w := by
 have hc := fun {g : Nat} (hg : v.ownBlock = some g) => h.cells hg
 obtain ⟨_, ⟨rfl, rfl⟩ | ⟨g, cap, cur, rfl, hb, hg, hn, hm, hs, ht⟩⟩ := h
 ·exact ⟨none, 0, rfl, by omega, by unfold maxLen; omega, fun h => absurd h (by omega)⟩
 ·refine ⟨_, cap, rfl, hn, hm, fun h0 => ⟨g, rfl, hb, ?_, fun i u hu => ?_⟩⟩
  ·rcases Nat.lt_or_ge g w.heap.size with l | l
   ·exact l
   ·rw [Array.getElem?_eq_none l] at hg; cases hg
  ·have k0 := hc (g := g) rfl _ _ hu
   have a0 : (⟨g, 0, none⟩ : Addr).add i = ⟨g, i, none⟩ := by simp [Addr.add]; omega
   rw [a0] at k0
   exact k0
theorem cnt_bd {lo hi : Int} (h0 : 0 ≤ lo) (l : List Int) (s : IS) : (0 ≤ cntV lo hi l s ∧ cntV lo hi l s ≤ max 0 hi) := by
 unfold cntV
 split
 ·split
  ·omega
  ·rename_i k; unfold cntBad at k; omega
 ·omega
theorem fxInfoX : (Tryz.prog.info? 22).map (fun i => (i.zero, i.size, i.bytes)) = some (some (.int .i64 0), 1, 8) := by kernel_rfl
theorem intInfo : (Tryz.prog.info? 3).map (fun i => (i.zero, i.size, i.bytes)) = some (some (.int .i64 0), 1, 8) := by kernel_rfl
theorem kindInfo : (Tryz.prog.info? 94).map (fun i => (i.zero, i.size, i.bytes)) = some (some (.agg #[.int .i64 0, .int .i64 0, .bool false]), 3, 24) := by kernel_rfl
abbrev gdL (rate cell cols rows x y : Int) (vh vg vk : Value) : List Value := [.int .i64 rate, .int .i64 cell, .int .i64 cols, .int .i64 rows, .int .i64 x, .int .i64 y, vh, vg, vk, .slice none 0 0, .slice none 0 0, .slice none 0 0, .int .i64 0, .int .i64 0, .int .u32 0, .int .i64 0]
abbrev sl0 : Value := .slice none 0 0
theorem bind_eq {α β : Type} {c : Cod α} {d : α → Cod β} {l : List Int} {s s' s'' : IS} {x : α} {y : β} (h1 : c.rd l s = (x, s')) (h2 : (d x).rd l s' = (y, s'')) : (c.bind d).rd l s = ((x, y), s'') := by
 show (((c.rd l s).1, ((d (c.rd l s).1).rd l (c.rd l s).2).1), ((d (c.rd l s).1).rd l (c.rd l s).2).2) = _
 rw [h1]
 dsimp only
 rw [h2]
theorem lst_eq {α : Type} {lo hi : Int} {c : Cod α} {l : List Int} {s s' s'' : IS} {n : Int} {xs : List α} (h1 : (cntC lo hi).rd l s = (n, s')) (h2 : repR (c.rd l) n.toNat s' = (xs, s'')) : (lstC lo hi c).rd l s = (xs, s'') := by
 have e := bind_eq (c := cntC lo hi) (d := fun n => repC n.toNat c) (l := l) h1 (show (repC n.toNat c).rd l s' = (xs, s'') from h2)
 show ((((cntC lo hi).bind (fun n => repC n.toNat c)).rd l s).1.2, (((cntC lo hi).bind (fun n => repC n.toNat c)).rd l s).2) = _
 rw [e]
theorem rep_next {α : Type} {f : IS → α × IS} {n j : Nat} {s s' : IS} {x : α} {xs zs : List α} {z : IS} (hj : j < n) (he : s.err = 0) (hf : f s = (x, s')) (h : (xs ++ (repR f (n - j) s).1, (repR f (n - j) s).2) = (zs, z)) : ((xs ++ [x]) ++ (repR f (n - (j + 1)) s').1, (repR f (n - (j + 1)) s').2) = (zs, z) := by
 rw [← h, show n - j = (n - (j + 1)) + 1 by omega]
 conv => rhs; unfold repR
 rw [if_pos he, hf, List.append_assoc]
 rfl
theorem rep_end {α : Type} {f : IS → α × IS} {n j : Nat} {s : IS} {xs zs : List α} {z : IS} (he : s.err ≠ 0 ∨ ¬ j < n) (h : (xs ++ (repR f (n - j) s).1, (repR f (n - j) s).2) = (zs, z)) : xs = zs ∧ s = z := by
 have e : repR f (n - j) s = ([], s) := by
  rcases he with g | g
  ·exact repR_stay _ _ g
  ·rw [show n - j = 0 by omega]; rfl
 rw [e, List.append_nil] at h
 injection h with h1 h2
 exact ⟨h1, h2⟩
abbrev groundC : Cod (Unit × Int × Int × Int × Int × (Int × Int) × List Int × List Int × List (Int × Int × Bool)) :=
 (markC chtr).bind fun _ => (cntC 60 1024).bind fun _ => numC.bind fun _ => (cntC 1 64).bind fun cols => (cntC 1 64).bind fun rows => placeC.bind fun _ =>
 (repC ((cols + 1) * (rows + 1)).toNat numC).bind fun _ => (repC (cols * rows).toNat (cntC 0 7)).bind fun _ => lstC 1 8 kindC
def kdV (xs : List (Int × Int × Bool)) : List Value := xs.flatMap (fun k => [.int .i64 k.1, .int .i64 k.2.1, .bool k.2.2])
theorem kdV_add (xs : List (Int × Int × Bool)) (k : Int × Int × Bool) : kdV (xs ++ [k]) = kdV xs ++ [.int .i64 k.1, .int .i64 k.2.1, .bool k.2.2] := by
 unfold kdV; rw [List.flatMap_append]; simp
def inV (xs : List Int) : List Value := xs.map (Value.int .i64)
theorem inV_add (xs : List Int) (k : Int) : inV (xs ++ [k]) = inV xs ++ [.int .i64 k] := by unfold inV; rw [List.map_append]; rfl
end Go.Proofs.YtmdjnamkbekjkaaGreatDoor

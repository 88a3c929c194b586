/- A list of the call's own, cell by cell; append to it of whatever yields elements of one cell (a slice, a string's bytes, nothing). -/
import Derived.Test.YtinahmhiopgcnaaProg
import Derived.WalkKit
import Derived.Deep.Upon
import Derived.Deep.AppendLies
namespace Go.Proofs.Ytinahmhiopgcnaa
open Go.RowKit
set_option linter.unusedVariables false

/-- a slice of the call's own, elements of one cell -/
def OB (base : Nat) (W : World) (v : Value) (xs : List Value) : Prop :=
  (v = .slice none 0 0 ∧ xs = []) ∨
  ∃ g cap, v = .slice (some ⟨g, 0, none⟩) xs.length cap ∧ base ≤ g ∧ g < W.heap.size ∧ xs.length ≤ cap ∧ cap ≤ maxLen ∧ (∀ j, j < cap → (W.cell? ⟨g, j, none⟩).isSome = true) ∧ (∀ j, W.frozen? ⟨g, j, none⟩ = false) ∧ (∀ j u, xs[j]? = some u → W.cell? ⟨g, j, none⟩ = some u)
theorem grown_setCells (g : Nat) : ∀ (vs : List Value) (o : Nat) (w : World), w.grownBy (w.setCells g o vs) (some g)
  | [], _, w => World.grownBy.refl w _
  | v :: r, o, w => by
    have h1 : w.grownBy (w.setCell ⟨g, o, none⟩ v) (some g) := ⟨rfl, rfl, rfl, by simp [World.setCell], fun k hk hne => by
      have : k ≠ g := fun e => hne (by rw [e])
      simp [World.setCell, Array.getElem?_modify, this.symm]⟩
    exact h1.trans (grown_setCells g r (o + 1) _)
theorem size_setC (g : Nat) : ∀ (vs : List Value) (o : Nat) (w : World), (w.setCells g o vs).heap.size = w.heap.size
  | [], _, _ => rfl
  | v :: r, o, w => by rw [World.setCells, size_setC g r (o + 1)]; simp [World.setCell]
theorem OB.grown {base : Nat} {W W' : World} {v : Value} {xs : List Value} {row : Option Nat} (h : OB base W v xs) (k : W.grownBy W' row) (hne : v.ownBlock = row → row = none) : OB base W' v xs := by
  rcases h with h | ⟨g, cap, rfl, hb, hg, hl, hm, hc, hf, hx⟩
  · exact .inl h
  · have ne : some g ≠ row := fun e => by have := hne (by rw [← e]; rfl); rw [this] at e; cases e
    exact .inr ⟨g, cap, rfl, hb, Nat.lt_of_lt_of_le hg k.size, hl, hm, fun j hj => by rw [k.cell_far ⟨g, j, none⟩ hg ne]; exact hc j hj, fun j => by rw [k.frozen_far ⟨g, j, none⟩ hg ne]; exact hf j, fun j u hj => by rw [k.cell_far ⟨g, j, none⟩ hg ne]; exact hx j u hj⟩
theorem OB.below {base : Nat} {W W' : World} {v : Value} {xs : List Value} (h : OB base W v xs) (k : Below W.heap.size W W') : OB base W' v xs :=
  h.grown (row := none) ⟨k.os, k.tape, k.output, k.size, fun i hi _ => k.block i hi⟩ (fun _ => rfl)
theorem OB.mono {base base' : Nat} {W : World} {v : Value} {xs : List Value} (h : OB base W v xs) (k : base' ≤ base) : OB base' W v xs := by
  rcases h with h | ⟨g, cap, hv, hb, hr⟩
  · exact .inl h
  · exact .inr ⟨g, cap, hv, Nat.le_trans k hb, hr⟩
theorem OB.nil (base : Nat) (W : World) : OB base W (.slice none 0 0) [] := .inl ⟨rfl, rfl⟩
theorem OB.form {base : Nat} {W : World} {v : Value} {xs : List Value} (h : OB base W v xs) : ∃ a c, v = .slice a xs.length c := by
  rcases h with ⟨rfl, rfl⟩ | ⟨g, cap, rfl, _⟩
  · exact ⟨none, 0, rfl⟩
  · exact ⟨_, cap, rfl⟩
theorem OB.new {base : Nat} (w : World) (xs rest : List Value) (C : Array Value) (t : TypeId) (hC : C.toList = xs ++ rest) (hb : base ≤ w.heap.size) (hm : C.size ≤ maxLen) : OB base (w.alloc (.cells C t)) (.slice (some ⟨w.heap.size, 0, none⟩) xs.length C.size) xs := by
  have hs : C.size = xs.length + rest.length := by rw [← Array.length_toList, hC, List.length_append]
  refine .inr ⟨w.heap.size, C.size, rfl, hb, by simp, by omega, hm, fun j hj => ?_, fun j => by go_simp, fun j u hj => ?_⟩
  · rw [World.cell?_alloc_new w C t j, Array.getElem?_eq_getElem hj]; rfl
  · rw [World.cell?_alloc_new w C t j, ← Array.getElem?_toList, hC, List.getElem?_append_left (by rcases Nat.lt_or_ge j xs.length with l | l; exact l; rw [List.getElem?_eq_none l] at hj; cases hj)]
    exact hj
/-- append of whatever yields elements -/
theorem ob_append {P : Program} {w : World} {base : Nat} {v : Value} {xs : List Value} (t tx ty T : TypeId) (i : TypeInfo) (z : Value) (ht : P.underlying t = some (.slice T)) (hi : P.info? T = some i) (hz : i.zero = some z)
    (hzs : z.cells.size = 1) (h1 : i.size = 1) (hby : i.bytes ≤ 8) (h : OB base w v xs) (x : Value) (m : Nat) (news : List Value) (hs : Src P 1 tx x m news w) (hf : xs.length + m ≤ 1000000000) (hbase : base ≤ w.heap.size) :
    ∃ v' w', (Builtin.append_ #[t, tx] ty #[v, x]).run P w = .ok v' w' ∧ OB base w' v' (xs ++ news) ∧ w.grownBy w' v.ownBlock ∧ (v'.ownBlock = v.ownBlock ∨ v'.ownBlock = some w.heap.size) := by
  have hs' : Src P i.size tx x m news w := by rw [h1]; exact hs
  have hn : news.length = m := by have := hs.newsLen; omega
  by_cases m0 : m = 0
  · subst m0
    have : news = [] := List.eq_nil_of_length_eq_zero hn
    subst this
    rw [List.append_nil]
    rcases h with ⟨rfl, rfl⟩ | ⟨g, cap, rfl, hr⟩
    · exact ⟨_, _, run_append_nothing w t tx ty T i ht hi none 0 0 (Nat.le_refl _) x hs', OB.nil base w, World.grownBy.refl w _, .inl rfl⟩
    · exact ⟨_, _, run_append_nothing w t tx ty T i ht hi _ _ cap hr.2.2.1 x hs', .inr ⟨g, cap, rfl, hr⟩, World.grownBy.refl w _, .inl rfl⟩
  have grow : ∀ (a : Option Addr) (cap : Nat), cap < xs.length + m → (Builtin.firstCells i.size xs.length (.slice a xs.length cap)).run P w.drew = .ok xs.toArray w.drew → v = .slice a xs.length cap →
      ∃ v' w', (Builtin.append_ #[t, tx] ty #[v, x]).run P w = .ok v' w' ∧ OB base w' v' (xs ++ news) ∧ w.grownBy w' v.ownBlock ∧ (v'.ownBlock = v.ownBlock ∨ v'.ownBlock = some w.heap.size) := by
    intro a cap hc hold e
    have hr := run_append_grow_src (P := P) w t tx ty T i z ht hi hz a xs.length cap xs hold x m news hs' hc (by omega) (growslice_fits hc (by
      have := Nat.mul_le_mul hf hby; omega))
    have hge := grownCap_ge w (xs.length + m) cap T
    have hle := grownCap_le_maxLen w (xs.length + m) cap T (by unfold maxLen; omega)
    have hsz : ((xs ++ news).toArray ++ Builtin.zeroCells z.cells (grownCap w (xs.length + m) cap T - (xs.length + m))).size = grownCap w (xs.length + m) cap T := by
      simp only [Array.size_append, List.size_toArray, List.length_append, size_zeroCells, hzs, hn]; omega
    have hob := OB.new (base := base) w.drew (xs ++ news) (Builtin.zeroCells z.cells (grownCap w (xs.length + m) cap T - (xs.length + m))).toList ((xs ++ news).toArray ++ Builtin.zeroCells z.cells (grownCap w (xs.length + m) cap T - (xs.length + m))) T (by simp) hbase (by rw [hsz]; exact hle)
    rw [hsz] at hob
    rw [List.length_append, hn] at hob
    rw [e]
    exact ⟨_, _, hr, hob, ⟨rfl, rfl, rfl, by simp, fun k hk _ => Below.heap_alloc w.drew _ k hk⟩, .inr rfl⟩
  rcases h with ⟨rfl, rfl⟩ | ⟨g, cap, rfl, hb, hg, hl, hm, hc, hfz, hx⟩
  · exact grow none 0 (by simp; omega) (run_firstCells_none w.drew i.size 0 0 0) rfl
  · by_cases room : xs.length + m ≤ cap
    · have hr := run_append_room_src (P := P) w t tx ty T i ht hi g 0 xs.length cap x m news hs' room (fun j hj => by rw [h1, Nat.mul_one, Nat.zero_add]; exact hc _ (by omega)) (fun j hj => hfz _)
      rw [h1, Nat.mul_one, Nat.zero_add] at hr
      refine ⟨_, _, hr, .inr ⟨g, cap, by rw [List.length_append, hn], hb, by rw [size_setC]; exact hg, by rw [List.length_append, hn]; exact room, hm, fun j hj => ?_, fun j => (World.frozen?_setCells g news xs.length w _).trans (hfz j), fun j u hj => ?_⟩, grown_setCells g news _ w, .inl rfl⟩
      · by_cases c : xs.length ≤ j ∧ j < xs.length + m
        · have := World.cell?_setCells_in g news xs.length w (fun k hk => hc _ (by omega)) (j - xs.length) (by omega)
          rw [show xs.length + (j - xs.length) = j by omega] at this
          rw [this]; rfl
        · rw [World.cell?_setCells_out g news xs.length w _ (fun _ _ => by show j < _ ∨ _ ≤ j; omega)]
          exact hc j hj
      · rcases Nat.lt_or_ge j xs.length with l | l
        · rw [World.cell?_setCells_out g news xs.length w _ (fun _ _ => by show j < _ ∨ _ ≤ j; omega)]
          rw [List.getElem?_append_left l] at hj
          exact hx j u hj
        · rw [List.getElem?_append_right l] at hj
          have hjl : j - xs.length < news.length := by
            rcases Nat.lt_or_ge (j - xs.length) news.length with k | k
            · exact k
            · rw [List.getElem?_eq_none k] at hj; cases hj
          have := World.cell?_setCells_in g news xs.length w (fun k hk => hc _ (by omega)) (j - xs.length) hjl
          rw [show xs.length + (j - xs.length) = j by omega] at this
          rw [this, ← hj, List.getElem?_eq_getElem hjl]
    · exact grow _ cap (by omega) (run_firstCells_some w.drew i.size xs.length ⟨g, 0, none⟩ xs.length cap xs (by rw [h1, Nat.mul_one]) (fun j u hj => by rw [show (⟨g, 0, none⟩ : Addr).add j = ⟨g, j, none⟩ by unfold Addr.add; split <;> simp_all]; exact hx j u hj)) rfl
end Go.Proofs.Ytinahmhiopgcnaa

/- -/
import Derived.Test.YtmdjnamkbekjkaaGreatDoorXi
import Derived.Test.YtmdjnamkbekjkaaGreatDoorD2
import Derived.Test.YtmdjnamkbekjkaaGreatDoorXe
import Derived.Test.YtmdjnamkbekjkaaGreatDoorCh
namespace Go.Proofs.YtmdjnamkbekjkaaGreatDoor
open Go.RowKit
set_option linter.unusedVariables false
set_option linter.unusedSimpArgs false
theorem in_new0 {W : World} {a : Option Addr} {n c : Nat} {l : List Int} (T : TypeId) (h : BL W a n l) (hc : n ≤ c) (hm : c ≤ maxLen) (hn : n ≤ 1000000000) : IN (W.alloc (.cells #[.slice a n c, .int .i64 0, .int .i64 0, .int .i64 0, .int .i64 0] T)) W.heap.size a n c l s0I := by
 have o : ∀ j, (W.alloc (.cells #[.slice a n c, .int .i64 0, .int .i64 0, .int .i64 0, .int .i64 0] T)).cell? ⟨W.heap.size, j, none⟩ = (#[.slice a n c, .int .i64 0, .int .i64 0, .int .i64 0, .int .i64 0] : Array Value)[j]? := fun j => World.cell?_alloc_new W _ T j
 exact ⟨o 0, o 1, o 2, o 3, o 4, fun j => by go_simp, by simp, h.below ((Below.refl _ _).alloc (Nat.le_refl _) _), fun h0 p e => by
  obtain ⟨b, off, e2, hb, _⟩ := h.c h0
  rw [e2] at e; cases e
  show b ≠ _
  omega, hc, hm, hn, Nat.zero_le _, Nat.le_refl _⟩
def Stah (nb tb N : Nat) (F : World → Prop) : Prop := ∀ W W' : World, F W → W.heap.size ≤ W'.heap.size → (∀ j, nb < j → j ≠ tb → j < N → W'.heap[j]? = W.heap[j]?) → F W'
theorem Stah.mono {nb tb N N' : Nat} {F : World → Prop} (S : Stah nb tb N F) (h : N ≤ N') : Stah nb tb N' F := fun W W' f hs k => S W W' f hs (fun j a b c => k j a b (by omega))
theorem Stah.and {nb tb N : Nat} {F G : World → Prop} (S : Stah nb tb N F) (T : Stah nb tb N G) : Stah nb tb N (fun W => F W ∧ G W) := fun W W' f hs k => ⟨S W W' f.1 hs k, T W W' f.2 hs k⟩
theorem Stab.ah {lo hi nb tb N : Nat} {F : World → Prop} (S : Stab lo hi F) (h1 : nb < lo) (h2 : hi ≤ N) (h3 : hi ≤ tb ∨ tb < lo) : Stah nb tb N F := fun W W' f hs k => S W W' f hs (fun j a b => k j (by omega) (by omega) (by omega))
structure RdD (w W : World) (a : Option Addr) (n c : Nat) (l : List Int) (s : IS) (rb nb tb N : Nat) (R L : List Value) (F : World → Prop) : Prop where
 i : IN W nb a n c l s
 r : BW W rb R
 t : BW W tb L
 g : Below w.heap.size w W
 zt : (w.heap.size ≤ rb ∧ rb < nb) ∧ (nb < tb ∧ tb < N) ∧ N ≤ W.heap.size
 b : 0 < n → ∀ p, a = some p → p.block < w.heap.size
 f : F W
 st : Stah nb tb N F
theorem RdD.rd {w W W' : World} {a : Option Addr} {n c : Nat} {l : List Int} {s s' : IS} {rb nb tb N : Nat} {R L : List Value} {F : World → Prop} (S : RdD w W a n c l s rb nb tb N R L F) (h : IN W' nb a n c l s') (g : W.grownBy W' (some nb)) : RdD w W' a n c l s' rb nb tb N R L F := by
 have ht := S.zt
 exact ⟨h, S.r.grown g (fun e => by injection e with e; omega), S.t.grown g (fun e => by injection e with e; omega), S.g.grown g S.g.size (fun k e => by injection e with e; omega), ⟨ht.1, ht.2.1, Nat.le_trans ht.2.2 g.size⟩, S.b, S.st _ _ S.f g.size (fun j h1 h2 h3 => g.block j (by omega) (fun e => by injection e with e; omega)), S.st⟩
theorem RdD.bl {w W W' : World} {a : Option Addr} {n c : Nat} {l : List Int} {s : IS} {rb nb tb N : Nat} {R L : List Value} {F : World → Prop} (S : RdD w W a n c l s rb nb tb N R L F) (h : Below W.heap.size W W') : RdD w W' a n c l s rb nb tb N R L F :=
 S.rd (S.i.grown (row := none) (below_grown h none) (fun j e => by cases e)) (below_grown h _)
theorem RdD.put {w W : World} {a : Option Addr} {n c : Nat} {l : List Int} {s : IS} {rb nb tb N : Nat} {R L : List Value} {F : World → Prop} (S : RdD w W a n c l s rb nb tb N R L F) (k : Nat) (v u : Value) (hu : L[k]? = some u) : RdD w (W.setCell ⟨tb, k, none⟩ v) a n c l s rb nb tb N R (L.set k v) F := by
 have ht := S.zt
 have gc := grown_cell W tb k v
 refine ⟨S.i.grown gc (fun j e => ⟨by injection e with e; omega, fun h0 p hp => by have := S.b h0 p hp; injection e with e; omega⟩), S.r.grown gc (fun e => by injection e with e; omega), S.t.put v u hu, S.g.grown gc S.g.size (fun k e => by injection e with e; omega), ⟨ht.1, ht.2.1, by rw [set_size]; exact ht.2.2⟩, S.b, S.st _ _ S.f (by rw [set_size]; exact Nat.le_refl _) (fun j h1 h2 h3 => Below.heap_setCell _ _ _ _ (by show j ≠ tb; omega)), S.st⟩
theorem RdD.app {w W W' : World} {a : Option Addr} {n c : Nat} {l : List Int} {s : IS} {rb nb tb N : Nat} {R L : List Value} {F : World → Prop} {v : Value} {e : TypeId} {sz k : Nat} {xs : List Value} (S : RdD w W a n c l s rb nb tb N R L F) (O : W.ownsRow N e sz v k xs) (g : W.grownBy W' v.ownBlock) : RdD w W' a n c l s rb nb tb N R L F := by
 have ht := S.zt
 have lo : ∀ j, v.ownBlock = some j → N ≤ j := fun j e => (O.lt j e).1
 refine ⟨S.i.grown g (fun j e => ⟨by have := lo j e; omega, fun h0 p hp => by have := S.b h0 p hp; have := lo j e; omega⟩), S.r.grown g (fun e => by have := lo rb e.symm; omega), S.t.grown g (fun e => by have := lo tb e.symm; omega), S.g.grown g S.g.size (fun k e => by have := lo k e; omega), ⟨ht.1, ht.2.1, Nat.le_trans ht.2.2 g.size⟩, S.b, S.st _ _ S.f g.size (fun j h1 h2 h3 => g.block j (by omega) (fun q => by have := lo j q.symm; omega)), S.st⟩
theorem RdD.lst {w W : World} {a : Option Addr} {n c : Nat} {l : List Int} {s : IS} {rb nb tb N lo : Nat} {R L : List Value} {F : World → Prop} {v : Value} {k : Nat} {xs : List Value} (S : RdD w W a n c l s rb nb tb N R L F) (O : Lies lo W.heap.size v k xs W) (h : N ≤ lo) : RdD w W a n c l s rb nb tb W.heap.size R L (fun W' => F W' ∧ Lies N W.heap.size v k xs W') := by
 have ht := S.zt
 exact ⟨S.i, S.r, S.t, S.g, ⟨ht.1, ⟨ht.2.1.1, by omega⟩, Nat.le_refl _⟩, S.b, ⟨S.f, O.mono h (Nat.le_refl _)⟩, (S.st.mono ht.2.2).and ((Lies.stab _ _ _ _ _).ah (by omega) (Nat.le_refl _) (Or.inr (by omega)))⟩
def RailP (N : Nat) (v : Value) (r : Nat → Option Addr × Nat) (ys : List (List (Int × Int))) (W : World) : Prop :=
 ∀ k, k < ys.length → ((ys.getD k []).length ≤ (r k).2 ∧ (r k).2 ≤ maxLen) ∧ (0 < (ys.getD k []).length → ∃ g, (r k).1 = some ⟨g, 0, none⟩ ∧ N ≤ g ∧ g < W.heap.size ∧ v.ownBlock ≠ some g ∧ ∀ i u, (ptV (ys.getD k []))[i]? = some u → W.cell? ⟨g, i, none⟩ = some u)
def rvV (r : Nat → Option Addr × Nat) (ys : List (List (Int × Int))) : List Value := (List.range ys.length).map (fun k => .slice (r k).1 (ys.getD k []).length (r k).2)
theorem RailP.grown {N : Nat} {v : Value} {r : Nat → Option Addr × Nat} {ys : List (List (Int × Int))} {W W' : World} {row : Option Nat} (P : RailP N v r ys W) (g : W.grownBy W' row) (h : ∀ k, row = some k → k < N ∨ v.ownBlock = some k) : RailP N v r ys W' := fun k hk => by
 obtain ⟨h1, h2⟩ := P k hk
 refine ⟨h1, fun h0 => ?_⟩
 obtain ⟨b, e, l1, l2, ne, hc⟩ := h2 h0
 have nr : some b ≠ row := fun q => by
  rcases h b q.symm with x | x
  ·omega
  ·exact ne x
 exact ⟨b, e, l1, Nat.lt_of_lt_of_le l2 g.size, ne, fun i u hu => (g.cell_far ⟨b, i, none⟩ l2 nr).trans (hc i u hu)⟩
theorem RailP.own {N : Nat} {v v' : Value} {r : Nat → Option Addr × Nat} {ys : List (List (Int × Int))} {W : World} (P : RailP N v r ys W) (h : ∀ b, v'.ownBlock = some b → v.ownBlock = some b ∨ ∀ k, k < ys.length → 0 < (ys.getD k []).length → ∀ g, (r k).1 = some ⟨g, 0, none⟩ → g ≠ b) : RailP N v' r ys W := fun k hk => by
 obtain ⟨h1, h2⟩ := P k hk
 refine ⟨h1, fun h0 => ?_⟩
 obtain ⟨b, e, l1, l2, ne, hc⟩ := h2 h0
 refine ⟨b, e, l1, l2, fun q => ?_, hc⟩
 rcases h b q with x | x
 ·exact ne x
 ·exact x k hk h0 b e rfl
theorem getD_old {α : Type} {ys : List α} {y z : α} {k : Nat} (h : k < ys.length) : (ys ++ [y]).getD k z = ys.getD k z := by
 rw [List.getD_eq_getElem?_getD, List.getD_eq_getElem?_getD, List.getElem?_append_left h]
theorem getD_new {α : Type} (ys : List α) (y z : α) : (ys ++ [y]).getD ys.length z = y := by
 rw [List.getD_eq_getElem?_getD, List.getElem?_append_right (Nat.le_refl _), Nat.sub_self]; rfl
theorem RailP.add {N : Nat} {v : Value} {r : Nat → Option Addr × Nat} {ys : List (List (Int × Int))} {y : List (Int × Int)} {ad : Option Addr × Nat} {W : World} (P : RailP N v r ys W) (h1 : y.length ≤ ad.2 ∧ ad.2 ≤ maxLen) (h2 : 0 < y.length → ∃ g, ad.1 = some ⟨g, 0, none⟩ ∧ N ≤ g ∧ g < W.heap.size ∧ v.ownBlock ≠ some g ∧ ∀ i u, (ptV y)[i]? = some u → W.cell? ⟨g, i, none⟩ = some u) : RailP N v (fun k => if k = ys.length then ad else r k) (ys ++ [y]) W := fun k hk => by
 rw [List.length_append] at hk
 have hk : k < ys.length + 1 := hk
 rcases Nat.lt_or_ge k ys.length with l | l
 ·dsimp only
  rw [getD_old l, if_neg (by omega)]; exact P k l
 ·obtain rfl : k = ys.length := by omega
  dsimp only
  rw [getD_new, if_pos rfl]; exact ⟨h1, h2⟩
theorem rvV_add (r : Nat → Option Addr × Nat) (ys : List (List (Int × Int))) (y : List (Int × Int)) (ad : Option Addr × Nat) : rvV (fun k => if k = ys.length then ad else r k) (ys ++ [y]) = rvV r ys ++ [.slice ad.1 y.length ad.2] := by
 unfold rvV
 rw [List.length_append, show ys.length + [y].length = ys.length + 1 from rfl, List.range_succ, List.map_append]
 congr 1
 ·apply List.map_congr_left
  intro k hk
  have hk := List.mem_range.1 hk
  dsimp only
  rw [getD_old hk, if_neg (by omega)]
 ·simp only [List.map_cons, List.map_nil]
  rw [getD_new, if_pos trivial]
def gtV (xs : List ((Int × Int) × (Int × Int) × Bool)) : List Value := xs.flatMap (fun g => [.int .i64 g.1.1, .int .i64 g.1.2, .int .i64 g.2.1.1, .int .i64 g.2.1.2, .bool g.2.2])
theorem gtV_add (xs : List ((Int × Int) × (Int × Int) × Bool)) (g : (Int × Int) × (Int × Int) × Bool) : gtV (xs ++ [g]) = gtV xs ++ [.int .i64 g.1.1, .int .i64 g.1.2, .int .i64 g.2.1.1, .int .i64 g.2.1.2, .bool g.2.2] := by
 unfold gtV; rw [List.flatMap_append]; simp
theorem fm_get {α : Type} (f : α → List Value) (m : Nat) (hm : ∀ x, (f x).length = m) (z : α) : ∀ (xs : List α) (i j : Nat), i < xs.length → j < m → (xs.flatMap f)[i * m + j]? = (f (xs.getD i z))[j]?
 | [], i, j, h, _ => absurd h (by simp)
 | x :: r, 0, j, h, hj => by
  rw [List.flatMap_cons, List.getElem?_append_left (by rw [hm]; omega)]
  simp
 | x :: r, i + 1, j, h, hj => by
  rw [List.flatMap_cons, List.getElem?_append_right (by rw [hm, Nat.add_mul]; omega), hm, show (i + 1) * m + j - m = i * m + j by rw [Nat.add_mul]; omega, fm_get f m hm z r i j (by simpa using h) hj]
  rfl
structure TOk (d : TD) : Prop where
 rate : 60 ≤ d.rate ∧ d.rate ≤ 1024
 cell : In64Y d.cell
 cols : 1 ≤ d.cols ∧ d.cols ≤ 64
 rows : 1 ≤ d.rows ∧ d.rows ≤ 64
 at' : In64Y d.at_.1 ∧ In64Y d.at_.2
 H : ∀ x ∈ d.H, In64Y x
 G : ∀ x ∈ d.G, 0 ≤ x ∧ x ≤ 7
 hn : d.H.length ≤ 4225 ∧ d.G.length ≤ 4225
 K : d.K.length ≤ 8 ∧ ∀ x ∈ d.K, In64Y x.1 ∧ In64Y x.2.1
 L : d.L.length ≤ 64 ∧ ∀ x ∈ d.L, In64Y x.1 ∧ In64Y x.2
 R : d.R.length ≤ 16 ∧ ∀ y ∈ d.R, y.length ≤ 64 ∧ ∀ x ∈ y, In64Y x.1 ∧ In64Y x.2
 T : d.T.length ≤ 16 ∧ ∀ g ∈ d.T, (In64Y g.1.1 ∧ In64Y g.1.2) ∧ In64Y g.2.1.1 ∧ In64Y g.2.1.2
 s : In64Y d.s.1 ∧ In64Y d.s.2
 head : 0 ≤ d.head ∧ d.head ≤ 4294967295
 laps : 1 ≤ d.laps ∧ d.laps ≤ 100
theorem ok_all {d : TD} (h : trackCod.ok d) : TOk d := by
 obtain ⟨-, ⟨c1, -⟩, c2, ⟨c3, -⟩, ⟨c4, -⟩, c5, ⟨n6, c6⟩, ⟨n7, c7⟩, ⟨⟨c8, -⟩, -, c8'⟩, ⟨⟨c9, -⟩, -, c9'⟩, ⟨⟨c10, -⟩, -, c10'⟩, ⟨⟨c11, -⟩, -, c11'⟩, c12, c13, c14, -⟩ := h
 have c3 : 1 ≤ d.cols ∧ d.cols ≤ 64 := c3
 have c4 : 1 ≤ d.rows ∧ d.rows ≤ 64 := c4
 have q1 := mul_64 (a := d.cols + 1) (b := d.rows + 1) (by omega) (by omega) (by omega) (by omega)
 have q2 := mul_64 (a := d.cols) (b := d.rows) (by omega) (by omega) (by omega) (by omega)
 refine ⟨c1, c2, c3, c4, c5, c6, fun x hx => (c7 x hx).1, ⟨?_, ?_⟩, ⟨?_, fun x hx => ⟨(c8' x hx).1, (c8' x hx).2.1⟩⟩, ⟨?_, c9'⟩, ⟨?_, fun y hy => ?_⟩, ⟨?_, fun g hg => ⟨(c11' g hg).1, (c11' g hg).2.1⟩⟩, c12, c13, c14⟩
 ·have e : d.H.length = ((d.cols + 1) * (d.rows + 1)).toNat := n6
  omega
 ·have e : d.G.length = (d.cols * d.rows).toNat := n7
  omega
 ·have e : (1 : Int) ≤ (d.K.length : Int) ∧ (d.K.length : Int) ≤ 8 := c8
  omega
 ·have e : (3 : Int) ≤ (d.L.length : Int) ∧ (d.L.length : Int) ≤ 64 := c9
  omega
 ·have e : (0 : Int) ≤ (d.R.length : Int) ∧ (d.R.length : Int) ≤ 16 := c10
  omega
 ·obtain ⟨⟨a, -⟩, -, b⟩ := c10' y hy
  have e : (2 : Int) ≤ (y.length : Int) ∧ (y.length : Int) ≤ 64 := a
  exact ⟨by omega, b⟩
 ·have e : (1 : Int) ≤ (d.T.length : Int) ∧ (d.T.length : Int) ≤ 16 := c11
  omega
theorem lies_form {lo hi : Nat} {a : Option Addr} {n c : Nat} {xs : List Value} {W : World} (h : Lies lo hi (.slice a n c) n xs W) : n ≤ c ∧ c ≤ maxLen ∧ (0 < n → ∃ g, a = some ⟨g, 0, none⟩ ∧ lo ≤ g ∧ g < hi ∧ ∀ i u, xs[i]? = some u → W.cell? ⟨g, i, none⟩ = some u) := by
 obtain ⟨a', c', e, h1, h2, h3⟩ := h
 cases e
 exact ⟨h1, h2, h3⟩
theorem getD_mem {α : Type} {xs : List α} {i : Nat} (z : α) (h : i < xs.length) : xs.getD i z ∈ xs := by
 rw [List.getD_eq_getElem?_getD, List.getElem?_eq_getElem h]
 exact List.getElem_mem h
theorem inY {n : Int} (h : In64Y n) : In64 n := h
theorem dsm_read {lo hi B : Nat} {a : Option Addr × Nat} {l : List (Int × Int)} {W : World} (hi' : hi ≤ B) (h1 : l.length ≤ a.2) (h2 : a.2 ≤ maxLen) (h3 : 0 < l.length → ∃ g, a.1 = some ⟨g, 0, none⟩ ∧ lo ≤ g ∧ g < hi ∧ ∀ i u, (ptV l)[i]? = some u → W.cell? ⟨g, i, none⟩ = some u) (hw : ∀ x ∈ l, In64Y x.1 ∧ In64Y x.2) : DsM B W (dsOf a l) :=
 ⟨h2, h1, fun i hi => hw _ (getD_mem (0, 0) hi), fun h0 => by
  obtain ⟨g, e, l1, l2, hc⟩ := h3 h0
  refine ⟨g, 0, e, by omega, fun i hi => ?_⟩
  have hi : i < l.length := hi
  rw [Nat.zero_add]
  exact ⟨hc _ _ ((fm_get _ 2 (fun _ => rfl) (0, 0) l i 0 hi (by omega)).trans rfl), hc _ _ ((fm_get _ 2 (fun _ => rfl) (0, 0) l i 1 hi (by omega)).trans rfl)⟩⟩
theorem nums_read {lo hi B : Nat} {a : Option Addr × Nat} {l : List Int} {W : World} (hi' : hi ≤ B) (h : Lies lo hi (.slice a.1 l.length a.2) l.length (inV l) W) (hw : ∀ x ∈ l, In64 x) : Nums B W ⟨a.1, l.length, a.2, fun i => l.getD i 0⟩ := by
 obtain ⟨h1, h2, h3⟩ := lies_form h
 refine ⟨h2, h1, fun i hi => wf_in (hw _ (getD_mem 0 hi)), fun h0 => ?_⟩
 obtain ⟨g, e, l1, l2, hc⟩ := h3 h0
 refine ⟨g, 0, e, by omega, fun i hi => ?_⟩
 have hi : i < l.length := hi
 rw [Nat.zero_add]
 refine hc i _ ?_
 unfold inV
 show _ = some (Value.int .i64 (l.getD i 0))
 rw [List.getElem?_map, List.getD_eq_getElem?_getD, List.getElem?_eq_getElem hi]
 rfl
def GdF (nb tb : Nat) (vh vg vk : Value) (H G : List Int) (K : List (Int × Int × Bool)) (W : World) : Prop :=
 Lies (nb + 1) tb vh H.length (inV H) W ∧ Lies (nb + 1) tb vg G.length (inV G) W ∧ Lies (nb + 1) tb vk K.length (kdV K) W
theorem GdF.ah {nb tb N : Nat} {vh vg vk : Value} {H G : List Int} {K : List (Int × Int × Bool)} (h : tb ≤ N) : Stah nb tb N (GdF nb tb vh vg vk H G K) :=
 ((Lies.stab _ _ _ _ _).ah (by omega) h (Or.inl (Nat.le_refl _))).and (((Lies.stab _ _ _ _ _).ah (by omega) h (Or.inl (Nat.le_refl _))).and ((Lies.stab _ _ _ _ _).ah (by omega) h (Or.inl (Nat.le_refl _))))
def RlF (lo hi : Nat) (v : Value) (r : Nat → Option Addr × Nat) (ys : List (List (Int × Int))) (W : World) : Prop :=
 Lies lo hi v ys.length (rvV r ys) W ∧ ∀ k, k < ys.length → ((ys.getD k []).length ≤ (r k).2 ∧ (r k).2 ≤ maxLen) ∧ (0 < (ys.getD k []).length → ∃ g, (r k).1 = some ⟨g, 0, none⟩ ∧ lo ≤ g ∧ g < hi ∧ ∀ i u, (ptV (ys.getD k []))[i]? = some u → W.cell? ⟨g, i, none⟩ = some u)
theorem RlF.stab (lo hi : Nat) (v : Value) (r : Nat → Option Addr × Nat) (ys : List (List (Int × Int))) : Stab lo hi (RlF lo hi v r ys) := fun W W' ⟨h1, h2⟩ hs k =>
 ⟨Lies.stab lo hi v ys.length (rvV r ys) W W' h1 hs k, fun j hj => by
  obtain ⟨b1, b2⟩ := h2 j hj
  refine ⟨b1, fun h0 => ?_⟩
  obtain ⟨g, e, l1, l2, hc⟩ := b2 h0
  exact ⟨g, e, l1, l2, fun i u hu => (World.cell?_of_block (w := W) (a := ⟨g, i, none⟩) (k g l1 l2)).trans (hc i u hu)⟩⟩
def AlF (nb tb M4 M5 M6 : Nat) (ad : TAd) (d : TD) (W : World) : Prop :=
 ((GdF nb tb (.slice ad.H.1 d.H.length ad.H.2) (.slice ad.G.1 d.G.length ad.G.2) (.slice ad.K.1 d.K.length ad.K.2) d.H d.G d.K W ∧ Lies (tb + 1) M4 (.slice ad.L.1 d.L.length ad.L.2) d.L.length (ptV d.L) W) ∧ RlF M4 M5 (.slice ad.R.1 d.R.length ad.R.2) ad.r d.R W) ∧ Lies M5 M6 (.slice ad.T.1 d.T.length ad.T.2) d.T.length (gtV d.T) W
theorem tk_read {nb tb M4 M5 M6 B : Nat} {ad : TAd} {d : TD} {W : World} (O : TOk d) (F : AlF nb tb M4 M5 M6 ad d W) (b1 : tb ≤ B) (b2 : M4 ≤ B) (b3 : M5 ≤ B) (b4 : M6 ≤ B) : TkM B W (tkA ad d) ∧ fewR (tkA ad d) := by
 obtain ⟨⟨⟨⟨fH, fG, fK⟩, fL⟩, fR, fRs⟩, fT⟩ := F
 obtain ⟨k1, k2, k3⟩ := lies_form fK
 obtain ⟨l1, l2, l3⟩ := lies_form fL
 obtain ⟨r1, r2, r3⟩ := lies_form fR
 obtain ⟨t1, t2, t3⟩ := lies_form fT
 have cl := O.cell
 have co := O.cols
 have ro := O.rows
 have ra := O.rate
 have la := O.laps
 have iy : ∀ {n : Int}, 0 ≤ n ∧ n ≤ 100000 → In64 n := fun h => by unfold In64; omega
 refine ⟨⟨⟨nums_read b1 fH (fun x hx => inY (O.H x hx)), nums_read b1 fG (fun x hx => iy (by have := O.G x hx; omega)), k2, k1, fun i hi => O.K.2 _ (getD_mem (0, 0, false) hi), fun h0 => ?_, inY cl, iy (n := d.cols) (by omega), iy (n := d.rows) (by omega), inY O.at'.1, inY O.at'.2⟩, dsm_read b2 l1 l2 l3 O.L.2, r2, r1, fun h0 => ?_, fun i hi => ?_, t2, t1, fun i hi => O.T.2 _ (getD_mem ((0, 0), (0, 0), false) hi), fun h0 => ?_, ⟨iy (n := d.rate) (by omega), iy (n := d.laps) (by omega)⟩, inY O.s.1, inY O.s.2⟩, by show d.L.length ≤ 100; have := O.L.1; omega, by show d.R.length ≤ 20; have := O.R.1; omega, by show d.T.length ≤ 20; have := O.T.1; omega, fun i hi => ?_⟩
 ·obtain ⟨g, e, g1, g2, hc⟩ := k3 h0
  refine ⟨g, 0, e, by omega, fun i hi => ?_⟩
  have hi : i < d.K.length := hi
  rw [Nat.zero_add]
  exact ⟨hc _ _ ((fm_get _ 3 (fun _ => rfl) (0, 0, false) d.K i 0 hi (by omega)).trans rfl), hc _ _ ((fm_get _ 3 (fun _ => rfl) (0, 0, false) d.K i 1 hi (by omega)).trans rfl), hc _ _ ((fm_get _ 3 (fun _ => rfl) (0, 0, false) d.K i 2 hi (by omega)).trans rfl)⟩
 ·obtain ⟨g, e, g1, g2, hc⟩ := r3 h0
  refine ⟨g, 0, e, by omega, fun i hi => ?_⟩
  have hi : i < d.R.length := hi
  rw [Nat.zero_add]
  refine hc i _ ?_
  unfold rvV
  rw [List.getElem?_map, List.getElem?_range hi]
  rfl
 ·have hi : i < d.R.length := hi
  obtain ⟨⟨a1, a2⟩, a3⟩ := fRs i hi
  exact dsm_read b3 a1 a2 a3 (O.R.2 _ (getD_mem [] hi)).2
 ·obtain ⟨g, e, g1, g2, hc⟩ := t3 h0
  refine ⟨g, 0, e, by omega, fun i hi => ?_⟩
  have hi : i < d.T.length := hi
  rw [Nat.zero_add]
  exact ⟨⟨hc _ _ ((fm_get _ 5 (fun _ => rfl) ((0, 0), (0, 0), false) d.T i 0 hi (by omega)).trans rfl), hc _ _ ((fm_get _ 5 (fun _ => rfl) ((0, 0), (0, 0), false) d.T i 1 hi (by omega)).trans rfl)⟩, ⟨hc _ _ ((fm_get _ 5 (fun _ => rfl) ((0, 0), (0, 0), false) d.T i 2 hi (by omega)).trans rfl), hc _ _ ((fm_get _ 5 (fun _ => rfl) ((0, 0), (0, 0), false) d.T i 3 hi (by omega)).trans rfl)⟩, hc _ _ ((fm_get _ 5 (fun _ => rfl) ((0, 0), (0, 0), false) d.T i 4 hi (by omega)).trans rfl)⟩
 ·have hi : i < d.R.length := hi
  have := (O.R.2 _ (getD_mem [] hi)).1
  show (d.R.getD i []).length ≤ 100
  omega
theorem tok_few {d : TD} (O : TOk d) (p : TAd) : fewR (tkA p d) :=
 ⟨by show d.L.length ≤ 100; have := O.L.1; omega, by show d.R.length ≤ 20; have := O.R.1; omega, by show d.T.length ≤ 20; have := O.T.1; omega, fun i hi => by
  have hi : i < d.R.length := hi
  have := (O.R.2 _ (getD_mem [] hi)).1
  show (d.R.getD i []).length ≤ 100
  omega⟩
theorem tkm_up {B C : Nat} {w : World} {k : Tk} (h : TkM B w k) (z : B ≤ C) : TkM C w k := by
 have nu : ∀ {s : Sl}, Nums B w s → Nums C w s := fun {s} N => ⟨N.hm, N.hl, N.wf, fun h0 => by
  obtain ⟨b, off, e, hb, hc⟩ := N.at' h0
  exact ⟨b, off, e, by omega, hc⟩⟩
 have du : ∀ {s : Ds}, DsM B w s → DsM C w s := fun {s} N => ⟨N.hm, N.hl, N.wf, fun h0 => by
  obtain ⟨b, off, e, hb, hc⟩ := N.at' h0
  exact ⟨b, off, e, by omega, hc⟩⟩
 exact ⟨⟨nu h.T.H, nu h.T.G, h.T.km, h.T.kl, h.T.kw, fun h0 => by
  obtain ⟨b, off, e, hb, hc⟩ := h.T.k h0
  exact ⟨b, off, e, by omega, hc⟩, h.T.n⟩, du h.L, h.rm, h.rl, fun h0 => by
  obtain ⟨b, off, e, hb, hc⟩ := h.R h0
  exact ⟨b, off, e, by omega, hc⟩, fun i hi => du (h.Rs i hi), h.gm, h.gl, h.gw, fun h0 => by
  obtain ⟨b, off, e, hb, hc⟩ := h.G h0
  exact ⟨b, off, e, by omega, hc⟩, h.n⟩
def zTD : TD := ⟨0, 0, 0, 0, (0, 0), [], [], [], [], [], [], (0, 0), 0, 0⟩
def decR (l : List Int) : TD × IS := trackCod.rd l s0I
def decS (l : List Int) : IS := endS l.length (decR l).2
noncomputable def decG (l : List Int) : Int := (rgtK (tkA noAd (decR l).1)).1
noncomputable def decE (l : List Int) : Int := if (decS l).err ≠ 0 then (decS l).err else decG l
noncomputable def decA (l : List Int) : Int := if (decS l).err ≠ 0 then (decS l).place else if decG l ≠ 0 then l.length else 0
noncomputable def decD (l : List Int) : TD := if (decS l).err ≠ 0 ∨ decG l ≠ 0 then zTD else (decR l).1
def DecP (l : List Int) (e : Ending) (w : World) : Prop := ∃ ad, e = .returned (.tuple #[.agg (tdL ad (decD l)).toArray, .int .i64 (decE l), .int .i64 (decA l)]) ∧ TkM w.heap.size w (tkA ad (decD l))
structure TioC : Prop where
 enc : ∀ (a : TAd) (d : TD) (B : Nat) (w : World), B ≤ w.heap.size → fewR (tkA a d) → 0 ≤ d.head ∧ d.head ≤ 4294967295 → ErT w → TkM B w (tkA a d) → Calls Tryz.prog 8 #[trkV (tkA a d).t] w fun e w' => (∃ v, e = .returned (.tuple #[v, .int .i64 (rgtK (tkA a d)).1]) ∧ OB w.heap.size w' v (byC (if (rgtK (tkA a d)).1 = 0 then trackCod.wr d else []))) ∧ Below w.heap.size w w'
 dec : ∀ (a : Option Addr) (n c : Nat) (l : List Int) (w : World), BL w a n l → n ≤ c → c ≤ maxLen → n ≤ 1000000000 → ErT w → Calls Tryz.prog 11 #[.slice a n c] w fun e w' => DecP l e w' ∧ Below w.heap.size w w'
 right : ∀ (k : Tk) (B : Nat) (w : World), B ≤ w.heap.size → fewR k → ErT w → TkM B w k → Calls Tryz.prog 14 #[trkV k.t] w fun e w' => e = .returned (.tuple #[.int .i64 (rgtK k).1, .int .i64 (rgtK k).2]) ∧ Below w.heap.size w w'
def RefDec : Prop := ∀ (a : Option Addr) (n c : Nat) (l : List Int) (w : World), BL w a n l → n ≤ c → c ≤ maxLen → n ≤ 1000000000 → Calls Tryz.prog 12 #[.slice a n c] w fun e w' => DecP l e w' ∧ Below w.heap.size w w'
end Go.Proofs.YtmdjnamkbekjkaaGreatDoor

/- The statements' example of a car. -/
import Derived.Test.YtbpmbdnhfkfkhaaW8
import Derived.Test.YtbpmbdnhfkfkhaaPg
namespace Go.Proofs.Ytbpmbdnhfkfkhaa
open Go.RowKit
set_option linter.unusedVariables false
set_option linter.unusedSimpArgs false

theorem lwhole_any (n m : Int) (h : wrap64 (n * 4294967296) = m) (w : World) : Calls Try.prog 11 #[.int .i64 n] w fun e w' => e = .returned (.int .i64 m) ∧ w' = w := by
  go_enter Try.func11, Try.ntmps11
  go_wp2
  go_ret
  exact ⟨retI h, rfl⟩
theorem below_setD {B g : Nat} (hg : B ≤ g) (o : Nat) (v : Value) {w W : World} (h : Below B w W) : Below B w (W.setCell ⟨g, o, none⟩ v) := h.setCell (p := ⟨g, o, none⟩) hg v
theorem bw_put {W : World} {n i : Nat} {l : List Value} (k : BW W n l) (v : Value) (u : Value) (hu : l[i]? = some u) : BW (W.setCell ⟨n, i, none⟩ v) n (l.set i v) := by
  refine ⟨fun j x h => ?_, fun j => (World.frozen?_setCell _ _ _ _).trans (k.f j), by rw [set_size]; exact k.lt⟩
  by_cases e : i = j
  · subst e
    have : x = v := by
      have hl : i < l.length := by
        apply Classical.byContradiction; intro c
        rw [List.getElem?_eq_none (by omega)] at hu; cases hu
      rw [List.getElem?_set_self hl] at h; cases h; rfl
    subst this
    exact World.cell?_setCell_same _ _ _ (k.c i u hu)
  · rw [List.getElem?_set_ne e] at h
    exact (World.cell?_setCell_other _ _ _ _ (fun h' => e (by cases h'; rfl))).trans (k.c j x h)
/-- a whole row is stored, as the walk meets it -/
theorem run_sc {P : Program} (W : World) (b : Nat) (L : List Value) (ht : W.there b 0 L.length) (h1 : ∀ v ∈ L, v.oneCell' = true) : (storeCells ⟨b, 0, none⟩ L).run P W = .ok () (W.setCells b 0 L) := by
  have := run_storeCells_cells (P := P) b 0 L 0 W (fun j hj => by simpa using (ht j (by simpa using hj)).1) (fun j hj => by simpa using (ht j (by simpa using hj)).2) h1
  simpa using this
/-- a car of nothing -/
def zcL : List Value := [.int .i64 0, .int .i64 0, .int .i64 0, .int .i64 0, .int .i64 0, .int .i64 0, .int .i64 0, .int .i64 0, .int .i64 0, .int .i64 0, .int .i64 0, .int .i64 0, .bool false, .bool false, .int .i64 0, .int .i64 0, .int .i64 0, .int .i64 0, .int .i64 0, .int .i64 0, .int .i64 0, .int .i64 0, .bool false, .bool false, .int .i64 0, .int .i64 0, .int .i64 0, .int .i64 0, .int .i64 0, .int .i64 0, .int .i64 0, .int .i64 0, .bool false, .bool false, .int .i64 0, .int .i64 0, .int .i64 0, .int .i64 0, .int .i64 0, .int .i64 0, .int .i64 0, .int .i64 0, .bool false, .bool false, .int .i64 0, .int .i64 0, .slice none 0 0, .slice none 0 0, .slice none 0 0, .slice none 0 0, .slice none 0 0, .slice none 0 0, .int .i64 0, .int .i64 0, .int .i64 0, .int .i64 0, .int .i64 0, .int .i64 0, .int .i64 0, .int .i64 0, .slice none 0 0, .int .i64 0, .int .i64 0, .int .i64 0, .int .i64 0, .int .i64 0, .int .i64 0, .int .u32 0, .int .u32 0, .int .i64 0, .int .i64 0, .int .i64 0, .int .i64 0, .int .i64 0, .int .i64 0, .int .i64 0]
def smL0 : List Value := [.int .i64 (4294967296000), .int .i64 (1717986918400), .int .i64 (5153960755200), .int .i64 (6012954214400), .int .i64 0, .int .i64 0, .int .i64 0, .int .i64 0, .int .i64 0, .int .i64 0, .int .i64 0, .int .i64 0, .bool false, .bool false, .int .i64 0, .int .i64 0, .int .i64 0, .int .i64 0, .int .i64 0, .int .i64 0, .int .i64 0, .int .i64 0, .bool false, .bool false, .int .i64 0, .int .i64 0, .int .i64 0, .int .i64 0, .int .i64 0, .int .i64 0, .int .i64 0, .int .i64 0, .bool false, .bool false, .int .i64 0, .int .i64 0, .int .i64 0, .int .i64 0, .int .i64 0, .int .i64 0, .int .i64 0, .int .i64 0, .bool false, .bool false, .int .i64 0, .int .i64 0, .slice none 0 0, .slice none 0 0, .slice none 0 0, .slice none 0 0, .slice none 0 0, .slice none 0 0, .int .i64 0, .int .i64 0, .int .i64 0, .int .i64 0, .int .i64 0, .int .i64 0, .int .i64 0, .int .i64 0, .slice none 0 0, .int .i64 0, .int .i64 0, .int .i64 0, .int .i64 0, .int .i64 0, .int .i64 0, .int .u32 0, .int .u32 0, .int .i64 (4294967296), .int .i64 (1073741824), .int .i64 (1073741824), .int .i64 0, .int .i64 0, .int .i64 0, .int .i64 0]
def smL1 : List Value := [.int .i64 (4294967296000), .int .i64 (1717986918400), .int .i64 (5153960755200), .int .i64 (6012954214400), .int .i64 (4294967296), .int .i64 (3221225472), .int .i64 (-1073741824), .int .i64 (1288490188), .int .i64 (4294967296), .int .i64 (171798691840000), .int .i64 (1073741824), .int .i64 (429496729600000), .bool true, .bool false, .int .i64 0, .int .i64 0, .int .i64 0, .int .i64 0, .int .i64 0, .int .i64 0, .int .i64 0, .int .i64 0, .bool false, .bool false, .int .i64 0, .int .i64 0, .int .i64 0, .int .i64 0, .int .i64 0, .int .i64 0, .int .i64 0, .int .i64 0, .bool false, .bool false, .int .i64 0, .int .i64 0, .int .i64 0, .int .i64 0, .int .i64 0, .int .i64 0, .int .i64 0, .int .i64 0, .bool false, .bool false, .int .i64 0, .int .i64 0, .slice none 0 0, .slice none 0 0, .slice none 0 0, .slice none 0 0, .slice none 0 0, .slice none 0 0, .int .i64 0, .int .i64 0, .int .i64 0, .int .i64 0, .int .i64 0, .int .i64 0, .int .i64 0, .int .i64 0, .slice none 0 0, .int .i64 0, .int .i64 0, .int .i64 0, .int .i64 0, .int .i64 0, .int .i64 0, .int .u32 0, .int .u32 0, .int .i64 (4294967296), .int .i64 (1073741824), .int .i64 (1073741824), .int .i64 0, .int .i64 0, .int .i64 0, .int .i64 0]
def smL2 : List Value := [.int .i64 (4294967296000), .int .i64 (1717986918400), .int .i64 (5153960755200), .int .i64 (6012954214400), .int .i64 (4294967296), .int .i64 (3221225472), .int .i64 (-1073741824), .int .i64 (1288490188), .int .i64 (4294967296), .int .i64 (171798691840000), .int .i64 (1073741824), .int .i64 (429496729600000), .bool true, .bool false, .int .i64 (4294967296), .int .i64 (-3221225472), .int .i64 (-1073741824), .int .i64 (1288490188), .int .i64 (4294967296), .int .i64 (171798691840000), .int .i64 (1073741824), .int .i64 (429496729600000), .bool true, .bool false, .int .i64 0, .int .i64 0, .int .i64 0, .int .i64 0, .int .i64 0, .int .i64 0, .int .i64 0, .int .i64 0, .bool false, .bool false, .int .i64 0, .int .i64 0, .int .i64 0, .int .i64 0, .int .i64 0, .int .i64 0, .int .i64 0, .int .i64 0, .bool false, .bool false, .int .i64 0, .int .i64 0, .slice none 0 0, .slice none 0 0, .slice none 0 0, .slice none 0 0, .slice none 0 0, .slice none 0 0, .int .i64 0, .int .i64 0, .int .i64 0, .int .i64 0, .int .i64 0, .int .i64 0, .int .i64 0, .int .i64 0, .slice none 0 0, .int .i64 0, .int .i64 0, .int .i64 0, .int .i64 0, .int .i64 0, .int .i64 0, .int .u32 0, .int .u32 0, .int .i64 (4294967296), .int .i64 (1073741824), .int .i64 (1073741824), .int .i64 0, .int .i64 0, .int .i64 0, .int .i64 0]
def smL3 : List Value := [.int .i64 (4294967296000), .int .i64 (1717986918400), .int .i64 (5153960755200), .int .i64 (6012954214400), .int .i64 (4294967296), .int .i64 (3221225472), .int .i64 (-1073741824), .int .i64 (1288490188), .int .i64 (4294967296), .int .i64 (171798691840000), .int .i64 (1073741824), .int .i64 (429496729600000), .bool true, .bool false, .int .i64 (4294967296), .int .i64 (-3221225472), .int .i64 (-1073741824), .int .i64 (1288490188), .int .i64 (4294967296), .int .i64 (171798691840000), .int .i64 (1073741824), .int .i64 (429496729600000), .bool true, .bool false, .int .i64 (-4294967296), .int .i64 (3221225472), .int .i64 (-1073741824), .int .i64 (1288490188), .int .i64 (4294967296), .int .i64 (171798691840000), .int .i64 (1073741824), .int .i64 (429496729600000), .bool false, .bool true, .int .i64 0, .int .i64 0, .int .i64 0, .int .i64 0, .int .i64 0, .int .i64 0, .int .i64 0, .int .i64 0, .bool false, .bool false, .int .i64 0, .int .i64 0, .slice none 0 0, .slice none 0 0, .slice none 0 0, .slice none 0 0, .slice none 0 0, .slice none 0 0, .int .i64 0, .int .i64 0, .int .i64 0, .int .i64 0, .int .i64 0, .int .i64 0, .int .i64 0, .int .i64 0, .slice none 0 0, .int .i64 0, .int .i64 0, .int .i64 0, .int .i64 0, .int .i64 0, .int .i64 0, .int .u32 0, .int .u32 0, .int .i64 (4294967296), .int .i64 (1073741824), .int .i64 (1073741824), .int .i64 0, .int .i64 0, .int .i64 0, .int .i64 0]
def smL4 : List Value := [.int .i64 (4294967296000), .int .i64 (1717986918400), .int .i64 (5153960755200), .int .i64 (6012954214400), .int .i64 (4294967296), .int .i64 (3221225472), .int .i64 (-1073741824), .int .i64 (1288490188), .int .i64 (4294967296), .int .i64 (171798691840000), .int .i64 (1073741824), .int .i64 (429496729600000), .bool true, .bool false, .int .i64 (4294967296), .int .i64 (-3221225472), .int .i64 (-1073741824), .int .i64 (1288490188), .int .i64 (4294967296), .int .i64 (171798691840000), .int .i64 (1073741824), .int .i64 (429496729600000), .bool true, .bool false, .int .i64 (-4294967296), .int .i64 (3221225472), .int .i64 (-1073741824), .int .i64 (1288490188), .int .i64 (4294967296), .int .i64 (171798691840000), .int .i64 (1073741824), .int .i64 (429496729600000), .bool false, .bool true, .int .i64 (-4294967296), .int .i64 (-3221225472), .int .i64 (-1073741824), .int .i64 (1288490188), .int .i64 (4294967296), .int .i64 (171798691840000), .int .i64 (1073741824), .int .i64 (429496729600000), .bool false, .bool true, .int .i64 0, .int .i64 0, .slice none 0 0, .slice none 0 0, .slice none 0 0, .slice none 0 0, .slice none 0 0, .slice none 0 0, .int .i64 0, .int .i64 0, .int .i64 0, .int .i64 0, .int .i64 0, .int .i64 0, .int .i64 0, .int .i64 0, .slice none 0 0, .int .i64 0, .int .i64 0, .int .i64 0, .int .i64 0, .int .i64 0, .int .i64 0, .int .u32 0, .int .u32 0, .int .i64 (4294967296), .int .i64 (1073741824), .int .i64 (1073741824), .int .i64 0, .int .i64 0, .int .i64 0, .int .i64 0]
def smL : Nat → List Value
  | 0 => smL0
  | 1 => smL1
  | 2 => smL2
  | 3 => smL3
  | _ => smL4
/-- the example as it grows: the result's block, the car's cells, blocks made since -/
structure SmS (w W : World) (L : List Value) (bl : List (Nat × List Value)) : Prop where
  z : BW W w.heap.size zcL
  c : BW W (w.heap.size + 1) L
  b : ∀ n l, (n, l) ∈ bl → BW W n l ∧ w.heap.size + 1 < n
  l : Below w.heap.size w W
theorem SmS.set {w W : World} {L : List Value} {bl : List (Nat × List Value)} (S : SmS w W L bl) (i : Nat) (v u : Value) (hu : L[i]? = some u) : SmS w (W.setCell ⟨w.heap.size + 1, i, none⟩ v) (L.set i v) bl :=
  ⟨S.z.far (by omega) i v, bw_put S.c v u hu, fun n l h => ⟨(S.b n l h).1.far (by have := (S.b n l h).2; omega) i v, (S.b n l h).2⟩, below_setD (by omega) _ _ S.l⟩
theorem SmS.step {w W W' : World} {L : List Value} {bl : List (Nat × List Value)} (S : SmS w W L bl) (h : Below W.heap.size W W') : SmS w W' L bl :=
  ⟨S.z.below h S.z.lt, S.c.below h S.c.lt, fun n l k => ⟨(S.b n l k).1.below h (S.b n l k).1.lt, (S.b n l k).2⟩, S.l.trans (h.mono S.l.size)⟩
theorem SmS.alloc {w W : World} {L : List Value} {bl : List (Nat × List Value)} (S : SmS w W L bl) (o : Obj) : SmS w (W.alloc o) L bl := S.step ((Below.refl _ _).alloc (Nat.le_refl _) o)
theorem SmS.new {w W : World} {L : List Value} {bl : List (Nat × List Value)} (S : SmS w W L bl) (l : List Value) (t : TypeId) (n : Nat) (e : n = W.heap.size) : SmS w (W.alloc (.cells l.toArray t)) L ((n, l) :: bl) := by
  have K := S.alloc (.cells l.toArray t)
  refine ⟨K.z, K.c, fun m q h => ?_, K.l⟩
  rcases List.mem_cons.mp h with h | h
  · cases h
    exact ⟨BW.new W _ l t e, by have := S.c.lt; omega⟩
  · exact K.b m q h
theorem BW.apart {W : World} {n b o : Nat} {l : List Value} (K : BW W n l) (h : b ≠ n) {vs : List Value} : BW (W.setCells b o vs) n l :=
  ⟨fun j v hv => by
    rw [World.cell?_setCells_out b vs o W ⟨n, j, none⟩ (fun hb _ => absurd hb.symm h)]
    exact K.c j v hv, fun j => (World.frozen?_setCells _ _ _ _ _).trans (K.f j), by rw [size_setC]; exact K.lt⟩
/-- the example -/
def smpC (n : Nat → Nat) : Cr where
  f := fun k => ([4294967296000, 1717986918400, 5153960755200, 6012954214400, 4294967296, 3221225472, (-1073741824), 1288490188, 4294967296, 171798691840000, 1073741824, 429496729600000, 0, 0, 4294967296, (-3221225472), (-1073741824), 1288490188, 4294967296, 171798691840000, 1073741824, 429496729600000, 0, 0, (-4294967296), 3221225472, (-1073741824), 1288490188, 4294967296, 171798691840000, 1073741824, 429496729600000, 0, 0, (-4294967296), (-3221225472), (-1073741824), 1288490188, 4294967296, 171798691840000, 1073741824, 429496729600000, 0, 0, 42949672960000, 34359738368000, 0, 0, 0, 0, 0, 0, 4294967296, 1073741824, 386547056640, 3006477107200, 268435456, 214748364800, 2147483648000, 12884901888, 0, 17179869184, 2, 429496729600, 858993459200, 8589934592000, 2684354560, 268435456, 1073741824, 4294967296, 1073741824, 1073741824, 1073741824, 1073741824, 2576980377600, 858993459200] : List Int).getD k 0
  p := fun k => ([false, false, false, false, false, false, false, false, false, false, false, false, true, false, false, false, false, false, false, false, false, false, true, false, false, false, false, false, false, false, false, false, false, true, false, false, false, false, false, false, false, false, false, true, false, false, false, false, false, false, false, false, false, false, false, false, false, false, false, false, false, false, false, false, false, false, false, false, false, false, false, false, false, false, false, false] : List Bool).getD k false
  d := ⟨some ⟨n 0, 0, none⟩, 3, 3, fun i => ([(-4294967296), 0, 4294967296] : List Int).getD i 0, fun i => ([(-12884901888000), 0, 17179869184000] : List Int).getD i 0⟩
  t := ⟨⟨some ⟨n 1, 0, none⟩, 3, 3, fun i => ([0, 536870912, 4294967296] : List Int).getD i 0⟩, ⟨some ⟨n 2, 0, none⟩, 2, 2, fun i => ([0, 34359738368000] : List Int).getD i 0⟩, some ⟨n 5, 0, none⟩, 2, 2, fun i => if i = 0 then ⟨some ⟨n 3, 0, none⟩, 3, 3, fun i => ([0, 5368709120, 4294967296] : List Int).getD i 0⟩ else ⟨some ⟨n 4, 0, none⟩, 3, 3, fun i => ([0, 4294967296, 3221225472] : List Int).getD i 0⟩⟩
  q := ⟨some ⟨n 6, 0, none⟩, 3, 3, fun i => ([0, 429496729600, 2576980377600] : List Int).getD i 0, fun i => ([0, 858993459200, 644245094400] : List Int).getD i 0⟩
  r := ⟨some ⟨n 7, 0, none⟩, 2, 2, fun i => ([0, 429496729600] : List Int).getD i 0, fun i => ([0, 17179869184000] : List Int).getD i 0⟩
  g := ⟨some ⟨n 8, 0, none⟩, 3, 3, fun i => ([12884901888, 8589934592, 4294967296] : List Int).getD i 0⟩
theorem nums_bw {B n : Nat} {W : World} (l : List Int) (K : BW W n (l.map (Value.int .i64))) (hn : n < B) (h9 : l.length ≤ 9) (wf : ∀ x ∈ l, (Lit.int .i64 x).wf = true) : Nums B W ⟨some ⟨n, 0, none⟩, l.length, l.length, fun i => l.getD i 0⟩ :=
  ⟨by show l.length ≤ maxLen; unfold maxLen; omega, Nat.le_refl _, fun i hi => by
    show (Lit.int .i64 (l.getD i 0)).wf = true
    rw [List.getD_eq_getElem?_getD, List.getElem?_eq_getElem (show i < l.length from hi)]
    exact wf _ (List.getElem_mem hi), fun _ => ⟨n, 0, rfl, hn, fun i hi => by
    rw [Nat.zero_add]
    refine K.c i _ ?_
    show _ = some (Value.int .i64 (l.getD i 0))
    rw [List.getElem?_map, List.getD_eq_getElem?_getD, List.getElem?_eq_getElem (show i < l.length from hi)]
    rfl⟩⟩
theorem dz_bw {B n : Nat} {W : World} (l : List Int) (s : Dz) (K : BW W n (l.map (Value.int .i64))) (hn : n < B) (ha : s.a = some ⟨n, 0, none⟩) (hc : s.c = s.n) (h9 : s.n ≤ 9)
    (h : ∀ i, i < s.n → (l[i * 2]? = some (s.x i) ∧ l[i * 2 + 1]? = some (s.y i)) ∧ (Lit.int .i64 (s.x i)).wf = true ∧ (Lit.int .i64 (s.y i)).wf = true) : DzM B W s :=
  ⟨by rw [hc]; unfold maxLen; omega, by omega, fun i hi => (h i hi).2, fun _ => ⟨n, 0, ha, hn, fun i hi => by
    rw [Nat.zero_add]
    exact ⟨K.c _ _ (by rw [List.getElem?_map, (h i hi).1.1]; rfl), K.c _ _ (by rw [List.getElem?_map, (h i hi).1.2]; rfl)⟩⟩⟩
theorem smp_m (n : Nat → Nat) (B : Nat) (W : World) (hB : ∀ i, i < 9 → n i < B)
    (b0 : BW W (n 0) [.int .i64 (-4294967296), .int .i64 (-12884901888000), .int .i64 (0), .int .i64 (0), .int .i64 (4294967296), .int .i64 (17179869184000)]) (b1 : BW W (n 1) [.int .i64 (0), .int .i64 (536870912), .int .i64 (4294967296)]) (b2 : BW W (n 2) [.int .i64 (0), .int .i64 (34359738368000)]) (b3 : BW W (n 3) [.int .i64 (0), .int .i64 (5368709120), .int .i64 (4294967296)]) (b4 : BW W (n 4) [.int .i64 (0), .int .i64 (4294967296), .int .i64 (3221225472)]) (b5 : BW W (n 5) [.slice (some ⟨n 3, 0, none⟩) 3 3, .slice (some ⟨n 4, 0, none⟩) 3 3])
    (b6 : BW W (n 6) [.int .i64 (0), .int .i64 (0), .int .i64 (429496729600), .int .i64 (858993459200), .int .i64 (2576980377600), .int .i64 (644245094400)]) (b7 : BW W (n 7) [.int .i64 (0), .int .i64 (0), .int .i64 (429496729600), .int .i64 (17179869184000)]) (b8 : BW W (n 8) [.int .i64 (12884901888), .int .i64 (8589934592), .int .i64 (4294967296)]) : CrM B W (smpC n) := by
  refine ⟨dz_bw [(-4294967296), (-12884901888000), 0, 0, 4294967296, 17179869184000] _ b0 (hB 0 (by omega)) rfl rfl (by show 3 ≤ 9; omega) ?_, ⟨nums_bw [0, 536870912, 4294967296] b1 (hB 1 (by omega)) (by decide) (by decide), nums_bw [0, 34359738368000] b2 (hB 2 (by omega)) (by decide) (by decide), by show 2 ≤ maxLen; unfold maxLen; omega, Nat.le_refl _, fun _ => ⟨n 5, 0, rfl, hB 5 (by omega), ?_⟩, ?_⟩,
    dz_bw [0, 0, 429496729600, 858993459200, 2576980377600, 644245094400] _ b6 (hB 6 (by omega)) rfl rfl (by show 3 ≤ 9; omega) ?_, dz_bw [0, 0, 429496729600, 17179869184000] _ b7 (hB 7 (by omega)) rfl rfl (by show 2 ≤ 9; omega) ?_, nums_bw [12884901888, 8589934592, 4294967296] b8 (hB 8 (by omega)) (by decide) (by decide)⟩
  · intro i hi
    have : i = 0 ∨ i = 1 ∨ i = 2 := by have : i < 3 := hi; omega
    rcases this with rfl | rfl | rfl <;> exact ⟨⟨rfl, rfl⟩, rfl, rfl⟩
  · intro i hi
    have : i = 0 ∨ i = 1 := by have : i < 2 := hi; omega
    rcases this with rfl | rfl
    · exact b5.c 0 _ rfl
    · exact b5.c 1 _ rfl
  · intro i hi
    have : i = 0 ∨ i = 1 := by have : i < 2 := hi; omega
    rcases this with rfl | rfl
    · exact nums_bw [0, 5368709120, 4294967296] b3 (hB 3 (by omega)) (by decide) (by decide)
    · exact nums_bw [0, 4294967296, 3221225472] b4 (hB 4 (by omega)) (by decide) (by decide)
  · intro i hi
    have : i = 0 ∨ i = 1 ∨ i = 2 := by have : i < 3 := hi; omega
    rcases this with rfl | rfl | rfl <;> exact ⟨⟨rfl, rfl⟩, rfl, rfl⟩
  · intro i hi
    have : i = 0 ∨ i = 1 := by have : i < 2 := hi; omega
    rcases this with rfl | rfl <;> exact ⟨⟨rfl, rfl⟩, rfl, rfl⟩
noncomputable def smT (n : Nat) : Code := ((Try.f35.body.bind (atC n)).getD .skip)
theorem res_cell {P : Program} {fn : Func} {tmps : Array Value} {w : World} (t : TypeId) (b : Nat) (cs : List Value) (d : TypeDesc) (hr : fn.results = #[.cell 0 t]) (h0 : tmps.getD 0 undef = .pointer (some ⟨b, 0, none⟩)) (hc : w.rangeAt b 0 cs)
    (hu : P.underlying t = some d) (hd : d.isRow = true) (hi : (P.info? t).map (·.size) = some cs.length) : (results fn tmps).run P w = .ok (.agg cs.toArray) w := by
  have hl : (loadCellsFrom ⟨b, 0, none⟩ 0 cs.length #[]).run P w = .ok cs.toArray w := by
    have := run_loadCells_list (P := P) w ⟨b, 0, none⟩ cs (fun j v hv => by rw [Addr.add_mid]; exact hc j v hv)
    simpa [loadCells] using this
  cases hq : P.info? t with
  | none => simp [hq] at hi
  | some i =>
    have hs : i.size = cs.length := by simpa [hq] using hi
    have hz : (sizeOf t).run P w = .ok cs.length w := by simp [sizeOf, typeInfo, hq, hs, go_sem]
    have hagg : (isAgg t).run P w = .ok true w := by
      unfold isAgg
      rw [Sem.run_bind, run_underlying hu w]
      cases d <;> simp_all
    have h0' : tmps[0]?.getD undef = .pointer (some ⟨b, 0, none⟩) := by simpa using h0
    unfold results
    rw [hr]
    simp [h0', asAddr, go_sem, hagg, hz, hl]
theorem carL_one (c : Cr) : ∀ v ∈ carL c, v.oneCell' = true := by
  intro v hv
  have h : (carL c).all (·.oneCell') = true := rfl
  exact List.all_eq_true.mp h v hv
set_option maxRecDepth 100000 in
set_option maxHeartbeats 8000000 in
theorem lSample_end (w W : World) (c : Cr) (bl : List (Nat × List Value)) (S : SmS w W (carL c) bl) (HB : ∀ W', W'.heap.size = W.heap.size → (∀ n l, (n, l) ∈ bl → BW W' n l) → CrM W'.heap.size W' c) (R : Ending → World → Prop)
    (hR : ∀ W', CrM W'.heap.size W' c → Below w.heap.size w W' → R (.returned (.agg (carL c).toArray)) W') (u2 u3 u4 u5 u6 u7 u8 u9 u10 u11 u12 u13 u14 u15 u16 u17 u18 u19 u20 u21 u22 u23 u24 u25 u26 u27 u28 u29 u30 u31 u32 u33 u34 u35 u36 u37 u38 u39 u40 u41 u42 u43 u44 u45 u46 u47 u48 u49 u50 u51 u52 u53 u54 u55 u56 u57 u58 u59 u60 u61 u62 u63 u64 u65 u66 u67 u68 u69 u70 u71 u72 u73 u74 u75 u76 u77 u78 u79 u80 u81 u82 u83 u84 u85 u86 u87 u88 u89 u90 u91 u92 u93 u94 u95 u96 u97 u98 u99 u100 u101 u102 u103 u104 u105 u106 u107 u108 u109 u110 u111 u112 u113 u114 u115 u116 : Value) :
    Code.wp Try.prog (smT 38) (bodyPost Try.prog Try.f35 R) ⟨(Value.pointer (some ⟨w.heap.size, 0, none⟩) :: Value.pointer (some ⟨w.heap.size + 1, 0, none⟩) :: u2 :: u3 :: u4 :: u5 :: u6 :: u7 :: u8 :: u9 :: u10 :: u11 :: u12 :: u13 :: u14 :: u15 :: u16 :: u17 :: u18 :: u19 :: u20 :: u21 :: u22 :: u23 :: u24 :: u25 :: u26 :: u27 :: u28 :: u29 :: u30 :: u31 :: u32 :: u33 :: u34 :: u35 :: u36 :: u37 :: u38 :: u39 :: u40 :: u41 :: u42 :: u43 :: u44 :: u45 :: u46 :: u47 :: u48 :: u49 :: u50 :: u51 :: u52 :: u53 :: u54 :: u55 :: u56 :: u57 :: u58 :: u59 :: u60 :: u61 :: u62 :: u63 :: u64 :: u65 :: u66 :: u67 :: u68 :: u69 :: u70 :: u71 :: u72 :: u73 :: u74 :: u75 :: u76 :: u77 :: u78 :: u79 :: u80 :: u81 :: u82 :: u83 :: u84 :: u85 :: u86 :: u87 :: u88 :: u89 :: u90 :: u91 :: u92 :: u93 :: u94 :: u95 :: u96 :: u97 :: u98 :: u99 :: u100 :: u101 :: u102 :: u103 :: u104 :: u105 :: u106 :: u107 :: u108 :: u109 :: u110 :: u111 :: u112 :: u113 :: u114 :: u115 :: u116 :: []).toArray, []⟩ W := by
  have H1 := HB (W.setCells w.heap.size 0 (carL c)) (by rw [size_setC]) (fun n l h => (S.b n l h).1.apart (by have := (S.b n l h).2; omega))
  have H2 := S.l.trans (below_setC (Nat.le_refl _) (carL c) 0 W)
  have Z := S.z.store (l' := carL c) rfl
  have RS := Lib.hid (hR _ H1 H2)
  have ZT := Lib.hid (S.z.there)
  have CR := Lib.hid S.c.range
  have ZR := Lib.hid Z.range
  clear H1 H2 Z hR HB S
  conv => arg 2; whnf
  go_wp2_with fail
  refine wp_load_mid 37 (.tmp 1) rfl (w.heap.size + 1) 0 rfl _ _ CR.out Try.underlying37 rfl (by kernel_rfl) ?_
  go_wp2_with fail
  rw [run_sc _ _ _ (by exact ZT.out) (carL_one c)]
  go_wp2_with fail
  exact bodyPost_ret (v := .agg (carL c).toArray) (res_cell 37 w.heap.size (carL c) _ rfl rfl ZR.out Try.underlying37 rfl (by kernel_rfl)) rfl RS.out
end Go.Proofs.Ytbpmbdnhfkfkhaa

/- The program's field in memory: has, first, along, Where, Base, Kind. -/
import Derived.Test.YtllkhgcokbpggaaBd
import Derived.Test.YtllkhgcokbpggaaBx
import Derived.Test.YtllkhgcokbpggaaBp
import Derived.Test.YtllkhgcokbpggaaBt
import Derived.Deep.QuietTactic
import Derived.BigQuiet
namespace Go.Proofs.Ytllkhgcokbpggaa
open Go.RowKit
set_option linter.unusedVariables false
set_option linter.unusedSimpArgs false

/-- the program's field: its own cells in block f, its heights in block hb, its ground in block gb -/
structure FX (lo top : Nat) (W : World) (f hb gb hc gc : Nat) (t : Trk) : Prop where
  b : BW W f [.int .i64 t.cell, .int .i64 t.cols, .int .i64 t.rows, .int .i64 t.cx, .int .i64 t.cy, .slice (some ⟨hb, 0, none⟩) t.H.n hc, .slice (some ⟨gb, 0, none⟩) t.G.n gc]
  l : lo ≤ f ∧ f < top ∧ top ≤ W.heap.size
  lh : lo ≤ hb ∧ hb < top
  lg : lo ≤ gb ∧ gb < top
  h : ∀ i, i < t.H.n → W.cell? ⟨hb, i, none⟩ = some (.int .i64 (t.H.v i))
  g : ∀ i, i < t.G.n → W.cell? ⟨gb, i, none⟩ = some (.int .i64 (t.G.v i))
  r : cntP t ∧ frP t
theorem FX.keep {lo top : Nat} {W W' : World} {f hb gb hc gc : Nat} {t : Trk} (F : FX lo top W f hb gb hc gc t) (hs : W.heap.size ≤ W'.heap.size) (k : ∀ j, lo ≤ j → j < top → W'.heap[j]? = W.heap[j]?) : FX lo top W' f hb gb hc gc t :=
  ⟨⟨fun i v e => (World.cell?_of_block (w := W) (a := ⟨f, i, none⟩) (k f F.l.1 F.l.2.1)).trans (F.b.c i v e), fun j => (World.frozen?_of_block (w := W) (a := ⟨f, j, none⟩) (k f F.l.1 F.l.2.1)).trans (F.b.f j), by have := F.b.lt; omega⟩,
   ⟨F.l.1, F.l.2.1, by have := F.l.2.2; omega⟩, F.lh, F.lg,
   fun i hi => (World.cell?_of_block (w := W) (a := ⟨hb, i, none⟩) (k hb F.lh.1 F.lh.2)).trans (F.h i hi),
   fun i hi => (World.cell?_of_block (w := W) (a := ⟨gb, i, none⟩) (k gb F.lg.1 F.lg.2)).trans (F.g i hi), F.r⟩
theorem FX.step {lo top : Nat} {W W' : World} {f hb gb hc gc : Nat} {t : Trk} (F : FX lo top W f hb gb hc gc t) (h : Below W.heap.size W W') : FX lo top W' f hb gb hc gc t :=
  F.keep h.size (fun j _ h2 => h.block j (by have := F.l.2.2; omega))
theorem FX.dn {lo top : Nat} {W : World} {f hb gb hc gc : Nat} {t : Trk} (F : FX lo top W f hb gb hc gc t) (n : Nat) : FX lo top (W.drewN n) f hb gb hc gc t := F.step (below_drewN (Below.refl _ _) n)
theorem FX.fx {lo top : Nat} {W W' : World} {f hb gb hc gc b k : Nat} {q : Bool} {t : Trk} (F : FX lo top W f hb gb hc gc t) (h : FxW W.heap.size W b k q W') (e : b < lo ∨ top ≤ b) : FX lo top W' f hb gb hc gc t :=
  F.keep h.size (fun j h1 h2 => (fx_grown h).block j (by have := F.l.2.2; omega) (fun c => by injection c with c; omega))
theorem FX.cs {lo top : Nat} {W : World} {f hb gb hc gc : Nat} {t : Trk} (F : FX lo top W f hb gb hc gc t) : W.cell? ⟨f, 0, none⟩ = some (.int .i64 t.cell) ∧ W.cell? ⟨f, 1, none⟩ = some (.int .i64 t.cols) ∧ W.cell? ⟨f, 2, none⟩ = some (.int .i64 t.rows) ∧ W.cell? ⟨f, 3, none⟩ = some (.int .i64 t.cx) ∧ W.cell? ⟨f, 4, none⟩ = some (.int .i64 t.cy) ∧
    W.cell? ⟨f, 5, none⟩ = some (.slice (some ⟨hb, 0, none⟩) t.H.n hc) ∧ W.cell? ⟨f, 6, none⟩ = some (.slice (some ⟨gb, 0, none⟩) t.G.n gc) :=
  ⟨F.b.c 0 _ rfl, F.b.c 1 _ rfl, F.b.c 2 _ rfl, F.b.c 3 _ rfl, F.b.c 4 _ rfl, F.b.c 5 _ rfl, F.b.c 6 _ rfl⟩
/-- the field, and all below as it was -/
structure FS (w : World) (lo top : Nat) (W : World) (f hb gb hc gc : Nat) (t : Trk) : Prop where
  p : FX lo top W f hb gb hc gc t
  l : Below w.heap.size w W
theorem FS.step {w W W' : World} {lo top f hb gb hc gc : Nat} {t : Trk} (S : FS w lo top W f hb gb hc gc t) (h : Below W.heap.size W W') : FS w lo top W' f hb gb hc gc t :=
  ⟨S.p.step h, S.l.trans (h.mono S.l.size)⟩
/-- the cell that Go's quotient tells, limited -/
theorem clamp_ax {d cell : Int} {many : Nat} (hc : 0 < cell) (hm : 0 < many) : clampF (Int.tdiv d cell) 0 ((many : Int) - 1) = (axK d cell many : Int) := by
  unfold axK clampF
  by_cases h : d < 0
  · rw [if_pos h]
    have e : Int.tdiv d cell = -(Int.tdiv (-d) cell) := by rw [Int.neg_tdiv]; omega
    have p : 0 ≤ Int.tdiv (-d) cell := Int.tdiv_nonneg (by omega) (by omega)
    by_cases q : Int.tdiv d cell < 0
    · rw [if_pos q]; rfl
    · rw [if_neg q, if_neg (by omega)]
      have : Int.tdiv d cell = 0 := by omega
      rw [this]; rfl
  · rw [if_neg h, Int.tdiv_eq_ediv_of_nonneg (by omega)]
    have p := Int.ediv_nonneg (show 0 ≤ d by omega) (show 0 ≤ cell by omega)
    rw [if_neg (by omega)]
    by_cases q : (many : Int) - 1 < d / cell
    · rw [if_pos q]; omega
    · rw [if_neg q]; omega
theorem ax_num {d cell : Int} {many : Nat} (hd : -422212465065984 ≤ d ∧ d ≤ 422212465065984) (hc : 17179869184 ≤ cell ∧ cell ≤ 274877906944) (hm : 1 ≤ many ∧ many ≤ 64) : (-422212465065984 ≤ Int.tdiv d cell ∧ Int.tdiv d cell ≤ 422212465065984) ∧ (0 ≤ (axK d cell many : Int) * cell ∧ (axK d cell many : Int) * cell ≤ 17592186044416) := by
  have a1 := axK_lt (d := d) (cell := cell) (many := many) (by omega)
  have a2 := Int.mul_nonneg (show 0 ≤ (axK d cell many : Int) by omega) (show 0 ≤ cell by omega)
  have a3 := Int.mul_le_mul (show (axK d cell many : Int) ≤ 64 by omega) hc.2 (by omega) (by omega)
  refine ⟨?_, a2, by omega⟩
  have h1 := Int.natAbs_tdiv_le_natAbs d cell
  omega
end Go.Proofs.Ytllkhgcokbpggaa
namespace Go.Proofs.Ytllkhgcokbpggaa
open Go.RowKit
set_option linter.unusedVariables false
set_option linter.unusedSimpArgs false

theorem PT.under {w W W' : World} {B C m : Nat} {t : Trk} (Q : PT w W B m t) (h : Below C W W') (hm : m < C) (hw : w.heap.size ≤ C) : PT w W' B m t :=
  ⟨Q.c.below h hm, Q.l.trans (h.mono hw), Q.t.keep h (by have := Q.z; omega), Q.z⟩
/-- a track's lists, and all below as it was -/
structure KTr (w W : World) (B : Nat) (t : Trk) : Prop where
  t : TrkM B W t
  l : Below w.heap.size w W
  z : B ≤ w.heap.size
theorem KTr.step {w W W' : World} {B : Nat} {t : Trk} (Q : KTr w W B t) (h : Below W.heap.size W W') : KTr w W' B t := ⟨Q.t.keep h (by have := Q.z; have := Q.l.size; omega), Q.l.trans (h.mono Q.l.size), Q.z⟩
end Go.Proofs.Ytllkhgcokbpggaa
namespace Go.Proofs.Ytllkhgcokbpggaa
open Go.RowKit
set_option linter.unusedVariables false
set_option linter.unusedSimpArgs false

/-- differences that height number i brings -/
def dif1 (t : Trk) (C i : Nat) : List Int := if (i + 1) % (C + 1) = 0 then [] else [t.H.v (i + 1) - t.H.v i]
def dif2 (t : Trk) (C i : Nat) : List Int := if i + (C + 1) < t.H.n then [t.H.v (i + (C + 1)) - t.H.v i] else []
/-- those of the first heights -/
def difL (t : Trk) (C : Nat) : Nat → List Int
  | 0 => []
  | j + 1 => difL t C j ++ dif1 t C j ++ dif2 t C j
theorem difL_len (t : Trk) (C : Nat) : ∀ j, (difL t C j).length ≤ 2 * j
  | 0 => Nat.le_refl _
  | j + 1 => by
    have h := difL_len t C j
    show (difL t C j ++ dif1 t C j ++ dif2 t C j).length ≤ _
    rw [List.length_append, List.length_append]
    have h1 : (dif1 t C j).length ≤ 1 := by unfold dif1; split <;> simp
    have h2 : (dif2 t C j).length ≤ 1 := by unfold dif2; split <;> simp
    omega
theorem mod_succ {C i : Nat} (hC : 1 ≤ C) : (i + 1) % (C + 1) = 0 ↔ ¬ i % (C + 1) < C := by
  have h := Nat.mod_lt i (show C + 1 > 0 by omega)
  have e := Nat.add_mod i 1 (C + 1)
  rw [Nat.mod_eq_of_lt (show 1 < C + 1 by omega)] at e
  rcases Nat.lt_or_ge (i % (C + 1)) C with l | l
  · rw [Nat.mod_eq_of_lt (show i % (C + 1) + 1 < C + 1 by omega)] at e
    omega
  · have : i % (C + 1) = C := by omega
    rw [this, Nat.mod_self] at e
    omega
theorem div_row {C R i n : Nat} (hn : n = (C + 1) * (R + 1)) (hi : i < n) : i + (C + 1) < n ↔ i / (C + 1) < R := by
  constructor
  · intro h
    apply Classical.byContradiction; intro c
    have e := Nat.div_add_mod i (C + 1)
    have h2 := Nat.mul_le_mul_left (C + 1) (show R ≤ i / (C + 1) by omega)
    rw [hn, Nat.mul_add, Nat.mul_one] at h
    omega
  · intro h
    have := idx_up hn hi h
    omega
theorem dif_all (t : Trk) (C R : Nat) (hC : 1 ≤ C) (hn : t.H.n = (C + 1) * (R + 1)) : ∀ j, j ≤ t.H.n → ((∀ x ∈ difL t C j, -t.cell ≤ x ∧ x ≤ t.cell) ↔ ∀ i, i < j → adjX t C i ∧ adjY t C R i)
  | 0, _ => ⟨fun _ i h => absurd h (by omega), fun _ x h => by cases h⟩
  | j + 1, hj => by
    have ih := dif_all t C R hC hn j (by omega)
    have hx : (∀ x ∈ dif1 t C j, -t.cell ≤ x ∧ x ≤ t.cell) ↔ adjX t C j := by
      unfold dif1 adjX
      have m := mod_succ (C := C) (i := j) hC
      by_cases h : (j + 1) % (C + 1) = 0
      · rw [if_pos h]
        exact ⟨fun _ k => absurd k (m.mp h), fun _ x k => by cases k⟩
      · rw [if_neg h]
        have l : j % (C + 1) < C := Classical.byContradiction fun k => h (m.mpr k)
        exact ⟨fun k _ => k _ (by simp), fun k x hx => by simp at hx; subst hx; exact k l⟩
    have hy : (∀ x ∈ dif2 t C j, -t.cell ≤ x ∧ x ≤ t.cell) ↔ adjY t C R j := by
      unfold dif2 adjY
      have m := div_row hn (show j < t.H.n by omega)
      by_cases h : j + (C + 1) < t.H.n
      · rw [if_pos h]
        exact ⟨fun k _ => k _ (by simp; rfl), fun k x hx => by simp at hx; subst hx; exact k (m.mp h)⟩
      · rw [if_neg h]
        exact ⟨fun _ k => absurd (m.mpr k) h, fun _ x k => by cases k⟩
    constructor
    · intro h i hi
      rcases Nat.lt_or_ge i j with l | l
      · exact ih.mp (fun x hx => h x (by show x ∈ difL t C j ++ dif1 t C j ++ dif2 t C j; simp [hx])) i l
      · have : i = j := by omega
        subst this
        exact ⟨hx.mp (fun x k => h x (by show x ∈ difL t C i ++ dif1 t C i ++ dif2 t C i; simp [k])), hy.mp (fun x k => h x (by show x ∈ difL t C i ++ dif1 t C i ++ dif2 t C i; simp [k]))⟩
    · intro h x k
      rcases List.mem_append.1 (show x ∈ (difL t C j ++ dif1 t C j) ++ dif2 t C j from k) with k | k
      · rcases List.mem_append.1 k with k | k
        · exact ih.mpr (fun i hi => h i (by omega)) x k
        · exact hx.mpr (h j (by omega)).1 x k
      · exact hy.mpr (h j (by omega)).2 x k
def intV (l : List Int) : List Value := l.map (Value.int .i64)
theorem intV_add (a b : List Int) : intV (a ++ b) = intV a ++ intV b := by simp [intV]
theorem intV_len (a : List Int) : (intV a).length = a.length := by simp [intV]
/-- a list of the call's own lies in memory -/
theorem lie_ob {base : Nat} {W : World} {v : Value} {l : List Int} (h : OB base W v (intV l)) : ∃ a c, v = .slice a l.length c ∧ Lie W a l.length (fun i => l.getD i 0) := by
  rcases h with ⟨rfl, h0⟩ | ⟨g, cap, rfl, hb, hg, hl, hm, hc, hf, hx⟩
  · have e : l.length = 0 := by rw [← intV_len, h0]; rfl
    exact ⟨none, 0, by rw [e], fun k => absurd k (by omega)⟩
  · rw [intV_len]
    refine ⟨_, cap, rfl, fun _ => ⟨g, 0, rfl, hg, fun i hi => ?_⟩⟩
    rw [Nat.zero_add]
    refine (hx i (.int .i64 l[i]) (by unfold intV; rw [List.getElem?_map, List.getElem?_eq_getElem hi]; rfl)).trans ?_
    show some (Value.int .i64 l[i]) = some (.int .i64 (l.getD i 0))
    rw [List.getD_eq_getElem?_getD, List.getElem?_eq_getElem hi]; rfl
theorem allW_list (l : List Int) (a b : Int) : allW (fun i => l.getD i 0) l.length a b ↔ ∀ x ∈ l, a ≤ x ∧ x ≤ b := by
  constructor
  · intro h x hx
    obtain ⟨i, hi, rfl⟩ := List.mem_iff_getElem.1 hx
    have := h i hi
    dsimp only at this
    rw [List.getD_eq_getElem?_getD, List.getElem?_eq_getElem hi] at this
    exact this
  · intro h i hi
    show a ≤ l.getD i 0 ∧ l.getD i 0 ≤ b
    rw [List.getD_eq_getElem?_getD, List.getElem?_eq_getElem hi]
    exact h _ (List.getElem_mem hi)
theorem ob_empty (w : World) (o : Obj) (T : TypeId) : OB (w.heap.size + 1) ((w.alloc o).alloc (.cells #[] T)) (.slice (some ⟨w.heap.size + 1, 0, none⟩) 0 0) [] := by
  have h := OB.new (base := w.heap.size + 1) (w.alloc o) [] [] #[] T rfl (by simp) (by unfold maxLen; simp)
  rw [World.size_alloc] at h
  exact h
/-- the list so far: the track's copy, the list -/
structure DfS (w W : World) (B : Nat) (t : Trk) (v : Value) (l : List Int) : Prop where
  q : PT w W B w.heap.size t
  o : OB (w.heap.size + 1) W v (intV l)
  s : w.heap.size + 1 ≤ W.heap.size
theorem DfS.step {w W W' : World} {B : Nat} {t : Trk} {v : Value} {l : List Int} (S : DfS w W B t v l) (h : Below W.heap.size W W') : DfS w W' B t v l :=
  ⟨S.q.step h, S.o.below h, by have := S.s; have := h.size; omega⟩
theorem DfS.put {w W W' : World} {B : Nat} {t : Trk} {v v' : Value} {l : List Int} {x : Int} (S : DfS w W B t v l) (o : OB (w.heap.size + 1) W' v' (intV l ++ [.int .i64 x])) (g : W.grownBy W' v.ownBlock) : DfS w W' B t v' (l ++ [x]) :=
  ⟨S.q.under (S.o.up g S.s) (by omega) (by omega), by rw [intV_add]; exact o, by have := S.s; have := g.size; omega⟩
end Go.Proofs.Ytllkhgcokbpggaa

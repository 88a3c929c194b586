/- Numbers of the program's fence: boxes, cells of levels, pieces by their cell, those that are met, in order. -/
import Derived.Test.YtllkhgcokbpggaaVf
import Derived.Test.YtllkhgcokbpggaaBn
import Derived.Test.YtllkhgcokbpggaaBl
import Derived.Test.YtllkhgcokbpggaaVg
import Derived.WideKeyEntry
import Derived.DeepKeys4
import Derived.Test.YtllkhgcokbpggaaNn
namespace Go.Proofs.Ytllkhgcokbpggaa
open Go.RowKit
set_option linter.unusedVariables false

/-- a box along the axes -/
structure Bx where
  lx : Int
  ly : Int
  hx : Int
  hy : Int
/-- a piece's box -/
def boxG (g : Fv) : Bx := ⟨min g.ax g.bx, min g.ay g.by', max g.ax g.bx, max g.ay g.by'⟩
/-- boxes have a place in common -/
def ovP (a b : Bx) : Prop := ((a.lx ≤ b.hx ∧ b.lx ≤ a.hx) ∧ a.ly ≤ b.hy) ∧ b.ly ≤ a.hy
instance (a b : Bx) : Decidable (ovP a b) := by unfold ovP; exact inferInstance
/-- within the border -/
def clB (x : Int) : Int := max (-281749854617600) (min 281749854617600 x)
/-- how long a piece's box is within the border -/
def lgG (g : Fv) : Int := max (clB (boxG g).hx - clB (boxG g).lx) (clB (boxG g).hy - clB (boxG g).ly)
/-- a piece's level -/
def lvG (g : Fv) : Nat := max 38 (Lib.bitLen (lgG g).toNat)
/-- the cell of a level in which a place is -/
def atK (l : Nat) (x y : Int) : Int × Int × Int := (l, x / 2 ^ l, y / 2 ^ l)
/-- a piece's cell -/
def hmG (g : Fv) : Int × Int × Int := atK (lvG g) (clB (boxG g).lx) (clB (boxG g).ly)
theorem cl_in (x : Int) : -281749854617600 ≤ clB x ∧ clB x ≤ 281749854617600 := by unfold clB; omega
theorem lg_in (g : Fv) : 0 ≤ lgG g ∧ lgG g ≤ 563499709235200 := by
  have a := cl_in (boxG g).hx
  have b := cl_in (boxG g).lx
  have c := cl_in (boxG g).hy
  have d := cl_in (boxG g).ly
  have e : clB (boxG g).lx ≤ clB (boxG g).hx := by unfold clB boxG; dsimp only; omega
  unfold lgG; omega
theorem lg_lt (g : Fv) : lgG g < 2 ^ lvG g := by
  have h := lg_in g
  have a := (blen_spec (lgG g).toNat (by omega)).1
  have b : 2 ^ Lib.bitLen (lgG g).toNat ≤ 2 ^ lvG g := Nat.pow_le_pow_right (by omega) (by unfold lvG; omega)
  have c : (lgG g).toNat < 2 ^ lvG g := Nat.lt_of_lt_of_le a b
  have d : ((2 ^ lvG g : Nat) : Int) = 2 ^ lvG g := by norm_cast
  omega
theorem lv_in (g : Fv) : 38 ≤ lvG g ∧ lvG g ≤ 50 := by
  have h := lg_in g
  have := Lib.bitLen_le (lgG g).toNat 50 (by omega) (by omega)
  unfold lvG; omega
/-- n numbers from a on -/
def upI (a : Int) (n : Nat) : List Int := (List.range n).map fun i : Nat => a + (i : Int)
theorem upI_len (a : Int) (n : Nat) : (upI a n).length = n := by simp [upI]
theorem mem_upI {a x : Int} {n : Nat} : x ∈ upI a n ↔ a ≤ x ∧ x < a + n := by
  unfold upI
  rw [List.mem_map]
  constructor
  · rintro ⟨i, h, rfl⟩
    have := List.mem_range.1 h
    omega
  · rintro ⟨h, k⟩
    exact ⟨(x - a).toNat, List.mem_range.2 (by omega), by omega⟩
theorem upI_at {a : Int} {n i : Nat} (h : i < n) : (upI a n).getD i 0 = a + i := by
  unfold upI
  rw [List.getD_eq_getElem?_getD, List.getElem?_map, List.getElem?_range h]
  rfl
theorem upI_nodup (a : Int) (n : Nat) : (upI a n).Nodup := by
  unfold upI
  exact List.pairwise_map.2 (List.nodup_range.imp fun h e => h (by omega))
/-- how many columns or rows -/
def wdN (a b : Int) (l : Int) : Nat := (b / 2 ^ l.toNat - a / 2 ^ l.toNat + 2).toNat
/-- the first column or row -/
def loN (a : Int) (l : Int) : Int := a / 2 ^ l.toNat - 1
/-- the cells of a column -/
def colL (b : Bx) (l c : Int) : List (Int × Int × Int) := (upI (loN b.ly l) (wdN b.ly b.hy l)).map fun r => (l, c, r)
/-- the cells of a level -/
def lvlL (b : Bx) (l : Int) : List (Int × Int × Int) := (upI (loN b.lx l) (wdN b.lx b.hx l)).flatMap (colL b l)
/-- all cells in which pieces may be -/
def cellL (b : Bx) (Ls : List Int) : List (Int × Int × Int) := Ls.flatMap (lvlL b)
theorem mem_lvl {b : Bx} {l : Int} {x : Int × Int × Int} (h : x ∈ lvlL b l) : x.1 = l := by
  obtain ⟨c, _, h⟩ := List.mem_flatMap.1 h
  obtain ⟨r, _, rfl⟩ := List.mem_map.1 h
  rfl
theorem cell_nodup (b : Bx) {Ls : List Int} (h : Ls.Nodup) : (cellL b Ls).Nodup := by
  refine List.pairwise_flatMap.2 ⟨fun l _ => List.pairwise_flatMap.2 ⟨fun c _ => List.pairwise_map.2 ((upI_nodup _ _).imp fun h e => h (by cases e; rfl)), (upI_nodup _ _).imp fun h x hx y hy e => ?_⟩, h.imp fun h x hx y hy e => h ?_⟩
  · obtain ⟨r, _, rfl⟩ := List.mem_map.1 hx
    obtain ⟨s, _, rfl⟩ := List.mem_map.1 hy
    exact h (by cases e; rfl)
  · rw [← mem_lvl hx, ← mem_lvl hy, e]
theorem div_between {a b c m : Int} (hm : 0 < m) (h1 : a - m < c) (h2 : c ≤ b) : a / m - 1 ≤ c / m ∧ c / m ≤ b / m := by
  refine ⟨?_, Int.ediv_le_ediv hm h2⟩
  have h := Int.ediv_le_ediv hm (show a + -1 * m ≤ c by omega)
  rw [Int.add_mul_ediv_right a (-1) (by omega)] at h
  omega
theorem in_range {a b q : Int} {l : Nat} (h : a / 2 ^ l - 1 ≤ q ∧ q ≤ b / 2 ^ l) : q ∈ upI (loN a l) (wdN a b l) := by
  rw [mem_upI]
  unfold loN wdN
  rw [Int.toNat_natCast]
  omega
/-- a piece whose box has a place in common with a box within the border is in one of the cells -/
theorem hm_mem {b : Bx} {g : Fv} {Ls : List Int} (hb : (-281749854617600 ≤ b.hx ∧ b.lx ≤ 281749854617600) ∧ -281749854617600 ≤ b.hy ∧ b.ly ≤ 281749854617600) (ov : ovP b (boxG g)) (hl : (lvG g : Int) ∈ Ls) : hmG g ∈ cellL b Ls := by
  have k := lg_lt g
  have kx : clB (boxG g).hx - clB (boxG g).lx ≤ lgG g := by unfold lgG; omega
  have ky : clB (boxG g).hy - clB (boxG g).ly ≤ lgG g := by unfold lgG; omega
  obtain ⟨⟨⟨o1, o2⟩, o3⟩, o4⟩ := ov
  have a1 : b.lx ≤ clB (boxG g).hx := by unfold clB; omega
  have a2 : clB (boxG g).lx ≤ b.hx := by unfold clB; omega
  have a3 : b.ly ≤ clB (boxG g).hy := by unfold clB; omega
  have a4 : clB (boxG g).ly ≤ b.hy := by unfold clB; omega
  have hm : (0 : Int) < 2 ^ lvG g := Int.pow_pos (by omega)
  refine List.mem_flatMap.2 ⟨_, hl, List.mem_flatMap.2 ⟨_, in_range (div_between (c := clB (boxG g).lx) hm (by omega) a2), List.mem_map.2 ⟨_, in_range (div_between (c := clB (boxG g).ly) hm (by omega) a4), rfl⟩⟩⟩
/-- those of two kinds, which have none in common -/
theorem selI_or (A B : Nat → Bool) : ∀ n, (∀ i, i < n → ¬ (A i = true ∧ B i = true)) → (selI (fun i => A i || B i) n).Perm (selI A n ++ selI B n)
  | 0, _ => List.Perm.refl _
  | n + 1, h => by
    have ih := selI_or A B n fun i hi => h i (by omega)
    have hn := h n (by omega)
    show (selI (fun i => A i || B i) n ++ (if (A n || B n) = true then [(n : Int)] else [])).Perm ((selI A n ++ (if A n = true then [(n : Int)] else [])) ++ (selI B n ++ (if B n = true then [(n : Int)] else [])))
    by_cases a : A n = true
    · have b : ¬ B n = true := fun b => hn ⟨a, b⟩
      rw [if_pos (by rw [a]; rfl), if_pos a, if_neg b, List.append_nil]
      refine (List.Perm.append_right _ ih).trans ?_
      rw [List.append_assoc, List.append_assoc]
      exact List.Perm.append_left _ List.perm_append_comm
    · by_cases b : B n = true
      · rw [if_pos (by rw [b, Bool.or_true]), if_neg a, if_pos b, List.append_nil, ← List.append_assoc]
        exact List.Perm.append_right _ ih
      · rw [if_neg (by simp [a, b]), if_neg a, if_neg b, List.append_nil, List.append_nil, List.append_nil]
        exact ih
theorem selI_congr {A B : Nat → Bool} : ∀ {n}, (∀ i, i < n → A i = B i) → selI A n = selI B n
  | 0, _ => rfl
  | n + 1, h => by
    show selI A n ++ (if A n = true then _ else _) = selI B n ++ (if B n = true then _ else _)
    rw [selI_congr fun i hi => h i (by omega), h n (by omega)]
theorem selI_filter (A : Nat → Bool) (Q : Int → Bool) : ∀ n, (selI A n).filter Q = selI (fun i => A i && Q i) n
  | 0 => rfl
  | n + 1 => by
    show (selI A n ++ (if A n = true then [(n : Int)] else [])).filter Q = selI _ n ++ (if (A n && Q n) = true then [(n : Int)] else [])
    rw [List.filter_append, selI_filter A Q n]
    cases h : A n <;> cases k : Q n <;> simp [k]
theorem selI_sorted (A : Nat → Bool) : ∀ n, (selI A n).Pairwise (· < ·)
  | 0 => List.Pairwise.nil
  | n + 1 => by
    refine List.pairwise_append.2 ⟨selI_sorted A n, ?_, fun x hx y hy => ?_⟩
    · split <;> simp
    · obtain ⟨k, rfl, hk, _⟩ := selI_mem hx
      split at hy
      · simp only [List.mem_cons, List.not_mem_nil, or_false] at hy; subst hy; omega
      · cases hy
/-- pieces that were met, cell by cell -/
def metL (g : Nat → Fv) (n : Nat) (b : Bx) (cs : List (Int × Int × Int)) : List Int :=
  cs.flatMap fun c => (selI (fun i => decide (hmG (g i) = c)) n).filter fun i => decide (ovP b (boxG (g i.toNat)))
theorem met_perm (g : Nat → Fv) (n : Nat) (b : Bx) : ∀ cs : List (Int × Int × Int), cs.Nodup → (metL g n b cs).Perm (selI (fun i => decide (ovP b (boxG (g i))) && decide (hmG (g i) ∈ cs)) n)
  | [], _ => by
    have : ∀ m, selI (fun i => decide (ovP b (boxG (g i))) && decide (hmG (g i) ∈ ([] : List (Int × Int × Int)))) m = [] := fun m => by
      induction m with
      | zero => rfl
      | succ m ih =>
        show selI _ m ++ (if (decide (ovP b (boxG (g m))) && decide (hmG (g m) ∈ ([] : List (Int × Int × Int)))) = true then [(m : Int)] else []) = []
        rw [ih, if_neg (by simp)]; rfl
    rw [this]
    exact List.Perm.refl _
  | c :: cs, h => by
    obtain ⟨h1, h2⟩ := List.nodup_cons.1 h
    have ih := met_perm g n b cs h2
    show ((selI (fun i => decide (hmG (g i) = c)) n).filter (fun i => decide (ovP b (boxG (g i.toNat)))) ++ metL g n b cs).Perm _
    rw [selI_filter]
    refine (List.Perm.append_left _ ih).trans ((selI_or _ _ n fun i _ k => ?_).symm.trans ?_)
    · simp only [Bool.and_eq_true, decide_eq_true_eq] at k
      exact h1 (k.1.1 ▸ k.2.2)
    · rw [selI_congr fun i _ => ?_]
      simp only [Int.toNat_natCast, List.mem_cons]
      by_cases p : ovP b (boxG (g i)) <;> by_cases q : hmG (g i) = c <;> by_cases r : hmG (g i) ∈ cs <;> simp [p, q, r]
theorem met_len {g : Nat → Fv} {n : Nat} {b : Bx} {cs : List (Int × Int × Int)} (h : cs.Nodup) : (metL g n b cs).length ≤ n := by
  rw [(met_perm g n b cs h).length_eq]
  exact selI_len _ _
/-- .. in order -/
theorem met_sorted {g : Nat → Fv} {n : Nat} {b : Bx} {Ls : List Int} (hL : Ls.Nodup) (hl : ∀ i, i < n → (lvG (g i) : Int) ∈ Ls) (hb : (-281749854617600 ≤ b.hx ∧ b.lx ≤ 281749854617600) ∧ -281749854617600 ≤ b.hy ∧ b.ly ≤ 281749854617600) :
    (metL g n b (cellL b Ls)).mergeSort (fun x y => decide (x ≤ y)) = selI (fun i => decide (ovP b (boxG (g i)))) n := by
  have p := met_perm g n b _ (cell_nodup b hL)
  rw [selI_congr (B := fun i => decide (ovP b (boxG (g i)))) fun i hi => ?_] at p
  · have q := (List.mergeSort_perm (metL g n b (cellL b Ls)) (fun x y => decide (x ≤ y))).trans p
    refine List.Perm.eq_of_pairwise (le := fun x y : Int => x ≤ y) (fun a b _ _ h k => by omega) ?_ ((selI_sorted _ _).imp fun h => by omega) q
    have s := List.pairwise_mergeSort (le := fun x y : Int => decide (x ≤ y)) (fun a b c h k => by simp only [decide_eq_true_eq] at *; omega) (fun a b => by simp only [Bool.or_eq_true, decide_eq_true_eq]; omega) (metL g n b (cellL b Ls))
    exact s.imp fun h => of_decide_eq_true h
  · by_cases o : ovP b (boxG (g i))
    · rw [decide_eq_true o, decide_eq_true (hm_mem hb o (hl i hi))]; rfl
    · rw [decide_eq_false o]; rfl
theorem pre_at {α : Type} {p : List α} {c : α} {l : List α} (h : p ++ [c] <+: l) : p.length < l.length ∧ l[p.length]? = some c ∧ l.take p.length = p := by
  obtain ⟨r, rfl⟩ := h
  exact ⟨by simp, by simp, by simp⟩
theorem met_app (g : Nat → Fv) (n : Nat) (b : Bx) (cs : List (Int × Int × Int)) (c : Int × Int × Int) : metL g n b (cs ++ [c]) = metL g n b cs ++ (selI (fun i => decide (hmG (g i) = c)) n).filter fun i => decide (ovP b (boxG (g i.toNat))) := by
  unfold metL
  rw [List.flatMap_append]
  simp
theorem flt_succ {l : List Int} {Q : Int → Bool} {j : Nat} (h : j < l.length) : (l.take (j + 1)).filter Q = (l.take j).filter Q ++ (if Q (l.getD j 0) = true then [l.getD j 0] else []) := by
  rw [List.take_add_one, List.filter_append, List.getD_eq_getElem?_getD, List.getElem?_eq_getElem h]
  simp only [Option.toList_some, Option.getD_some]
  split
  · rename_i c; simp [c]
  · rename_i c; simp [c]
/-- a foot on a stretch: how far off along an axis -/
theorem foot_in {q s u v t d : Int} (hq : 0 < q) (h0 : 0 ≤ s) (h1 : s ≤ q) (e : q * v = s * u - t) (ht : -(q * d) ≤ t ∧ t ≤ q * d) : min 0 u - d ≤ v ∧ v ≤ max 0 u + d := by
  have mul : ∀ a b : Int, q * a ≤ q * b → a ≤ b := fun a b h => Int.le_of_mul_le_mul_left h hq
  rcases Int.le_total 0 u with hu | hu
  · have a : 0 ≤ s * u := Int.mul_nonneg h0 hu
    have b : s * u ≤ q * u := Int.mul_le_mul_of_nonneg_right h1 hu
    have c := mul (-d) v (by rw [e, Int.mul_neg]; omega)
    have f := mul v (u + d) (by rw [e, Int.mul_add]; omega)
    omega
  · have a : 0 ≤ s * -u := Int.mul_nonneg h0 (by omega)
    have b : s * -u ≤ q * -u := Int.mul_le_mul_of_nonneg_right h1 (by omega)
    rw [Int.mul_neg] at a b
    rw [Int.mul_neg] at b
    have c := mul (u - d) v (by rw [e, Int.mul_sub]; omega)
    have f := mul v d (by rw [e]; omega)
    omega
theorem abs_mul {u a r d q : Int} (hr : 0 ≤ r) (hd : 0 ≤ d) (hu : -r ≤ u ∧ u ≤ r) (ha : -(d * r) ≤ a ∧ a ≤ d * r) (hq : r * r ≤ q) : -(q * d) ≤ u * a ∧ u * a ≤ q * d := by
  have h1 := Int.mul_nonneg (show 0 ≤ r - u by omega) (show 0 ≤ d * r + a by omega)
  have h2 := Int.mul_nonneg (show 0 ≤ r + u by omega) (show 0 ≤ d * r - a by omega)
  have h3 := Int.mul_nonneg (show 0 ≤ r - u by omega) (show 0 ≤ d * r - a by omega)
  have h4 := Int.mul_nonneg (show 0 ≤ r + u by omega) (show 0 ≤ d * r + a by omega)
  have h5 : r * r * d ≤ q * d := Int.mul_le_mul_of_nonneg_right hq hd
  have e1 : (r - u) * (d * r + a) + (r + u) * (d * r - a) = 2 * (r * r * d) - 2 * (u * a) := by grind
  have e2 : (r - u) * (d * r - a) + (r + u) * (d * r + a) = 2 * (r * r * d) + 2 * (u * a) := by grind
  omega
/-- a place that is behind a piece is no further off its box -/
theorem bey_box {g : Fv} {x y deep : Int} (h0 : 0 < beyondN ⟨g.ax, g.ay⟩ ⟨g.bx, g.by'⟩ ⟨x, y⟩) (h1 : beyondN ⟨g.ax, g.ay⟩ ⟨g.bx, g.by'⟩ ⟨x, y⟩ ≤ deep) : ovP ⟨x - deep, y - deep, x + deep, y + deep⟩ (boxG g) := by
  unfold beyondN at h0 h1
  split at h0
  rotate_left
  · exact absurd h0 (by omega)
  rename_i c
  rw [if_pos c] at h1
  obtain ⟨-, c1, c2, c3⟩ := c
  have hsq : 0 ≤ sqP ⟨g.ax, g.ay⟩ ⟨g.bx, g.by'⟩ := by
    have a := sq_nn' (g.bx - g.ax)
    have b := sq_nn' (g.by' - g.ay)
    unfold sqP; dsimp only; omega
  have R := rootI_is hsq
  have RL := R.lo
  have RN := rootI_nn (sqP ⟨g.ax, g.ay⟩ ⟨g.bx, g.by'⟩)
  have ux1 : g.bx - g.ax ≤ rootI (sqP ⟨g.ax, g.ay⟩ ⟨g.bx, g.by'⟩) := rootI_ge (by have := sq_nn' (g.by' - g.ay); unfold sqP; dsimp only; omega)
  have ux2 : -(g.bx - g.ax) ≤ rootI (sqP ⟨g.ax, g.ay⟩ ⟨g.bx, g.by'⟩) := rootI_ge (by have := sq_nn' (g.by' - g.ay); rw [Int.neg_mul_neg]; unfold sqP; dsimp only; omega)
  have uy1 : g.by' - g.ay ≤ rootI (sqP ⟨g.ax, g.ay⟩ ⟨g.bx, g.by'⟩) := rootI_ge (by have := sq_nn' (g.bx - g.ax); unfold sqP; dsimp only; omega)
  have uy2 : -(g.by' - g.ay) ≤ rootI (sqP ⟨g.ax, g.ay⟩ ⟨g.bx, g.by'⟩) := rootI_ge (by have := sq_nn' (g.bx - g.ax); rw [Int.neg_mul_neg]; unfold sqP; dsimp only; omega)
  unfold dotP at c2 c3
  unfold area at c1 h0 h1
  unfold sqP at *
  dsimp only at *
  generalize hr : rootI ((g.bx - g.ax) * (g.bx - g.ax) + (g.by' - g.ay) * (g.by' - g.ay)) = r at *
  generalize hux : g.bx - g.ax = ux at *
  generalize huy : g.by' - g.ay = uy at *
  generalize hvx : x - g.ax = vx at *
  generalize hvy : y - g.ay = vy at *
  generalize hd : -((ux * vy - uy * vx) / r) = d at *
  generalize hA : ux * vy - uy * vx = A at *
  have rp : 0 < r := by
    rcases Int.lt_or_le 0 r with h | h
    · exact h
    · have : r = 0 := by omega
      subst this
      have : ux = 0 := by omega
      have : uy = 0 := by omega
      subst ux uy
      omega
  have k := Int.ediv_mul_le A (show r ≠ 0 by omega)
  have kd : -(d * r) ≤ A := by
    have : A / r = -d := by omega
    rw [this, Int.neg_mul] at k
    exact k
  have dr : 0 ≤ d * r := Int.mul_nonneg (by omega) RN
  have q0 : 0 < ux * ux + uy * uy := by
    have := Int.mul_pos rp rp
    omega
  have s1 : ux * vx + uy * vy ≤ ux * ux + uy * uy := by
    have e1 : g.ax - g.bx = -ux := by omega
    have e2 : x - g.bx = vx - ux := by omega
    have e3 : g.ay - g.by' = -uy := by omega
    have e4 : y - g.by' = vy - uy := by omega
    rw [e1, e2, e3, e4] at c3
    have e5 : -ux * (vx - ux) + -uy * (vy - uy) = ux * ux + uy * uy - (ux * vx + uy * vy) := by grind
    omega
  have fx := foot_in (u := ux) (v := vx) (t := uy * A) (d := d) q0 c2 s1 (by rw [← hA]; grind) (abs_mul RN (by omega) ⟨by omega, uy1⟩ ⟨kd, by omega⟩ RL)
  have fy := foot_in (u := uy) (v := vy) (t := -ux * A) (d := d) q0 c2 s1 (by rw [← hA]; grind) (abs_mul RN (by omega) ⟨by omega, by omega⟩ ⟨kd, by omega⟩ RL)
  unfold ovP boxG
  dsimp only
  omega
/-- a move meets a piece: their boxes do -/
theorem meet_box {g : Fv} {px py qx qy : Int} (h : meetsP ⟨g.ax, g.ay⟩ ⟨g.bx, g.by'⟩ ⟨px, py⟩ ⟨qx, qy⟩ = true) : ovP ⟨min px qx, min py qy, max px qx, max py qy⟩ (boxG g) := by
  have n : Pt.near ⟨g.ax, g.ay⟩ ∧ Pt.near ⟨g.bx, g.by'⟩ ∧ Pt.near ⟨px, py⟩ ∧ Pt.near ⟨qx, qy⟩ := by
    unfold meetsP at h
    simp only [Bool.and_eq_true] at h
    exact of_decide_eq_true h.1
  rw [meets_ovl n] at h
  have o := (of_decide_eq_true h).1
  unfold ovl at o
  simp only [decide_eq_true_eq] at o
  unfold ovP boxG
  dsimp only
  omega
/-- one piece more in a search for the least -/
noncomputable def bhS (g : Nat → Fv) (x y deep : Int) (s : Int × Int) (i : Int) : Int × Int :=
  if (0 < beyondN ⟨(g i.toNat).ax, (g i.toNat).ay⟩ ⟨(g i.toNat).bx, (g i.toNat).by'⟩ ⟨x, y⟩ ∧ beyondN ⟨(g i.toNat).ax, (g i.toNat).ay⟩ ⟨(g i.toNat).bx, (g i.toNat).by'⟩ ⟨x, y⟩ ≤ deep) ∧ (s.1 < 0 ∨ beyondN ⟨(g i.toNat).ax, (g i.toNat).ay⟩ ⟨(g i.toNat).bx, (g i.toNat).by'⟩ ⟨x, y⟩ < s.2) then (i, beyondN ⟨(g i.toNat).ax, (g i.toNat).ay⟩ ⟨(g i.toNat).bx, (g i.toNat).by'⟩ ⟨x, y⟩) else s
theorem behI_fold (g : Nat → Fv) (x y deep : Int) (P : Nat → Bool) : ∀ n, (∀ i, i < n → 0 < beyondN ⟨(g i).ax, (g i).ay⟩ ⟨(g i).bx, (g i).by'⟩ ⟨x, y⟩ → beyondN ⟨(g i).ax, (g i).ay⟩ ⟨(g i).bx, (g i).by'⟩ ⟨x, y⟩ ≤ deep → P i = true) → (selI P n).foldl (bhS g x y deep) (-1, 0) = behI g x y deep n
  | 0, _ => rfl
  | n + 1, h => by
    have ih := behI_fold g x y deep P n fun i hi => h i (by omega)
    have e : behI g x y deep (n + 1) = bhS g x y deep (behI g x y deep n) n := by
      unfold bhS
      rw [Int.toNat_natCast]
      rfl
    show (selI P n ++ (if P n = true then [(n : Int)] else [])).foldl _ _ = _
    rw [List.foldl_append, ih, e]
    by_cases p : P n = true
    · rw [if_pos p]; rfl
    · rw [if_neg p]
      unfold bhS
      rw [Int.toNat_natCast, if_neg (fun k => p (h n (by omega) k.1.1 k.1.2))]
      rfl
theorem fold_succ {l : List Int} (f : Int × Int → Int → Int × Int) (s : Int × Int) {j : Nat} (h : j < l.length) : (l.take (j + 1)).foldl f s = f ((l.take j).foldl f s) (l.getD j 0) := by
  rw [List.take_add_one, List.foldl_append, List.getD_eq_getElem?_getD, List.getElem?_eq_getElem h]
  rfl
end Go.Proofs.Ytllkhgcokbpggaa
namespace Go.Proofs.Ytllkhgcokbpggaa
open Go.RowKit
open Go.MapKept (Stamped)
set_option linter.unusedVariables false
set_option linter.unusedSimpArgs false

/-- a cell as a key -/
def kV (c : Int × Int × Int) : Value := .agg #[.int .i64 c.1, .int .i64 c.2.1, .int .i64 c.2.2]
def kW (c : Int × Int × Int) : Prop := (Lit.int .i64 c.1).wf = true ∧ (Lit.int .i64 c.2.1).wf = true ∧ (Lit.int .i64 c.2.2).wf = true
theorem kV_inj {c d : Int × Int × Int} (h : kV c = kV d) : c = d := by
  obtain ⟨a, b, c⟩ := c
  obtain ⟨x, y, z⟩ := d
  unfold kV at h
  simp at h
  obtain ⟨rfl, rfl, rfl⟩ := h
  rfl
theorem fcLaw : WideMaps.KeyLaw Try.prog 60 := deep_law_laid (by kernel_rfl) (m := 2) (by omega) (of_decide_eq_true (by kernel_rfl)) (by kernel_rfl) (by rw [Try.underlying60])
theorem fcSize : ∃ m, Try.prog.types.size = m + 1 := ⟨Try.prog.types.size - 1, by
  have : (decide (0 < Try.prog.types.size)) = true := by kernel_rfl
  have := of_decide_eq_true this
  omega⟩
theorem fcKt : Try.prog.keyType 60 = true := by kernel_rfl
theorem fcCells : Try.prog.cellsOf 60 = 3 := by kernel_rfl
theorem fcOne : Try.prog.cellsOf 3 = 1 := by kernel_rfl
theorem fcOne2 : Try.prog.cellsOf 2 = 1 := by kernel_rfl
theorem fcKey {c : Int × Int × Int} (h : kW c) : ∃ kl, keyOf Try.prog 60 (kV c) = some kl := by
  obtain ⟨h1, h2, h3⟩ := h
  obtain ⟨m, hm⟩ := fcSize
  unfold keyOf kV
  simp only [Try.underlying60]
  rw [if_pos (by simp [fcKt, Value.formed, Try.underlying60, fcCells]), hm]
  unfold Program.keyLits
  simp only [Try.underlying60, Value.cells]
  rw [if_pos ⟨by rw [fcCells]; rfl, by simp⟩]
  simp [fcOne, fcOne2, Program.keyLits, Try.underlying3, Try.underlying2, h1, h2, h3]
theorem fcZero (w : World) : (zeroValue 26).run Try.prog w = .ok (.slice none 0 0) w := by kernel_rfl
theorem ob_some {base : Nat} {W : World} {u : Value} {xs : List Value} (h : OB base W u xs) (hn : xs ≠ []) : ∃ g, u.ownBlock = some g := by
  rcases h with ⟨_, e⟩ | ⟨g, cap, rfl, _⟩
  · exact absurd e hn
  · exact ⟨g, rfl⟩
theorem ob_lt {base : Nat} {W : World} {u : Value} {xs : List Value} (h : OB base W u xs) {g : Nat} (e : u.ownBlock = some g) : base ≤ g ∧ g < W.heap.size := by
  rcases h with ⟨rfl, _⟩ | ⟨g', cap, rfl, h1, h2, _⟩
  · cases e
  · cases e; exact ⟨h1, h2⟩
theorem ob_off {base : Nat} {W : World} {u : Value} {xs : List Value} (h : OB base W u xs) {b : Nat} (hb : b < base) : u.ownBlock ≠ some b := fun e => by
  have := (ob_lt h e).1
  omega
theorem inVs_nil {L : List Int} (h : L ≠ []) : inVs L ≠ [] := fun e => h (List.map_eq_nil_iff.1 e)
/-- a map by cells: its block mb, its entries L -/
structure CeB (base : Nat) (W : World) (mb : Nat) (M : (Int × Int × Int) → List Int) (L : List MapEntry) (ck : Nat) : Prop where
  hb : W.heap[mb]? = some (.map L.toArray ck)
  st : Stamped L.toArray ck
  e : ∀ x ∈ L, ∃ c, x.key = kV c ∧ kW c ∧ M c ≠ [] ∧ OB base W x.val (inVs (M c))
  f : ∀ c, kW c → M c ≠ [] → ∃ x ∈ L, x.key = kV c
  ap : L.Pairwise fun x y => x.val.ownBlock ≠ y.val.ownBlock
theorem CeB.keys {base : Nat} {W : World} {mb : Nat} {M : (Int × Int × Int) → List Int} {L : List MapEntry} {ck : Nat} (C : CeB base W mb M L ck) : ∀ x ∈ L, ∃ l, keyOf Try.prog 60 x.key = some l := fun x hx => by
  obtain ⟨c, h, k, _⟩ := C.e x hx
  rw [h]
  exact fcKey k
theorem CeB.lt {base : Nat} {W : World} {mb : Nat} {M : (Int × Int × Int) → List Int} {L : List MapEntry} {ck : Nat} (C : CeB base W mb M L ck) : mb < W.heap.size := (Array.getElem?_eq_some_iff.1 C.hb).1
/-- it stays as long as its blocks do -/
theorem CeB.grown {base : Nat} {W W' : World} {mb : Nat} {M : (Int × Int × Int) → List Int} {L : List MapEntry} {ck : Nat} (C : CeB base W mb M L ck) {row : Option Nat} (h : W.grownBy W' row) (h1 : some mb ≠ row) (h2 : ∀ x ∈ L, x.val.ownBlock = row → row = none) : CeB base W' mb M L ck :=
  ⟨(h.block mb C.lt h1).trans C.hb, C.st, fun x hx => by
    obtain ⟨c, a, b, d, o⟩ := C.e x hx
    exact ⟨c, a, b, d, o.grown h (h2 x hx)⟩, C.f, C.ap⟩
theorem CeB.below {base : Nat} {W W' : World} {mb : Nat} {M : (Int × Int × Int) → List Int} {L : List MapEntry} {ck : Nat} (C : CeB base W mb M L ck) (k : Below W.heap.size W W') : CeB base W' mb M L ck :=
  C.grown (row := none) ⟨k.os, k.tape, k.output, k.size, fun i hi _ => k.block i hi⟩ (by simp) (fun _ _ _ => rfl)
theorem CeB.made {base : Nat} (W : World) : CeB base (W.alloc (.map #[] 0)) W.heap.size (fun _ => []) [] 0 :=
  ⟨(MapKept.heap_alloc W _).1, MapKept.stamped_empty 0, fun x hx => absurd hx (by simp), fun c _ h => absurd rfl h, List.Pairwise.nil⟩
theorem CeB.look {base : Nat} {W : World} {mb : Nat} {M : (Int × Int × Int) → List Int} {L : List MapEntry} {ck : Nat} (C : CeB base W mb M L ck) {c : Int × Int × Int} (hc : kW c) :
    ∃ v, (Instr.lookup 55 (.map (some mb)) (kV c) false).run Try.prog W = .ok v W ∧ OB base W v (inVs (M c)) := by
  obtain ⟨kl, hk⟩ := fcKey hc
  have K := fcLaw
  rcases K.find W hk L C.keys with ⟨h1, h2⟩ | ⟨j, e0, h1, h2, h3⟩
  · refine ⟨.slice none 0 0, by simp [Instr.lookup, run_underlying Try.underlying55, MapKept.run_getObj_map C.hb, K.check W _ hk, h1, fcZero, Result.andThen], ?_⟩
    have e : M c = [] := by
      apply Classical.byContradiction; intro n
      obtain ⟨x, hx, e⟩ := C.f c hc n
      exact h2 x hx e
    rw [e]
    exact OB.nil _ _
  · refine ⟨e0.val, by simp [Instr.lookup, run_underlying Try.underlying55, MapKept.run_getObj_map C.hb, K.check W _ hk, h1, Result.andThen], ?_⟩
    obtain ⟨d, a, _, _, o⟩ := C.e e0 (List.mem_of_getElem? h2)
    rw [kV_inj (h3.symm.trans a)]
    exact o
/-- .. while the element of cell c, entry number j, stamp st, is to be written: its value is v -/
structure CeE (base : Nat) (W : World) (mb : Nat) (M : (Int × Int × Int) → List Int) (L : List MapEntry) (ck : Nat) (c : Int × Int × Int) (v : Value) (st j : Nat) : Prop where
  hb : W.heap[mb]? = some (.map L.toArray ck)
  sp : Stamped L.toArray ck
  o : OB base W v (inVs (M c))
  k : kW c
  at' : L[j]? = some ⟨kV c, v, st⟩
  e : ∀ i x, i ≠ j → L[i]? = some x → ∃ d, x.key = kV d ∧ kW d ∧ d ≠ c ∧ M d ≠ [] ∧ OB base W x.val (inVs (M d))
  f : ∀ d, kW d → M d ≠ [] → ∃ x ∈ L, x.key = kV d
  ap : ∀ i x, i ≠ j → L[i]? = some x → x.val.ownBlock ≠ v.ownBlock
  ap2 : ∀ i i' x x', i ≠ j → i' ≠ j → i ≠ i' → L[i]? = some x → L[i']? = some x' → x.val.ownBlock ≠ x'.val.ownBlock
theorem CeE.lt {base : Nat} {W : World} {mb : Nat} {M : (Int × Int × Int) → List Int} {L : List MapEntry} {ck : Nat} {c : Int × Int × Int} {v : Value} {st j : Nat} (C : CeE base W mb M L ck c v st j) : mb < W.heap.size := (Array.getElem?_eq_some_iff.1 C.hb).1
theorem CeE.below {base : Nat} {W W' : World} {mb : Nat} {M : (Int × Int × Int) → List Int} {L : List MapEntry} {ck : Nat} {c : Int × Int × Int} {v : Value} {st j : Nat} (C : CeE base W mb M L ck c v st j) (k : Below W.heap.size W W') : CeE base W' mb M L ck c v st j :=
  ⟨(k.block mb C.lt).trans C.hb, C.sp, C.o.below k, C.k, C.at', fun i x hi hx => by
    obtain ⟨d, a1, a2, a3, a4, o⟩ := C.e i x hi hx
    exact ⟨d, a1, a2, a3, a4, o.below k⟩, C.f, C.ap, C.ap2⟩
theorem grown_setBlock {W : World} {mb ck : Nat} {es : Array MapEntry} (hb : W.heap[mb]? = some (.map es ck)) (o : Obj) : W.grownBy (ChangeMaps.setBlock W mb o) (some mb) :=
  ⟨rfl, rfl, rfl, by simp [ChangeMaps.setBlock], fun i _ hi => ChangeMaps.heap_setBlock_other hb _ (fun e => hi (by rw [e]))⟩
theorem pw_at {α : Type} {R : α → α → Prop} (hs : ∀ a b, R a b → R b a) {L : List α} (h : L.Pairwise R) : ∀ (i j : Nat) (x y : α), i ≠ j → L[i]? = some x → L[j]? = some y → R x y := by
  intro i j x y hij hx hy
  have k := List.pairwise_iff_getElem.1 h
  obtain ⟨h1, rfl⟩ := List.getElem?_eq_some_iff.1 hx
  obtain ⟨h2, rfl⟩ := List.getElem?_eq_some_iff.1 hy
  rcases Nat.lt_or_gt_of_ne hij with l | l
  · exact k i j h1 h2 l
  · exact hs _ _ (k j i h2 h1 l)
theorem ce_entry {base : Nat} {W : World} {mb : Nat} {M : (Int × Int × Int) → List Int} {L : List MapEntry} {ck : Nat} (C : CeB base W mb M L ck) (hm : mb < base) {c : Int × Int × Int} (hc : kW c) :
    ∃ (v : Value) (st : Nat) (L1 : List MapEntry) (ck1 j : Nat) (w1 : World), (Instr.mapEntry 55 (.map (some mb)) (kV c)).run Try.prog W = .ok (.tuple #[v, .int .i64 st]) w1 ∧ CeE base w1 mb M L1 ck1 c v st j ∧ W.grownBy w1 (some mb) ∧ w1.heap.size = W.heap.size ∧ (∀ i x, i ≠ j → L1[i]? = some x → x ∈ L) ∧ (v.ownBlock = none ∨ ∃ x ∈ L, x.val = v) := by
  obtain ⟨kl, hk⟩ := fcKey hc
  have K := fcLaw
  have hz : ∀ w : World, (zeroValue 26).run Try.prog w = .ok (.slice none 0 0) w := fcZero
  have hk2 : ∀ (L' : List MapEntry) (ck' : Nat) (x : MapEntry), x ∈ L → ∃ d, x.key = kV d ∧ kW d ∧ M d ≠ [] ∧ OB base (ChangeMaps.setBlock W mb (.map L'.toArray ck')) x.val (inVs (M d)) := fun L' ck' x hx => by
    obtain ⟨d, a1, a2, a3, o⟩ := C.e x hx
    exact ⟨d, a1, a2, a3, o.grown (grown_setBlock C.hb _) (fun e => absurd e (ob_off o hm))⟩
  rcases K.find W hk L C.keys with ⟨h1, h2⟩ | ⟨j, e0, h1, h2, h3⟩
  · have old : ∀ i x, i ≠ L.length → (L ++ [(⟨kV c, .slice none 0 0, ck⟩ : MapEntry)])[i]? = some x → L[i]? = some x := fun i x hi hx => by
      rcases Nat.lt_or_ge i L.length with l | l
      · rwa [List.getElem?_append_left l] at hx
      · rw [List.getElem?_eq_none (by simp; omega)] at hx; cases hx
    refine ⟨.slice none 0 0, ck, L ++ [(⟨kV c, .slice none 0 0, ck⟩ : MapEntry)], ck + 1, L.length, ChangeMaps.setBlock W mb (.map (L ++ [(⟨kV c, .slice none 0 0, ck⟩ : MapEntry)]).toArray (ck + 1)), ?_, ?_, grown_setBlock C.hb _, by simp [ChangeMaps.setBlock], fun i x hi hx => List.mem_of_getElem? (old i x hi hx), Or.inl rfl⟩
    · simp [Instr.mapEntry, run_underlying Try.underlying55, MapKept.run_getObj_map C.hb, K.check W false hk, h1, hz, MapKept.run_setObj_map _ C.hb, Result.andThen, ChangeMaps.setBlock, goInt]
    · have e : M c = [] := by
        apply Classical.byContradiction; intro n
        obtain ⟨x, hx, e⟩ := C.f c hc n
        exact h2 x hx e
      refine ⟨ChangeMaps.heap_setBlock_same C.hb _, by
        have := MapKept.stamped_push C.st (key := kV c) (val := .slice none 0 0) (fun x hx => h2 x (by simpa using hx))
        simpa using this, by rw [e]; exact OB.nil _ _, hc, by simp, fun i x hi hx => ?_, fun d hd n => ?_, fun i x hi hx => ?_, fun i i' x x' hi hi' hij hx hx' => ?_⟩
      · have hx := old i x hi hx
        obtain ⟨d, a1, a2, a3, o⟩ := hk2 _ _ x (List.mem_of_getElem? hx)
        exact ⟨d, a1, a2, fun e2 => h2 x (List.mem_of_getElem? hx) (by rw [a1, e2]), a3, o⟩
      · obtain ⟨x, hx, e2⟩ := C.f d hd n
        exact ⟨x, List.mem_append_left _ hx, e2⟩
      · obtain ⟨d, a1, a2, a3, o⟩ := C.e x (List.mem_of_getElem? (old i x hi hx))
        obtain ⟨g, hg⟩ := ob_some o (inVs_nil a3)
        rw [hg]
        intro e2; cases e2
      · exact pw_at (fun _ _ h => h.symm) C.ap i i' x x' hij (old i x hi hx) (old i' x' hi' hx')
  · have hsame : L.modify j (fun e => { e with key := kV c }) = L := by
      rw [ChangeMaps.modify_eq_set _ _ _ _ h2]
      have : ({ e0 with key := kV c } : MapEntry) = e0 := by rw [← h3]
      rw [this]
      exact WideElems.set_self _ _ _ h2
    obtain ⟨d, a1, a2, a3, o⟩ := hk2 L ck e0 (List.mem_of_getElem? h2)
    have ed : d = c := kV_inj (a1.symm.trans h3)
    subst ed
    refine ⟨e0.val, e0.born, L, ck, j, ChangeMaps.setBlock W mb (.map L.toArray ck), ?_, ?_, grown_setBlock C.hb _, by simp [ChangeMaps.setBlock], fun i x _ hx => List.mem_of_getElem? hx, Or.inr ⟨e0, List.mem_of_getElem? h2, rfl⟩⟩
    · simp [Instr.mapEntry, run_underlying Try.underlying55, MapKept.run_getObj_map C.hb, K.check W false hk, h1, h2, h3, K.stays W hk, hsame, MapKept.run_setObj_map _ C.hb, Result.andThen, ChangeMaps.setBlock, goInt]
    · have nk := ((MapKept.stamped_iff _ _).1 C.st).2.2
      refine ⟨ChangeMaps.heap_setBlock_same C.hb _, C.st, o, hc, by rw [h2, ← h3], fun i x hi hx => ?_, C.f, fun i x hi hx => ?_, fun i i' x x' _ _ hij hx hx' => pw_at (fun _ _ h => h.symm) C.ap i i' x x' hij hx hx'⟩
      · obtain ⟨d', b1, b2, b3, o'⟩ := hk2 L ck x (List.mem_of_getElem? hx)
        refine ⟨d', b1, b2, fun e2 => ?_, b3, o'⟩
        exact pw_at (fun _ _ h => h.symm) nk i j x e0 hi hx h2 (by rw [b1, e2, h3])
      · exact pw_at (fun _ _ h => h.symm) C.ap i j x e0 hi hx h2
theorem ce_store {base : Nat} {W W2 : World} {mb : Nat} {M : (Int × Int × Int) → List Int} {L : List MapEntry} {ck : Nat} {c : Int × Int × Int} {v v' : Value} {st j : Nat} {X : List Int} (E : CeE base W mb M L ck c v st j) (hm : mb < base) (g : W.grownBy W2 v.ownBlock)
    (o : OB base W2 v' (inVs X)) (hX : X ≠ []) (hl : v'.ownBlock = v.ownBlock ∨ v'.ownBlock = some W.heap.size) :
    ∃ w3 L', (Instr.entryStore 55 (.map (some mb)) (.int .i64 st) v').run Try.prog W2 = .ok () w3 ∧ CeB base w3 mb (fun d => if d = c then X else M d) L' ck ∧ (∀ x ∈ L', (∃ i, i ≠ j ∧ L[i]? = some x) ∨ x.val = v') ∧ W2.grownBy w3 (some mb) ∧ w3.heap.size = W2.heap.size := by
  have hb2 : W2.heap[mb]? = some (.map L.toArray ck) := (g.block mb E.lt (fun e => ob_off E.o hm e.symm)).trans E.hb
  have s2 := ((MapKept.stamped_iff _ _).1 E.sp).2.1
  have hidx : L.toArray.findIdx? (fun e => ((e.born : Nat) : Int) == ((st : Nat) : Int)) = some j := by
    rw [WideElems.findIdx_arr]
    exact WideElems.findIdx_born s2 (by simpa using E.at')
  have hset : (L.toArray.modify j (fun e => { e with val := v' })) = (L.set j ⟨kV c, v', st⟩).toArray := by
    apply Array.ext'
    rw [Array.toList_modify, ChangeMaps.modify_eq_set _ _ _ _ (by simpa using E.at')]
  have hjl : j < L.length := (List.getElem?_eq_some_iff.1 E.at').1
  have old : ∀ i x, i ≠ j → (L.set j ⟨kV c, v', st⟩)[i]? = some x → L[i]? = some x := fun i x hi hx => by rwa [List.getElem?_set_ne (Ne.symm hi)] at hx
  have new : (L.set j ⟨kV c, v', st⟩)[j]? = some ⟨kV c, v', st⟩ := List.getElem?_set_self hjl
  have who : ∀ x ∈ L.set j ⟨kV c, v', st⟩, x = ⟨kV c, v', st⟩ ∨ ∃ i, i ≠ j ∧ L[i]? = some x := fun x hx => by
    obtain ⟨i, hi⟩ := List.mem_iff_getElem?.1 hx
    by_cases e : i = j
    · subst e; rw [new] at hi; exact Or.inl (Option.some.inj hi).symm
    · exact Or.inr ⟨i, e, old i x e hi⟩
  have off : ∀ i x, i ≠ j → L[i]? = some x → x.val.ownBlock ≠ v'.ownBlock := fun i x hi hx => by
    obtain ⟨d, _, _, _, _, o'⟩ := E.e i x hi hx
    rcases hl with h | h
    · rw [h]; exact E.ap i x hi hx
    · rw [h]
      intro e
      have := (ob_lt o' e).2
      omega
  refine ⟨ChangeMaps.setBlock W2 mb (.map (L.set j ⟨kV c, v', st⟩).toArray ck), L.set j ⟨kV c, v', st⟩, ?_, ⟨ChangeMaps.heap_setBlock_same hb2 _, ?_, ?_, ?_, ?_⟩, fun x hx => ?_, grown_setBlock hb2 _, by simp [ChangeMaps.setBlock]⟩
  · simp [Instr.entryStore, MapKept.run_getObj_map hb2, asInt, asIntOf, hidx, hset, MapKept.run_setObj_map _ hb2, Result.andThen, ChangeMaps.setBlock]
  · rw [← hset]
    exact MapKept.stamped_modify E.sp _ _ (fun _ _ => rfl) (fun _ _ _ => rfl)
  · intro x hx
    rcases who x hx with rfl | ⟨i, hi, hxi⟩
    · exact ⟨c, rfl, E.k, by rw [if_pos rfl]; exact hX, by rw [if_pos rfl]; exact o.grown (grown_setBlock hb2 _) (fun e => absurd e (ob_off o hm))⟩
    · obtain ⟨d, a1, a2, a3, a4, o'⟩ := E.e i x hi hxi
      exact ⟨d, a1, a2, by rw [if_neg a3]; exact a4, by
        rw [if_neg a3]
        have o2 := o'.grown g (fun e => absurd e (E.ap i x hi hxi))
        exact o2.grown (grown_setBlock hb2 _) (fun e => absurd e (ob_off o2 hm))⟩
  · intro d hd n
    by_cases e : d = c
    · subst e; exact ⟨_, List.mem_of_getElem? new, rfl⟩
    · rw [if_neg e] at n
      obtain ⟨x, hx, e2⟩ := E.f d hd n
      obtain ⟨i, hi⟩ := List.mem_iff_getElem?.1 hx
      by_cases ei : i = j
      · subst ei
        rw [E.at'] at hi
        cases hi
        exact absurd (kV_inj e2).symm e
      · exact ⟨x, List.mem_of_getElem? (by rw [List.getElem?_set_ne (Ne.symm ei)]; exact hi), e2⟩
  · refine List.pairwise_iff_getElem.2 fun i i' hi hi' hii => ?_
    have hx := List.getElem?_eq_getElem hi
    have hx' := List.getElem?_eq_getElem hi'
    by_cases ei : i = j
    · subst ei
      rw [new] at hx
      rw [← Option.some.inj hx]
      exact (off i' _ (by omega) (old i' _ (by omega) hx')).symm
    · by_cases ei' : i' = j
      · subst ei'
        rw [new] at hx'
        rw [← Option.some.inj hx']
        exact off i _ ei (old i _ ei hx)
      · exact E.ap2 i i' _ _ ei ei' (by omega) (old i _ ei hx) (old i' _ ei' hx')
  · rcases who x hx with rfl | h
    · exact Or.inr rfl
    · exact Or.inl h
end Go.Proofs.Ytllkhgcokbpggaa
namespace Go.Proofs.Ytllkhgcokbpggaa
open Go.RowKit
set_option linter.unusedVariables false
set_option linter.unusedSimpArgs false

theorem fBounded_any (x : Int) (w : World) (hx : In64 x) : Calls Try.prog 43 #[.int .i64 x] w fun e w' => e = .returned (.int .i64 (clB x)) ∧ w' = w := by
  obtain ⟨r, hr⟩ : ∃ r, clB x = r := ⟨_, rfl⟩
  have R := Lib.hid hr
  rw [hr]
  go_enter Try.func43, Try.ntmps43
  go_wp2
  go_ret
  exact ⟨by rw [← R.out]; unfold clB; rfl, rfl⟩
theorem fInside_any (x : Int) (w : World) : Calls Try.prog 46 #[.int .i64 x] w fun e w' => e = .returned (.bool (decide (Rg x))) ∧ w' = w := by
  by_cases a : -281474976710656 ≤ x
  · by_cases b : x ≤ 281474976710656
    · rw [decide_eq_true (show Rg x from ⟨a, b⟩)]
      go_enter Try.func46, Try.ntmps46
      go_wp2
      go_ret
      exact ⟨rfl, rfl⟩
    · rw [decide_eq_false (show ¬ Rg x from fun h => b h.2)]
      go_enter Try.func46, Try.ntmps46
      go_wp2
      go_ret
      exact ⟨rfl, rfl⟩
  · rw [decide_eq_false (show ¬ Rg x from fun h => a h.1)]
    go_enter Try.func46, Try.ntmps46
    go_wp2
    go_ret
    exact ⟨rfl, rfl⟩
theorem fReaches_any (x : Int) (w : World) : Calls Try.prog 27 #[.int .i64 x] w fun e w' => e = .returned (.bool (decide (0 ≤ x ∧ x ≤ 274877906944))) ∧ w' = w := by
  by_cases a : 0 ≤ x
  · by_cases b : x ≤ 274877906944
    · rw [decide_eq_true (show 0 ≤ x ∧ x ≤ 274877906944 from ⟨a, b⟩)]
      go_enter Try.func27, Try.ntmps27
      go_wp2
      go_ret
      exact ⟨rfl, rfl⟩
    · rw [decide_eq_false (show ¬ (0 ≤ x ∧ x ≤ 274877906944) from fun h => b h.2)]
      go_enter Try.func27, Try.ntmps27
      go_wp2
      go_ret
      exact ⟨rfl, rfl⟩
  · rw [decide_eq_false (show ¬ (0 ≤ x ∧ x ≤ 274877906944) from fun h => a h.1)]
    go_enter Try.func27, Try.ntmps27
    go_wp2
    go_ret
    exact ⟨rfl, rfl⟩
theorem fWithin_any (x y : Int) (w : World) : Calls Try.prog 26 #[.agg #[.int .i64 x, .int .i64 y]] w fun e w' => e = .returned (.bool (decide (Pt.near ⟨x, y⟩))) ∧ w' = w.alloc (.cells #[.int .i64 x, .int .i64 y] 24) := by
  have V1 := Lib.hid (fun W => fInside_any x W)
  have V2 := Lib.hid (fun W => fInside_any y W)
  by_cases a : Rg x
  · rw [decide_eq_true a] at V1
    by_cases b : Rg y
    · rw [decide_eq_true b] at V2
      rw [decide_eq_true (show Pt.near ⟨x, y⟩ from ⟨a, b⟩)]
      clear a b
      go_enter Try.func26, Try.ntmps26
      go_wp2_with fail
      refine (V1.out _).mono ?_
      rintro e w1 ⟨rfl, rfl⟩
      go_wp2_with fail
      refine (V2.out _).mono ?_
      rintro e w1 ⟨rfl, rfl⟩
      go_wp2
      go_ret
      exact ⟨rfl, rfl⟩
    · rw [decide_eq_false b] at V2
      rw [decide_eq_false (show ¬ Pt.near ⟨x, y⟩ from fun h => b h.2)]
      clear a b
      go_enter Try.func26, Try.ntmps26
      go_wp2_with fail
      refine (V1.out _).mono ?_
      rintro e w1 ⟨rfl, rfl⟩
      go_wp2_with fail
      refine (V2.out _).mono ?_
      rintro e w1 ⟨rfl, rfl⟩
      go_wp2
      go_ret
      exact ⟨rfl, rfl⟩
  · rw [decide_eq_false a] at V1
    rw [decide_eq_false (show ¬ Pt.near ⟨x, y⟩ from fun h => a h.1)]
    clear a V2
    go_enter Try.func26, Try.ntmps26
    go_wp2_with fail
    refine (V1.out _).mono ?_
    rintro e w1 ⟨rfl, rfl⟩
    go_wp2
    go_ret
    exact ⟨rfl, rfl⟩
theorem fBetween_any (ax ay bx by' : Int) (w : World) : Calls Try.prog 33 #[.agg #[.int .i64 ax, .int .i64 ay], .agg #[.int .i64 bx, .int .i64 by']] w fun e w' => e = .returned (.agg #[.int .i64 (min ax bx), .int .i64 (min ay by'), .int .i64 (max ax bx), .int .i64 (max ay by')]) ∧ Below w.heap.size w w' := by
  go_enter Try.func33, Try.ntmps33
  go_wp2
  exact bodyPost_ret (v := .agg #[.int .i64 (min ax bx), .int .i64 (min ay by'), .int .i64 (max ax bx), .int .i64 (max ay by')]) (by simp [results, Try.results33, go_sem]) rfl ⟨rfl, by repeat (first | exact Below.refl _ _ | assumption | refine Below.setCell ?_ (by first | omega | (simp; done) | (simp; omega)) _ | refine Below.alloc ?_ (by first | omega | (simp; done) | (simp; omega)) _ | refine below_drewN ?_ _ | refine Below.drew ?_ | refine Below.trans ?_ (Below.mono (by assumption) (by first | omega | (simp; done) | (simp; omega))))⟩
theorem fAbout_any (x y d : Int) (w : World) (h : (Rg x ∧ Rg y) ∧ 0 ≤ d ∧ d ≤ 274877906944) : Calls Try.prog 29 #[.agg #[.int .i64 x, .int .i64 y], .int .i64 d] w fun e w' => e = .returned (.agg #[.int .i64 (x - d), .int .i64 (y - d), .int .i64 (x + d), .int .i64 (y + d)]) ∧ Below w.heap.size w w' := by
  unfold Rg at h
  have w1 := (wrap_in' (n := x - d) (by unfold In64; omega)).1
  have w2 := (wrap_in' (n := y - d) (by unfold In64; omega)).1
  have w3 := (wrap_in' (n := x + d) (by unfold In64; omega)).1
  have w4 := (wrap_in' (n := y + d) (by unfold In64; omega)).1
  have v1 := (wrap_in' (n := x - d) (by unfold In64; omega)).2
  have v2 := (wrap_in' (n := y - d) (by unfold In64; omega)).2
  have v3 := (wrap_in' (n := x + d) (by unfold In64; omega)).2
  have v4 := (wrap_in' (n := y + d) (by unfold In64; omega)).2
  go_enter Try.func29, Try.ntmps29
  go_wp2
  exact bodyPost_ret (v := .agg #[.int .i64 (x - d), .int .i64 (y - d), .int .i64 (x + d), .int .i64 (y + d)]) (by simp [results, Try.results29, go_sem]) rfl ⟨rfl, by repeat (first | exact Below.refl _ _ | assumption | refine Below.setCell ?_ (by first | omega | (simp; done) | (simp; omega)) _ | refine Below.alloc ?_ (by first | omega | (simp; done) | (simp; omega)) _ | refine below_drewN ?_ _ | refine Below.drew ?_ | refine Below.trans ?_ (Below.mono (by assumption) (by first | omega | (simp; done) | (simp; omega))))⟩
theorem fOverlap_any (a b : Bx) (w : World) : Calls Try.prog 48 #[.agg #[.int .i64 a.lx, .int .i64 a.ly, .int .i64 a.hx, .int .i64 a.hy], .agg #[.int .i64 b.lx, .int .i64 b.ly, .int .i64 b.hx, .int .i64 b.hy]] w fun e w' => e = .returned (.bool (decide (ovP a b))) ∧ Below w.heap.size w w' := by
  obtain ⟨ax, ay, az, aw⟩ := a
  obtain ⟨bx, by', bz, bw⟩ := b
  have D : ovP ⟨ax, ay, az, aw⟩ ⟨bx, by', bz, bw⟩ ↔ ((ax ≤ bz ∧ bx ≤ az) ∧ ay ≤ bw) ∧ by' ≤ aw := Iff.rfl
  dsimp only
  by_cases h1 : ax ≤ bz
  rotate_left
  · rw [decide_eq_false (fun h => h1 (D.1 h).1.1.1)]
    clear D
    go_enter Try.func48, Try.ntmps48
    go_wp2
    go_ret
    exact ⟨rfl, by repeat (first | exact Below.refl _ _ | assumption | refine Below.setCell ?_ (by first | omega | (simp; done) | (simp; omega)) _ | refine Below.alloc ?_ (by first | omega | (simp; done) | (simp; omega)) _ | refine below_drewN ?_ _ | refine Below.drew ?_ | refine Below.trans ?_ (Below.mono (by assumption) (by first | omega | (simp; done) | (simp; omega))))⟩
  by_cases h2 : bx ≤ az
  rotate_left
  · rw [decide_eq_false (fun h => h2 (D.1 h).1.1.2)]
    clear D
    go_enter Try.func48, Try.ntmps48
    go_wp2
    go_ret
    exact ⟨rfl, by repeat (first | exact Below.refl _ _ | assumption | refine Below.setCell ?_ (by first | omega | (simp; done) | (simp; omega)) _ | refine Below.alloc ?_ (by first | omega | (simp; done) | (simp; omega)) _ | refine below_drewN ?_ _ | refine Below.drew ?_ | refine Below.trans ?_ (Below.mono (by assumption) (by first | omega | (simp; done) | (simp; omega))))⟩
  by_cases h3 : ay ≤ bw
  rotate_left
  · rw [decide_eq_false (fun h => h3 (D.1 h).1.2)]
    clear D
    go_enter Try.func48, Try.ntmps48
    go_wp2
    go_ret
    exact ⟨rfl, by repeat (first | exact Below.refl _ _ | assumption | refine Below.setCell ?_ (by first | omega | (simp; done) | (simp; omega)) _ | refine Below.alloc ?_ (by first | omega | (simp; done) | (simp; omega)) _ | refine below_drewN ?_ _ | refine Below.drew ?_ | refine Below.trans ?_ (Below.mono (by assumption) (by first | omega | (simp; done) | (simp; omega))))⟩
  by_cases h4 : by' ≤ aw
  · rw [decide_eq_true (D.2 ⟨⟨⟨h1, h2⟩, h3⟩, h4⟩)]
    clear D
    go_enter Try.func48, Try.ntmps48
    go_wp2
    go_ret
    exact ⟨rfl, by repeat (first | exact Below.refl _ _ | assumption | refine Below.setCell ?_ (by first | omega | (simp; done) | (simp; omega)) _ | refine Below.alloc ?_ (by first | omega | (simp; done) | (simp; omega)) _ | refine below_drewN ?_ _ | refine Below.drew ?_ | refine Below.trans ?_ (Below.mono (by assumption) (by first | omega | (simp; done) | (simp; omega))))⟩
  · rw [decide_eq_false (fun h => h4 (D.1 h).2)]
    clear D
    go_enter Try.func48, Try.ntmps48
    go_wp2
    go_ret
    exact ⟨rfl, by repeat (first | exact Below.refl _ _ | assumption | refine Below.setCell ?_ (by first | omega | (simp; done) | (simp; omega)) _ | refine Below.alloc ?_ (by first | omega | (simp; done) | (simp; omega)) _ | refine below_drewN ?_ _ | refine Below.drew ?_ | refine Below.trans ?_ (Below.mono (by assumption) (by first | omega | (simp; done) | (simp; omega))))⟩
set_option maxRecDepth 100000 in
theorem fAt_any (l : Nat) (x y : Int) (hl : l ≤ 60) (hx : In64 x ∧ In64 y) (w : World) : Calls Try.prog 44 #[.int .i64 l, .agg #[.int .i64 x, .int .i64 y]] w fun e w' => e = .returned (kV (atK l x y)) ∧ Below w.heap.size w w' := by
  have l0 : ¬ (l : Int) < 0 := by omega
  have l1 : (0 : Int) ≤ (l : Int) := by omega
  have B := Lib.hid (BW.new w _ [.int .i64 x, .int .i64 y] 24 rfl)
  have B2 := Lib.hid ((B.out.alloc (.cells #[.int .i64 0, .int .i64 0, .int .i64 0] 60)).drew)
  go_enter Try.func44, Try.ntmps44
  go_wp2_with fail
  refine wp_region_held_drew (S := fun W => W.cell? ⟨w.heap.size, 0, none⟩ = some (.int .i64 x) ∧ W.cell? ⟨w.heap.size, 1, none⟩ = some (.int .i64 y)) (by kernel_rfl) ⟨B2.out.c 0 _ rfl, B2.out.c 1 _ rfl⟩ (fun hHeld => ?_)
  refine tkD 0 5 (v := ?_) ?_ hHeld ?_
  rotate_left 1
  (intro W hSw; (try dsimp only at hSw); go_simp; try with_reducible rfl)
  (try simp only [putA, putB, putC, putD])
  refine tkD 1 6 (v := ?_) ?_ hHeld ?_
  rotate_left 1
  (intro W hSw; (try dsimp only at hSw); go_simp; try with_reducible rfl)
  (try simp only [putA, putB, putC, putD])
  refine tkD 2 7 (v := ?_) ?_ hHeld ?_
  rotate_left 1
  (intro W hSw; (try dsimp only at hSw); go_simp; try with_reducible rfl)
  (try simp only [putA, putB, putC, putD])
  refine tkD 3 8 (v := ?_) ?_ hHeld ?_
  rotate_left 1
  (intro W hSw; (try dsimp only at hSw); go_simp; try with_reducible rfl)
  (try simp only [putA, putB, putC, putD])
  refine tkD 4 9 (v := ?_) ?_ hHeld ?_
  rotate_left 1
  (intro W hSw; (try dsimp only at hSw); go_simp; try with_reducible rfl)
  (try simp only [putA, putB, putC, putD])
  refine tkD 5 10 (v := ?_) ?_ hHeld ?_
  rotate_left 1
  (intro W hSw; (try dsimp only at hSw); go_simp; try with_reducible rfl)
  (try simp only [putA, putB, putC, putD])
  refine tkD 6 11 (v := ?_) ?_ hHeld ?_
  rotate_left 1
  (intro W hSw; (try dsimp only at hSw); go_simp; try with_reducible rfl)
  (try simp only [putA, putB, putC, putD])
  refine tkD 7 12 (v := ?_) ?_ hHeld ?_
  rotate_left 1
  (intro W hSw; (try dsimp only at hSw); go_simp; try with_reducible rfl)
  (try simp only [putA, putB, putC, putD])
  refine tkD 8 13 (v := ?_) ?_ hHeld ?_
  rotate_left 1
  (intro W hSw; (try dsimp only at hSw); go_simp; try with_reducible rfl)
  (try simp only [putA, putB, putC, putD])
  refine tkD 9 14 (v := ?_) ?_ hHeld ?_
  rotate_left 1
  (intro W hSw; (try dsimp only at hSw); go_simp; try with_reducible rfl)
  (try simp only [putA, putB, putC, putD])
  refine wpAnyH_onlyD 10 (by kernel_rfl) (fun o ho K hK => ?_) (by kernel_rfl)
  simp only [List.getElem?_toArray, List.getElem?_cons_succ, List.getElem?_cons_zero, Option.some.injEq] at ho
  subst ho
  go_simp
  refine hK.out _ _ (⟨((B.out.alloc _).drew).c 0 _ rfl, ((B.out.alloc _).drew).c 1 _ rfl⟩) ?_
  clear hK K hHeld
  intro hHeld
  refine wpAnyH_done (by kernel_rfl) ?_ _
  clear hHeld
  go_wp2
  exact bodyPost_ret (v := .agg #[.int .i64 l, .int .i64 (x / 2 ^ l), .int .i64 (y / 2 ^ l)]) (by simp [results, Try.results44, go_sem]) rfl ⟨rfl, by repeat (first | exact Below.refl _ _ | assumption | refine Below.setCell ?_ (by first | omega | (simp; done) | (simp; omega)) _ | refine Below.alloc ?_ (by first | omega | (simp; done) | (simp; omega)) _ | refine below_drewN ?_ _ | refine Below.drew ?_ | refine Below.trans ?_ (Below.mono (by assumption) (by first | omega | (simp; done) | (simp; omega))))⟩
end Go.Proofs.Ytllkhgcokbpggaa

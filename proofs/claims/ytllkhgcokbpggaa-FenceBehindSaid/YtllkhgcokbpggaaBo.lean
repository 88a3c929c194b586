/- A whole track in memory: its line, its rails, its gates; what is wrong with it, as numbers. -/
import Derived.Test.YtllkhgcokbpggaaBe
import Derived.Test.YtllkhgcokbpggaaBs
import Derived.Laws.StructEq
import Derived.BigQuiet
import Derived.Deep.QuietTactic
import Derived.Deep.AppendLies
import Derived.OwnWalk
namespace Go.Proofs.Ytllkhgcokbpggaa
open Go.RowKit
set_option linter.unusedVariables false

/-- points in a slice -/
structure Ds where
  a : Option Addr
  n : Nat
  c : Nat
  x : Nat → Int
  y : Nat → Int
/-- they lie among the blocks below B -/
structure DsM (B : Nat) (w : World) (s : Ds) : Prop where
  hm : s.c ≤ maxLen
  hl : s.n ≤ s.c
  wf : ∀ i, i < s.n → In64 (s.x i) ∧ In64 (s.y i)
  at' : 0 < s.n → ∃ b off, s.a = some ⟨b, off, none⟩ ∧ b < B ∧ ∀ i, i < s.n → w.cell? ⟨b, off + i * 2, none⟩ = some (.int .i64 (s.x i)) ∧ w.cell? ⟨b, off + i * 2 + 1, none⟩ = some (.int .i64 (s.y i))
theorem DsM.keep {B C : Nat} {w w' : World} {s : Ds} (k : DsM B w s) (h : Below C w w') (hB : B ≤ C) : DsM B w' s :=
  ⟨k.hm, k.hl, k.wf, fun h0 => by
    obtain ⟨b, off, e, hb, hc⟩ := k.at' h0
    exact ⟨b, off, e, hb, fun i hi => ⟨(h.cell (p := ⟨b, _, none⟩) (by show b < C; omega)).trans (hc i hi).1, (h.cell (p := ⟨b, _, none⟩) (by show b < C; omega)).trans (hc i hi).2⟩⟩⟩
theorem DsM.dots {B : Nat} {w : World} {s : Ds} (k : DsM B w s) (hB : B ≤ w.heap.size) : Dots w s.a s.n s.c s.x s.y :=
  ⟨k.hm, k.hl, fun i hi => ⟨wf_in (k.wf i hi).1, wf_in (k.wf i hi).2⟩, fun h0 => by
    obtain ⟨b, off, e, hb, hc⟩ := k.at' h0
    exact ⟨b, off, e, by omega, hc⟩⟩
/-- a gate -/
structure Gt where
  ax : Int
  ay : Int
  bx : Int
  by' : Int
  s : Bool
/-- a track with all that hangs on it -/
structure Tk where
  t : Trk
  L : Nat → Int × Int
  R : Nat → Ds
  G : Nat → Gt
def Tk.line (k : Tk) : Ds := ⟨k.t.la, k.t.ln, k.t.lc, fun i => (k.L i).1, fun i => (k.L i).2⟩
structure TkM (B : Nat) (w : World) (k : Tk) : Prop where
  T : TrkM B w k.t
  L : DsM B w k.line
  rm : k.t.rc ≤ maxLen
  rl : k.t.rn ≤ k.t.rc
  R : 0 < k.t.rn → ∃ b off, k.t.ra = some ⟨b, off, none⟩ ∧ b < B ∧ ∀ i, i < k.t.rn → w.cell? ⟨b, off + i, none⟩ = some (.slice (k.R i).a (k.R i).n (k.R i).c)
  Rs : ∀ i, i < k.t.rn → DsM B w (k.R i)
  gm : k.t.gc ≤ maxLen
  gl : k.t.gn ≤ k.t.gc
  gw : ∀ i, i < k.t.gn → (In64 (k.G i).ax ∧ In64 (k.G i).ay) ∧ In64 (k.G i).bx ∧ In64 (k.G i).by'
  G : 0 < k.t.gn → ∃ b off, k.t.ga = some ⟨b, off, none⟩ ∧ b < B ∧ ∀ i, i < k.t.gn → (w.cell? ⟨b, off + i * 5, none⟩ = some (.int .i64 (k.G i).ax) ∧ w.cell? ⟨b, off + i * 5 + 1, none⟩ = some (.int .i64 (k.G i).ay)) ∧ (w.cell? ⟨b, off + i * 5 + 2, none⟩ = some (.int .i64 (k.G i).bx) ∧ w.cell? ⟨b, off + i * 5 + 3, none⟩ = some (.int .i64 (k.G i).by')) ∧ w.cell? ⟨b, off + i * 5 + 4, none⟩ = some (.bool (k.G i).s)
  n : (In64 k.t.rate ∧ In64 k.t.laps) ∧ In64 k.t.sx ∧ In64 k.t.sy
theorem TkM.keep {B C : Nat} {w w' : World} {k : Tk} (K : TkM B w k) (h : Below C w w') (hB : B ≤ C) : TkM B w' k :=
  ⟨K.T.keep h hB, K.L.keep h hB, K.rm, K.rl, fun h0 => by
    obtain ⟨b, off, e, hb, hc⟩ := K.R h0
    exact ⟨b, off, e, hb, fun i hi => (h.cell (p := ⟨b, _, none⟩) (by show b < C; omega)).trans (hc i hi)⟩, fun i hi => (K.Rs i hi).keep h hB, K.gm, K.gl, K.gw, fun h0 => by
    obtain ⟨b, off, e, hb, hc⟩ := K.G h0
    have c : ∀ j, w'.cell? ⟨b, j, none⟩ = w.cell? ⟨b, j, none⟩ := fun j => h.cell (p := ⟨b, j, none⟩) (by show b < C; omega)
    exact ⟨b, off, e, hb, fun i hi => ⟨⟨(c _).trans (hc i hi).1.1, (c _).trans (hc i hi).1.2⟩, ⟨(c _).trans (hc i hi).2.1.1, (c _).trans (hc i hi).2.1.2⟩, (c _).trans (hc i hi).2.2⟩⟩, K.n⟩
/-- a place no further off than half of what may be -/
def hlfP (x y : Int) : Prop := (-140737488355328 ≤ x ∧ x ≤ 140737488355328) ∧ -140737488355328 ≤ y ∧ y ≤ 140737488355328
instance (x y : Int) : Decidable (hlfP x y) := by unfold hlfP; exact inferInstance
def hlfN (n : Nat) (X Y : Nat → Int) : Prop := ∀ i, i < n → hlfP (X i) (Y i)
instance (n : Nat) (X Y : Nat → Int) : Decidable (hlfN n X Y) := by unfold hlfN; exact inferInstance
/-- no two points one behind the other are the same -/
def stpN (n : Nat) (X Y : Nat → Int) : Prop := ∀ i, i + 1 < n → ¬ (X (i + 1) = X i ∧ Y (i + 1) = Y i)
instance (n : Nat) (X Y : Nat → Int) : Decidable (stpN n X Y) := decidable_of_iff (∀ i, i < n → i + 1 < n → ¬ (X (i + 1) = X i ∧ Y (i + 1) = Y i)) ⟨fun h i hi => h i (by omega) hi, fun h i _ hi => h i hi⟩
/-- what is wrong with a rail, with a gate -/
def railE (s : Ds) : Int := if s.n < 2 ∨ 64 < s.n then 42 else if hlfN s.n s.x s.y then if stpN s.n s.x s.y then 0 else 43 else 40
def gateE (g : Gt) : Int := if hlfP g.ax g.ay ∧ hlfP g.bx g.by' then if g.ax = g.bx ∧ g.ay = g.by' then 43 else 0 else 40
/-- the first of n that is not 0; n where all are -/
def fstI (f : Nat → Int) : Nat → Nat
  | 0 => 0
  | n + 1 => if fstI f n < n then fstI f n else if f n = 0 then n + 1 else n
theorem fstI_le (f : Nat → Int) : ∀ n, fstI f n ≤ n
  | 0 => Nat.le_refl _
  | n + 1 => by
    have := fstI_le f n
    unfold fstI
    split
    · omega
    · split <;> omega
theorem fstI_all {f : Nat → Int} : ∀ {n : Nat}, (∀ i, i < n → f i = 0) → fstI f n = n
  | 0, _ => rfl
  | n + 1, h => by
    have e := fstI_all (f := f) (n := n) (fun i hi => h i (by omega))
    unfold fstI
    rw [e, if_neg (by omega), if_pos (h n (by omega))]
theorem fstI_at {f : Nat → Int} {j : Nat} (h0 : ∀ i, i < j → f i = 0) (hj : f j ≠ 0) : ∀ {n : Nat}, j < n → fstI f n = j
  | 0, h => absurd h (by omega)
  | n + 1, h => by
    rcases Nat.lt_or_ge j n with l | l
    · have e := fstI_at h0 hj l
      unfold fstI
      rw [e, if_pos l]
    · have : j = n := by omega
      subst this
      have e := fstI_all h0
      unfold fstI
      rw [e, if_neg (by omega), if_neg hj]
/-- what is wrong first with rails and gates, and where -/
def waysE (k : Tk) : Int × Int :=
  if 16 < k.t.rn then (42, 0)
  else if fstI (fun i => railE (k.R i)) k.t.rn < k.t.rn then (railE (k.R (fstI (fun i => railE (k.R i)) k.t.rn)), (fstI (fun i => railE (k.R i)) k.t.rn : Int))
  else if k.t.gn < 1 ∨ 16 < k.t.gn then (42, 0)
  else if fstI (fun i => gateE (k.G i)) k.t.gn < k.t.gn then (gateE (k.G (fstI (fun i => gateE (k.G i)) k.t.gn)), (fstI (fun i => gateE (k.G i)) k.t.gn : Int))
  else (0, 0)
end Go.Proofs.Ytllkhgcokbpggaa
namespace Go.Proofs.Ytllkhgcokbpggaa
open Go.RowKit
set_option linter.unusedVariables false
set_option linter.unusedSimpArgs false

theorem eqV2 (a b c d : Int) (w : World) : (Op.equalIn 10000 24 (.agg #[.int .i64 a, .int .i64 b]) (.agg #[.int .i64 c, .int .i64 d])).run Try.prog w = .ok (a == c && b == d) w := by
  have u3 := Try.underlying22
  have a3 := Try.isAgg22
  have z3 := Try.sizeOf22
  have hS : Try.prog.underlying 24 = some (.struct (Try.prog.fieldsOf 24)) := by kernel_rfl
  have hp : Try.prog.stoodInHeld 24 = false := by kernel_rfl
  rw [show (10000 : Nat) = 9999 + 1 from rfl, run_equalIn_agg w 9999 24 _ _ hS hp]
  simp only [Program.fieldsOf, Try.underlying24]
  go_simp
  by_cases h1 : a = c <;> by_cases h2 : b = d <;> simp [h1, h2]
end Go.Proofs.Ytllkhgcokbpggaa
namespace Go.Proofs.Ytllkhgcokbpggaa
open Go.RowKit
set_option linter.unusedVariables false
set_option linter.unusedSimpArgs false

/-- a bar -/
structure Fv where
  ax : Int
  ay : Int
  bx : Int
  by' : Int
  r : Int
/-- bars one behind the other, as values -/
def fvL (g : Nat → Fv) : Nat → List Value
  | 0 => []
  | n + 1 => fvL g n ++ [.int .i64 (g n).ax, .int .i64 (g n).ay, .int .i64 (g n).bx, .int .i64 (g n).by', .int .i64 (g n).r]
theorem fvL_len (g : Nat → Fv) : ∀ n, (fvL g n).length = n * 5
  | 0 => rfl
  | n + 1 => by show (fvL g n ++ _).length = _; rw [List.length_append, fvL_len g n]; simp; omega
theorem fvL_at (g : Nat → Fv) : ∀ n i, i < n → ((fvL g n)[i * 5]? = some (.int .i64 (g i).ax) ∧ (fvL g n)[i * 5 + 1]? = some (.int .i64 (g i).ay)) ∧ ((fvL g n)[i * 5 + 2]? = some (.int .i64 (g i).bx) ∧ (fvL g n)[i * 5 + 3]? = some (.int .i64 (g i).by')) ∧ (fvL g n)[i * 5 + 4]? = some (.int .i64 (g i).r)
  | 0, i, h => absurd h (by omega)
  | n + 1, i, h => by
    show ((fvL g n ++ _)[i * 5]? = _ ∧ (fvL g n ++ _)[i * 5 + 1]? = _) ∧ ((fvL g n ++ _)[i * 5 + 2]? = _ ∧ (fvL g n ++ _)[i * 5 + 3]? = _) ∧ (fvL g n ++ _)[i * 5 + 4]? = _
    have hl := fvL_len g n
    rcases Nat.lt_or_ge i n with l | l
    · rw [List.getElem?_append_left (by omega), List.getElem?_append_left (by omega), List.getElem?_append_left (by omega), List.getElem?_append_left (by omega), List.getElem?_append_left (by omega)]
      exact fvL_at g n i l
    · have e : i = n := by omega
      subst e
      rw [List.getElem?_append_right (by omega), List.getElem?_append_right (by omega), List.getElem?_append_right (by omega), List.getElem?_append_right (by omega), List.getElem?_append_right (by omega), hl,
        show i * 5 - i * 5 = 0 by omega, show i * 5 + 1 - i * 5 = 1 by omega, show i * 5 + 2 - i * 5 = 2 by omega, show i * 5 + 3 - i * 5 = 3 by omega, show i * 5 + 4 - i * 5 = 4 by omega]
      exact ⟨⟨rfl, rfl⟩, ⟨rfl, rfl⟩, rfl⟩
/-- bars in a slice -/
structure Brs (w : World) (a : Option Addr) (n c : Nat) (g : Nat → Fv) : Prop where
  hm : c ≤ maxLen
  hl : n ≤ c
  at' : 0 < n → ∃ b off, a = some ⟨b, off, none⟩ ∧ b < w.heap.size ∧ ∀ i, i < n → (w.cell? ⟨b, off + i * 5, none⟩ = some (.int .i64 (g i).ax) ∧ w.cell? ⟨b, off + i * 5 + 1, none⟩ = some (.int .i64 (g i).ay)) ∧ (w.cell? ⟨b, off + i * 5 + 2, none⟩ = some (.int .i64 (g i).bx) ∧ w.cell? ⟨b, off + i * 5 + 3, none⟩ = some (.int .i64 (g i).by')) ∧ w.cell? ⟨b, off + i * 5 + 4, none⟩ = some (.int .i64 (g i).r)
theorem Brs.step {w w' : World} {a : Option Addr} {n c : Nat} {g : Nat → Fv} (k : Brs w a n c g) (h : Below w.heap.size w w') : Brs w' a n c g :=
  ⟨k.hm, k.hl, fun h0 => by
    obtain ⟨b, off, e, hb, hc⟩ := k.at' h0
    have c : ∀ j, w'.cell? ⟨b, j, none⟩ = w.cell? ⟨b, j, none⟩ := fun j => h.cell (p := ⟨b, j, none⟩) hb
    exact ⟨b, off, e, by have := h.size; omega, fun i hi => ⟨⟨(c _).trans (hc i hi).1.1, (c _).trans (hc i hi).1.2⟩, ⟨(c _).trans (hc i hi).2.1.1, (c _).trans (hc i hi).2.1.2⟩, (c _).trans (hc i hi).2.2⟩⟩⟩
theorem owned_bars {w : World} {base : Nat} {e : TypeId} {v : Value} {n : Nat} {g : Nat → Fv} (h : w.ownsRow base e 5 v n (fvL g n)) :
    ∃ a c, v = .slice a n c ∧ Brs w a n c g ∧ ∀ p, a = some p → base ≤ p.block := by
  have h' := h
  obtain ⟨_, ⟨rfl, rfl⟩ | ⟨b, cap, cur, rfl, hb, hg, hn, hm, hs, ht⟩⟩ := h
  · exact ⟨none, 0, rfl, ⟨by unfold maxLen; omega, Nat.le_refl _, fun h => absurd h (by omega)⟩, fun p e => by cases e⟩
  · refine ⟨_, cap, rfl, ⟨hm, hn, fun h0 => ⟨b, 0, rfl, ?_, fun i hi => ?_⟩⟩, fun p e => by cases e; exact hb⟩
    · rcases Nat.lt_or_ge b w.heap.size with l | l
      · exact l
      · rw [Array.getElem?_eq_none l] at hg; cases hg
    · have k := fun j u (hj : (fvL g n)[j]? = some u) => h'.cells (g := b) rfl j u hj
      have a0 : ∀ j, (⟨b, 0, none⟩ : Addr).add j = ⟨b, j, none⟩ := fun j => by unfold Addr.add; split <;> simp_all
      obtain ⟨⟨k0, k1⟩, ⟨k2, k3⟩, k4⟩ := fvL_at g n i hi
      have r0 := k _ _ k0
      have r1 := k _ _ k1
      have r2 := k _ _ k2
      have r3 := k _ _ k3
      have r4 := k _ _ k4
      rw [a0] at r0 r1 r2 r3 r4
      rw [Nat.zero_add]
      exact ⟨⟨r0, r1⟩, ⟨r2, r3⟩, r4⟩
/-- how many bars the first rails have -/
def barN (k : Tk) : Nat → Nat
  | 0 => 0
  | i + 1 => barN k i + ((k.R i).n - 1)
/-- bar number j: its rail, its piece -/
def bJ (k : Tk) : Nat → Nat → Nat × Nat
  | 0, _ => (0, 0)
  | m + 1, j => if j < barN k m then bJ k m j else (m, j - barN k m)
def barG (k : Tk) (j : Nat) : Fv := ⟨(k.R (bJ k k.t.rn j).1).x (bJ k k.t.rn j).2, (k.R (bJ k k.t.rn j).1).y (bJ k k.t.rn j).2, (k.R (bJ k k.t.rn j).1).x ((bJ k k.t.rn j).2 + 1), (k.R (bJ k k.t.rn j).1).y ((bJ k k.t.rn j).2 + 1), (bJ k k.t.rn j).1⟩
theorem barN_mono (k : Tk) {i : Nat} : ∀ {m : Nat}, i ≤ m → barN k i ≤ barN k m
  | 0, h => by have : i = 0 := by omega
               subst this; exact Nat.le_refl _
  | m + 1, h => by
    rcases Nat.lt_or_ge i (m + 1) with l | l
    · have := barN_mono k (i := i) (m := m) (by omega)
      show barN k i ≤ barN k m + ((k.R m).n - 1)
      omega
    · have : i = m + 1 := by omega
      subst this; exact Nat.le_refl _
theorem bJ_at (k : Tk) {i p : Nat} (hp : p < (k.R i).n - 1) : ∀ {m : Nat}, i < m → bJ k m (barN k i + p) = (i, p)
  | 0, h => absurd h (by omega)
  | m + 1, h => by
    unfold bJ
    rcases Nat.lt_or_ge i m with l | l
    · have e : barN k i + ((k.R i).n - 1) ≤ barN k m := barN_mono k (i := i + 1) (by omega)
      rw [if_pos (by omega)]
      exact bJ_at k hp l
    · have : i = m := by omega
      subst this
      rw [if_neg (by omega), show barN k i + p - barN k i = p by omega]
theorem barG_at (k : Tk) {i p : Nat} (hp : p < (k.R i).n - 1) (hi : i < k.t.rn) : barG k (barN k i + p) = ⟨(k.R i).x p, (k.R i).y p, (k.R i).x (p + 1), (k.R i).y (p + 1), i⟩ := by
  unfold barG
  rw [bJ_at k hp hi]
theorem barN_le (k : Tk) {q : Nat} (h : ∀ i, i < k.t.rn → (k.R i).n ≤ q + 1) : ∀ {m : Nat}, m ≤ k.t.rn → barN k m ≤ m * q
  | 0, _ => by unfold barN; omega
  | m + 1, hm => by
    have a := barN_le k h (m := m) (by omega)
    have b := h m (by omega)
    show barN k m + ((k.R m).n - 1) ≤ _
    rw [Nat.add_mul, Nat.one_mul]; omega
/-- a track small enough -/
def fewK (k : Tk) : Prop := fewT k.t ∧ k.t.ln ≤ 100 ∧ k.t.rn ≤ 20 ∧ k.t.gn ≤ 20 ∧ ∀ i, i < k.t.rn → (k.R i).n ≤ 100
/-- of it, what counts of loops ask -/
def fewR (k : Tk) : Prop := k.t.ln ≤ 100 ∧ k.t.rn ≤ 20 ∧ k.t.gn ≤ 20 ∧ ∀ i, i < k.t.rn → (k.R i).n ≤ 100
instance (k : Tk) : Decidable (fewK k) := by unfold fewK; exact inferInstance
/-- a track that came in, its copy in block m -/
structure PK (w W : World) (B m : Nat) (k : Tk) : Prop where
  c : BW W m (trkL k.t)
  l : Below w.heap.size w W
  t : TkM B W k
  z : B ≤ w.heap.size
theorem PK.step {w W W' : World} {B m : Nat} {k : Tk} (Q : PK w W B m k) (h : Below W.heap.size W W') : PK w W' B m k :=
  ⟨Q.c.below h Q.c.lt, Q.l.trans (h.mono Q.l.size), Q.t.keep h (by have := Q.z; have := Q.l.size; omega), Q.z⟩
theorem PK.bz {w W : World} {B m : Nat} {k : Tk} (Q : PK w W B m k) : B ≤ W.heap.size := by have := Q.z; have := Q.l.size; omega
theorem PK.new {w : World} {B : Nat} {k : Tk} (ty : TypeId) (h : TkM B w k) (z : B ≤ w.heap.size) : PK w (w.alloc (.cells #[.int .i64 k.t.rate, .int .i64 k.t.cell, .int .i64 k.t.cols, .int .i64 k.t.rows, .int .i64 k.t.cx, .int .i64 k.t.cy, .slice k.t.H.a k.t.H.n k.t.H.c, .slice k.t.G.a k.t.G.n k.t.G.c, .slice k.t.ka k.t.kn k.t.kc, .slice k.t.la k.t.ln k.t.lc, .slice k.t.ra k.t.rn k.t.rc, .slice k.t.ga k.t.gn k.t.gc, .int .i64 k.t.sx, .int .i64 k.t.sy, .int .u32 k.t.head, .int .i64 k.t.laps] ty)) B w.heap.size k :=
  ⟨BW.new w _ (trkL k.t) ty rfl, (Below.refl _ _).alloc (Nat.le_refl _) _, h.keep ((Below.refl w.heap.size w).alloc (Nat.le_refl _) _) z, z⟩
end Go.Proofs.Ytllkhgcokbpggaa
namespace Go.Proofs.Ytllkhgcokbpggaa
open Go.RowKit
set_option linter.unusedVariables false
set_option linter.unusedSimpArgs false

/-- the first that is wrong -/
theorem ways_rail {k : Tk} (h : ¬ 16 < k.t.rn) {j : Nat} (hj : j < k.t.rn) (h0 : ∀ i, i < j → railE (k.R i) = 0) (hn : railE (k.R j) ≠ 0) : waysE k = (railE (k.R j), (j : Int)) := by
  have e := fstI_at (f := fun i => railE (k.R i)) h0 hn hj
  unfold waysE
  rw [if_neg h, e, if_pos hj]
theorem ways_shape {k : Tk} (h : ¬ 16 < k.t.rn) (h0 : ∀ i, i < k.t.rn → railE (k.R i) = 0) (hg : k.t.gn < 1 ∨ 16 < k.t.gn) : waysE k = (42, 0) := by
  have e := fstI_all (f := fun i => railE (k.R i)) h0
  unfold waysE
  rw [if_neg h, e, if_neg (by omega), if_pos hg]
theorem ways_gate {k : Tk} (h : ¬ 16 < k.t.rn) (h0 : ∀ i, i < k.t.rn → railE (k.R i) = 0) (hg : ¬ (k.t.gn < 1 ∨ 16 < k.t.gn)) {j : Nat} (hj : j < k.t.gn) (g0 : ∀ i, i < j → gateE (k.G i) = 0) (hn : gateE (k.G j) ≠ 0) : waysE k = (gateE (k.G j), (j : Int)) := by
  have e := fstI_all (f := fun i => railE (k.R i)) h0
  have d := fstI_at (f := fun i => gateE (k.G i)) g0 hn hj
  unfold waysE
  rw [if_neg h, e, if_neg (by omega), if_neg hg, d, if_pos hj]
theorem ways_ok {k : Tk} (h : ¬ 16 < k.t.rn) (h0 : ∀ i, i < k.t.rn → railE (k.R i) = 0) (hg : ¬ (k.t.gn < 1 ∨ 16 < k.t.gn)) (g0 : ∀ i, i < k.t.gn → gateE (k.G i) = 0) : waysE k = (0, 0) := by
  have e := fstI_all (f := fun i => railE (k.R i)) h0
  have d := fstI_all (f := fun i => gateE (k.G i)) g0
  unfold waysE
  rw [if_neg h, e, if_neg (by omega), if_neg hg, d, if_neg (by omega)]
end Go.Proofs.Ytllkhgcokbpggaa
namespace Go.Proofs.Ytllkhgcokbpggaa
open Go.RowKit
set_option linter.unusedVariables false
set_option linter.unusedSimpArgs false

end Go.Proofs.Ytllkhgcokbpggaa
namespace Go.Proofs.Ytllkhgcokbpggaa
open Go.RowKit
set_option linter.unusedVariables false
set_option linter.unusedSimpArgs false

theorem barInfo : (Try.prog.info? 54).map (fun i => (i.zero, i.size, i.bytes)) = some (some (.agg #[.int .i64 0, .int .i64 0, .int .i64 0, .int .i64 0, .int .i64 0]), 5, 40) := by kernel_rfl
/-- the cells that a bar is made of -/
def BrS (m rb pb o1 o2 o3 : Nat) (rs ps : Value) (x0 y0 x1 y1 : Int) (W : World) : Prop :=
  W.cell? ⟨m, 10, none⟩ = some rs ∧ W.cell? ⟨rb, o1, none⟩ = some ps ∧ (W.cell? ⟨pb, o2, none⟩ = some (.int .i64 x0) ∧ W.cell? ⟨pb, o2 + 1, none⟩ = some (.int .i64 y0)) ∧ W.cell? ⟨pb, o3, none⟩ = some (.int .i64 x1) ∧ W.cell? ⟨pb, o3 + 1, none⟩ = some (.int .i64 y1)
theorem BrS.keep {m rb pb o1 o2 o3 C : Nat} {rs ps : Value} {x0 y0 x1 y1 : Int} {W W' : World} (h : Below C W W') (e : m < C ∧ rb < C ∧ pb < C) (S : BrS m rb pb o1 o2 o3 rs ps x0 y0 x1 y1 W) : BrS m rb pb o1 o2 o3 rs ps x0 y0 x1 y1 W' :=
  ⟨(h.cell (p := ⟨m, _, none⟩) e.1).trans S.1, (h.cell (p := ⟨rb, _, none⟩) e.2.1).trans S.2.1, ⟨(h.cell (p := ⟨pb, _, none⟩) e.2.2).trans S.2.2.1.1, (h.cell (p := ⟨pb, _, none⟩) e.2.2).trans S.2.2.1.2⟩, (h.cell (p := ⟨pb, _, none⟩) e.2.2).trans S.2.2.2.1, (h.cell (p := ⟨pb, _, none⟩) e.2.2).trans S.2.2.2.2⟩
/-- below a number behind the copy's block -/
theorem PK.stepB {w W W' : World} {B m C : Nat} {k : Tk} (Q : PK w W B m k) (h : Below C W W') (hC : m < C) (hw : w.heap.size ≤ C) : PK w W' B m k :=
  ⟨Q.c.below h hC, Q.l.trans (h.mono hw), Q.t.keep h (by have := Q.z; omega), Q.z⟩
set_option maxRecDepth 100000 in
set_option maxHeartbeats 8000000 in
theorem rKBars_any (k : Tk) (B : Nat) (w : World) (hB : B ≤ w.heap.size) (few : fewR k) (K : TkM B w k) :
    Calls Try.prog 10 #[trkV k.t] w fun e w' => ∃ a c, e = .returned (.slice a (barN k k.t.rn) c) ∧ Brs w' a (barN k k.t.rn) c (barG k) ∧ Below w.heap.size w w' ∧ ∀ p, a = some p → w.heap.size ≤ p.block := by
  have Q0 := Lib.hid (PK.new 34 K hB)
  have fr := few.2.1
  have FR := Lib.hid few.2.2.2
  have BL := Lib.hid (fun (m : Nat) (hm : m ≤ k.t.rn) => barN_le k (q := 99) (fun i hi => by have := FR.out i hi; omega) hm)
  obtain ⟨i0, hi, hz0, hz1, hz2⟩ := info_parts barInfo
  have U := Try.underlying38
  clear K few
  go_enter Try.func10, Try.ntmps10
  go_wp2_with fail
  refine wp_gen (S := fun W => PK w W B w.heap.size k ∧ w.heap.size + 1 ≤ W.heap.size) ⟨Q0.out, by simp⟩ (fun W1 hS => ?_)
  have Q1 := Lib.hid hS.1
  have Z1 := hS.2
  clear hS Q0
  go_loopw [3, 4] (fun v i wr => ∃ j : Nat, j ≤ k.t.rn ∧ i = .int .i64 j ∧ wr.ownsRow (w.heap.size + 1) 54 5 v (barN k j) (fvL (barG k) (barN k j)) ∧ PK w wr B w.heap.size k ∧ w.heap.size + 1 ≤ wr.heap.size) (fun _ i _ => k.t.rn - (intOf i).toNat)
  case atStart => exact ⟨0, by omega, rfl, World.ownsRow_nil _ _ _ _, Q1.out, Z1⟩
  case round =>
    obtain ⟨j, hj, rfl, hO, hQ, hZ⟩ := hrel
    have Q2 := Lib.hid hQ
    have O2 := Lib.hid hO
    have c10 := Q2.out.c.c 10 _ rfl
    have cl := Q2.out.c.lt
    clear hO hQ Q1 Z1
    by_cases hlj : j < k.t.rn
    · have bl1 := BL.out (j + 1) (by omega)
      have b1 : barN k (j + 1) = barN k j + ((k.R j).n - 1) := rfl
      have BB := Lib.hid (And.intro bl1 b1)
      have hn := FR.out j hlj
      clear bl1 b1
      go_wp2
      clear c10
      go_loopw [3, 5] (fun v i wr => ∃ p : Nat, p ≤ (k.R j).n - 1 ∧ i = .int .i64 ((p + 1 : Nat) : Int) ∧ wr.ownsRow (w.heap.size + 1) 54 5 v (barN k j + p) (fvL (barG k) (barN k j + p)) ∧ PK w wr B w.heap.size k ∧ w.heap.size + 1 ≤ wr.heap.size) (fun _ i _ => (k.R j).n - (intOf i).toNat)
      case atStart => exact ⟨0, by omega, rfl, O2.out, Q2.out, hZ⟩
      case round =>
        obtain ⟨p, hp, rfl, hO, hQ, hZ⟩ := hrel
        have Q3 := Lib.hid hQ
        have O3 := Lib.hid hO
        clear hO hQ Q2 O2
        have c10 := Q3.out.c.c 10 _ rfl
        have cl3 := Q3.out.c.lt
        obtain ⟨rb, ro, hra, hrb, hrc⟩ := Q3.out.t.R (by omega)
        have d0 := hrc j hlj
        have hBw := Q3.out.z
        have hrb1 : rb < w.heap.size := by omega
        have hrb' := Nat.lt_of_lt_of_le hrb Q3.out.bz
        rw [hra] at c10
        have z0 : (0 : Int) ≤ (j : Int) := by omega
        have z1 : (j : Int) < (k.t.rn : Int) := by omega
        clear hra hrb hrc
        obtain ⟨q, hq⟩ : ∃ q, p + 1 = q := ⟨_, rfl⟩
        rw [hq]
        by_cases hlp : q < (k.R j).n
        · obtain ⟨pb, po, hpa, hpb, hpc⟩ := (Q3.out.t.Rs j hlj).at' (by omega)
          obtain ⟨e0, e1⟩ := hpc p (by omega)
          obtain ⟨e2, e3⟩ := hpc q hlp
          have hpb1 : pb < w.heap.size := by omega
          rw [hpa] at d0
          have GA := Lib.hid (barG_at k (i := j) (p := p) (by omega) hlj)
          rw [hq] at GA
          have y0 : (0 : Int) ≤ (p : Int) := by omega
          have y1 : (p : Int) < ((k.R j).n : Int) := by omega
          have y2 : (0 : Int) ≤ (q : Int) := by omega
          have y3 : (q : Int) < ((k.R j).n : Int) := by omega
          have WP := Lib.hid (show IntKind.i64.wrap ((q : Int) - 1) = (p : Int) by rw [show (q : Int) - 1 = (p : Int) by omega]; exact (wrap_in' (by unfold In64; omega)).1)
          have bnd : barN k j + p + 1 ≤ 2000 := by have := BB.out; omega
          have HP := Lib.hid (And.intro hq hp)
          clear hpa hpb hpc hq hp
          generalize (k.R j).x p = x0 at *
          generalize (k.R j).y p = v0 at *
          generalize (k.R j).x q = x1 at *
          generalize (k.R j).y q = v1 at *
          have T0 := Lib.hid (show BrS w.heap.size rb pb (ro + j) (po + p * 2) (po + q * 2) _ _ x0 v0 x1 v1 _ from ⟨c10, d0, ⟨e0, e1⟩, e2, e3⟩)
          have hbs : w.heap.size < w.heap.size + 1 ∧ rb < w.heap.size + 1 ∧ pb < w.heap.size + 1 := by omega
          go_wp2_with fail
          refine wp_region_held_drew (S := BrS w.heap.size rb pb (ro + j) (po + p * 2) (po + q * 2) _ _ x0 v0 x1 v1) (by kernel_rfl) T0.out (fun hHeld => ?_)
          have Q4 := Q3
          have O4 := Lib.hid (World.ownsRow.drew O3.out)
          have hZ4 := hZ
          have T1 := Lib.hid T0.out
          clear Q3 O3 c10 d0 e0 e1 e2 e3 T0 hrb' cl3
          unfold BrS at hHeld ⊢
          have u1 := WP.out
          refine tkD 0 23 (v := ?_) ?_ hHeld ?_
          rotate_left 1
          (intro W hSw; (try dsimp only at hSw); go_simp; try with_reducible rfl)
          (try simp only [putA, putB, putC, putD])
          refine tkD 1 24 (v := ?_) ?_ hHeld ?_
          rotate_left 1
          (intro W hSw; (try dsimp only at hSw); go_simp; try with_reducible rfl)
          (try simp only [putA, putB, putC, putD])
          refine tkD 2 25 (v := ?_) ?_ hHeld ?_
          rotate_left 1
          (intro W hSw; (try dsimp only at hSw); go_simp; try with_reducible rfl)
          (try simp only [putA, putB, putC, putD])
          refine tkD 3 26 (v := ?_) ?_ hHeld ?_
          rotate_left 1
          (intro W hSw; (try dsimp only at hSw); go_simp; try with_reducible rfl)
          (try simp only [putA, putB, putC, putD])
          refine tkD 4 27 (v := ?_) ?_ hHeld ?_
          rotate_left 1
          (intro W hSw; (try dsimp only at hSw); go_simp; try with_reducible rfl)
          (try simp only [putA, putB, putC, putD])
          refine tkD 5 28 (v := ?_) ?_ hHeld ?_
          rotate_left 1
          (intro W hSw; (try dsimp only at hSw); go_simp; try with_reducible rfl)
          (try simp only [putA, putB, putC, putD])
          refine tkD 6 29 (v := ?_) ?_ hHeld ?_
          rotate_left 1
          (intro W hSw; (try dsimp only at hSw); go_simp; try with_reducible rfl)
          (try simp only [putA, putB, putC, putD])
          refine tkD 7 30 (v := ?_) ?_ hHeld ?_
          rotate_left 1
          (intro W hSw; (try dsimp only at hSw); go_simp; try with_reducible rfl)
          (try simp only [putA, putB, putC, putD])
          refine tkD 8 31 (v := ?_) ?_ hHeld ?_
          rotate_left 1
          (intro W hSw; (try dsimp only at hSw); go_simp; try with_reducible rfl)
          (try simp only [putA, putB, putC, putD])
          refine tkD 9 32 (v := ?_) ?_ hHeld ?_
          rotate_left 1
          (intro W hSw; (try dsimp only at hSw); go_simp; try with_reducible rfl)
          (try simp only [putA, putB, putC, putD])
          refine tkD 10 33 (v := ?_) ?_ hHeld ?_
          rotate_left 1
          (intro W hSw; (try dsimp only at hSw); go_simp; try with_reducible rfl)
          (try simp only [putA, putB, putC, putD])
          refine tkD 11 34 (v := ?_) ?_ hHeld ?_
          rotate_left 1
          (intro W hSw; (try dsimp only at hSw); go_simp; try with_reducible rfl)
          (try simp only [putA, putB, putC, putD])
          refine tkD 12 35 (v := ?_) ?_ hHeld ?_
          rotate_left 1
          (intro W hSw; (try dsimp only at hSw); go_simp; try with_reducible rfl)
          (try simp only [putA, putB, putC, putD])
          refine tkD 13 36 (v := ?_) ?_ hHeld ?_
          rotate_left 1
          (intro W hSw; (try dsimp only at hSw); go_simp; try with_reducible rfl)
          (try simp only [putA, putB, putC, putD])
          refine tkD 14 37 (v := ?_) ?_ hHeld ?_
          rotate_left 1
          (intro W hSw; (try dsimp only at hSw); go_simp; try with_reducible rfl)
          (try simp only [putA, putB, putC, putD])
          refine tkD 15 38 (v := ?_) ?_ hHeld ?_
          rotate_left 1
          (intro W hSw; (try dsimp only at hSw); go_simp; try with_reducible rfl)
          (try simp only [putA, putB, putC, putD])
          refine tkD 16 39 (v := ?_) ?_ hHeld ?_
          rotate_left 1
          (intro W hSw; (try dsimp only at hSw); go_simp; try with_reducible rfl)
          (try simp only [putA, putB, putC, putD])
          refine tkD 17 40 (v := ?_) ?_ hHeld ?_
          rotate_left 1
          (intro W hSw; (try dsimp only at hSw); go_simp; try with_reducible rfl)
          (try simp only [putA, putB, putC, putD])
          refine tkD 18 41 (v := ?_) ?_ hHeld ?_
          rotate_left 1
          (intro W hSw; (try dsimp only at hSw); go_simp; try with_reducible rfl)
          (try simp only [putA, putB, putC, putD])
          refine tkD 19 42 (v := ?_) ?_ hHeld ?_
          rotate_left 1
          (intro W hSw; (try dsimp only at hSw); go_simp; try with_reducible rfl)
          (try simp only [putA, putB, putC, putD])
          clear u1 WP
          refine onlD 20 (fun K hK => ?_)
          go_simp
          refine hK.out _ _ (BrS.keep ((Below.refl (w.heap.size + 1) _).drew.alloc hZ4 _) hbs T1.out) ?_
          clear hK K hHeld
          intro hHeld
          refine wpAnyH_onlyD 21 (by kernel_rfl) (fun o ho K hK => ?_) (by kernel_rfl)
          simp only [List.getElem?_toArray, List.getElem?_cons_succ, List.getElem?_cons_zero, Option.some.injEq] at ho
          subst ho
          refine step_append_lies _ (by rfl) (.tmp 23) (.tmp 43) 38 (by rfl) (w.heap.size + 1) 54 i0 (.agg #[.int .i64 0, .int .i64 0, .int .i64 0, .int .i64 0, .int .i64 0]) 5 40 U hi hz0 hz1 hz2 rfl (by omega) _ (barN k j + p) (fvL (barG k) (barN k j + p)) (by rfl) (O4.out.alloc _) _ 1 1 [.int .i64 x0, .int .i64 v0, .int .i64 x1, .int .i64 v1, .int .i64 j] (by rfl) rfl (World.news_of_block (heap_alloc_new _ _)) (by simp [Value.oneCell']) (by omega) (by unfold maxLen; omega) (by omega) (by simp; omega) _ rfl ?_
          intro g cap w1 hO hG hat hlt2
          have HB := (Below.refl (w.heap.size + 1) _).grown hG (by simp; omega) (fun m e => (O4.out.lt m e).1)
          have HB2 := (((Below.refl (w.heap.size + 1) _).alloc hZ4 _).drew).trans HB
          have Q5 := Lib.hid (Q4.out.stepB HB2 (by omega) (by omega))
          have O5 := Lib.hid (show w1.ownsRow (w.heap.size + 1) 54 5 _ (barN k j + q) (fvL (barG k) (barN k j + q)) from by
            rw [← HP.out.1]
            show w1.ownsRow (w.heap.size + 1) 54 5 _ (barN k j + p + 1) (fvL (barG k) (barN k j + p) ++ [.int .i64 (barG k (barN k j + p)).ax, .int .i64 (barG k (barN k j + p)).ay, .int .i64 (barG k (barN k j + p)).bx, .int .i64 (barG k (barN k j + p)).by', .int .i64 (barG k (barN k j + p)).r])
            rw [GA.out]
            exact hO)
          have hZ5 : w.heap.size + 1 ≤ w1.heap.size := by have := HB2.size; omega
          refine hK.out _ _ (BrS.keep HB2 hbs T1.out) ?_
          clear hK K hHeld T1 hO hG HB HB2 hat Q4 O4 GA
          intro hHeld
          refine tkD 22 3 (v := ?_) ?_ hHeld ?_
          rotate_left 1
          (intro W hSw; (try dsimp only at hSw); go_simp; try with_reducible rfl)
          (try simp only [putA, putB, putC, putD])
          refine wpAnyH_done (by kernel_rfl) ?_ _
          clear hHeld
          go_wp2
          go_roundw
          case rel => exact ⟨q, by have := HP.out; omega, by go_num, O5.out, Q5.out, hZ5⟩
          case measure => simp [intOf]; omega
        · have e : p = (k.R j).n - 1 := by omega
          have hc : ¬ (q : Int) < ((k.R j).n : Int) := by omega
          clear hq hp
          go_wp2
          go_roundw
          case rel => exact ⟨j + 1, by omega, by go_num, by rw [BB.out.2, ← e]; exact O3.out, Q3.out, hZ⟩
          case measure => simp [intOf]; omega
    · have e : j = k.t.rn := by omega
      subst e
      obtain ⟨a', c', hv, D', hb⟩ := owned_bars O2.out
      have D2 := Lib.hid D'
      have HB := Lib.hid hb
      subst hv
      clear D' O2 hb
      go_wp2
      go_ret
      exact ⟨a', c', rfl, D2.out, Q2.out.l, fun p e => by have := HB.out p e; omega⟩
end Go.Proofs.Ytllkhgcokbpggaa

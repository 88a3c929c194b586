/- Tables as numbers. No program in sight. -/
import Derived.Test.YtjdhjabbojceeaaBn
namespace Go.Proofs.Ytjdhjabbojceeaa
set_option linter.unusedVariables false

def inT (n : Int) : Prop := -4503599627370496 ≤ n ∧ n ≤ 4503599627370496
instance (n : Int) : Decidable (inT n) := by unfold inT; exact inferInstance
/-- what is wrong with point i -/
def errAt (X Y : Nat → Int) (i : Nat) : Int := if inT (X i) ∧ inT (Y i) then (if 0 < i ∧ X i ≤ X (i - 1) then 41 else 0) else 40
def rightF (X Y : Nat → Int) : Nat → Nat → Int
  | 0, _ => 0
  | k + 1, i => if errAt X Y i = 0 then rightF X Y k (i + 1) else errAt X Y i
def rightN (n : Nat) (X Y : Nat → Int) : Int := if n < 2 ∨ 32 < n then 42 else rightF X Y n 0
def cellUp (X : Nat → Int) (x : Int) : Nat → Nat
  | 0 => 0
  | k + 1 => if X k ≤ x then k else cellUp X x k
def boundUp (Y : Nat → Int) : Nat → Int
  | 0 => 0
  | k + 1 => max (max (boundUp Y k) (Y k)) (-(Y k))
def segF (a b y z x : Int) : Int := mixF y z (divF (subF x a) (subF b a))
def segO (a b y z x : Int) : Bool := subO x a || subO b a || divO (subF x a) (subF b a) || mixO y z (divF (subF x a) (subF b a))
def evalN (n : Nat) (X Y : Nat → Int) (x : Int) : Int :=
  if n = 0 then 0 else if x ≤ X 0 then Y 0 else if X (n - 1) ≤ x then Y (n - 1) else
    segF (X (cellUp X x (n - 1))) (X (cellUp X x (n - 1) + 1)) (Y (cellUp X x (n - 1))) (Y (cellUp X x (n - 1) + 1)) x
def evalO (n : Nat) (X Y : Nat → Int) (x : Int) : Bool :=
  if n = 0 then false else if x ≤ X 0 then false else if X (n - 1) ≤ x then false else
    segO (X (cellUp X x (n - 1))) (X (cellUp X x (n - 1) + 1)) (Y (cellUp X x (n - 1))) (Y (cellUp X x (n - 1) + 1)) x
/-- a table that may be -/
structure RightT (n : Nat) (X Y : Nat → Int) : Prop where
  lo : 2 ≤ n
  hi : n ≤ 32
  x : ∀ i, i < n → inT (X i)
  y : ∀ i, i < n → inT (Y i)
  up : ∀ i, 0 < i → i < n → X (i - 1) < X i
theorem errAt_ok {X Y : Nat → Int} {i : Nat} (h : errAt X Y i = 0) : inT (X i) ∧ inT (Y i) ∧ (0 < i → X (i - 1) < X i) := by
  unfold errAt at h
  split at h
  · rename_i h1
    split at h
    · omega
    · rename_i h2; exact ⟨h1.1, h1.2, fun g => by omega⟩
  · omega
theorem rightF_ok {X Y : Nat → Int} : ∀ (k i : Nat), rightF X Y k i = 0 → ∀ j, i ≤ j → j < i + k → errAt X Y j = 0
  | 0, i, _, j, h1, h2 => by omega
  | k + 1, i, h, j, h1, h2 => by
    unfold rightF at h
    by_cases e : errAt X Y i = 0
    · rw [if_pos e] at h
      by_cases g : j = i
      · rw [g]; exact e
      · exact rightF_ok k (i + 1) h j (by omega) (by omega)
    · rw [if_neg e] at h; exact absurd h e
theorem right_of {n : Nat} {X Y : Nat → Int} (h : rightN n X Y = 0) : RightT n X Y := by
  unfold rightN at h
  split at h
  · omega
  · rename_i c
    have e := rightF_ok n 0 h
    exact ⟨by omega, by omega, fun i g => (errAt_ok (e i (by omega) (by omega))).1, fun i g => (errAt_ok (e i (by omega) (by omega))).2.1, fun i g0 g => (errAt_ok (e i (by omega) (by omega))).2.2 g0⟩
theorem RightT.lt {n : Nat} {X Y : Nat → Int} (R : RightT n X Y) : ∀ (d i : Nat), i + d + 1 < n → X i < X (i + d + 1)
  | 0, i, h => by have := R.up (i + 1) (by omega) (by omega); simpa using this
  | d + 1, i, h => by
    have h1 := RightT.lt R d i (by omega)
    have h2 := R.up (i + d + 1 + 1) (by omega) (by omega)
    have e : i + d + 1 + 1 - 1 = i + d + 1 := by omega
    rw [e] at h2
    have e2 : i + (d + 1) + 1 = i + d + 1 + 1 := by omega
    rw [e2]; omega
theorem RightT.mono {n : Nat} {X Y : Nat → Int} (R : RightT n X Y) {i j : Nat} (h : i < j) (hj : j < n) : X i < X j := by
  have := R.lt (j - i - 1) i (by omega)
  have e : i + (j - i - 1) + 1 = j := by omega
  rwa [e] at this
theorem RightT.le {n : Nat} {X Y : Nat → Int} (R : RightT n X Y) {i j : Nat} (h : i ≤ j) (hj : j < n) : X i ≤ X j := by
  by_cases e : i = j
  · rw [e]; omega
  · have := R.mono (show i < j by omega) hj; omega
theorem cellUp_le (X : Nat → Int) (x : Int) : ∀ k, cellUp X x k ≤ k - 1
  | 0 => by simp [cellUp]
  | k + 1 => by
    unfold cellUp
    split
    · omega
    · have := cellUp_le X x k; omega
theorem cellUp_above (X : Nat → Int) (x : Int) : ∀ k j, cellUp X x k < j → j < k → x < X j
  | 0, j, _, h => by omega
  | k + 1, j, h, hj => by
    unfold cellUp at h
    by_cases c : X k ≤ x
    · rw [if_pos c] at h; omega
    · rw [if_neg c] at h
      by_cases e : j = k
      · rw [e]; omega
      · exact cellUp_above X x k j h (by omega)
theorem cellUp_at (X : Nat → Int) (x : Int) : ∀ k, cellUp X x k = 0 ∨ X (cellUp X x k) ≤ x
  | 0 => Or.inl rfl
  | k + 1 => by
    unfold cellUp
    by_cases c : X k ≤ x
    · rw [if_pos c]; exact Or.inr c
    · rw [if_neg c]; exact cellUp_at X x k
theorem bound_ge (Y : Nat → Int) : ∀ k i, i < k → -(boundUp Y k) ≤ Y i ∧ Y i ≤ boundUp Y k
  | 0, i, h => by omega
  | k + 1, i, h => by
    unfold boundUp
    by_cases e : i = k
    · rw [e]; omega
    · have := bound_ge Y k i (by omega); omega
theorem bound_in {n : Nat} {X Y : Nat → Int} (R : RightT n X Y) : ∀ k, k ≤ n → 0 ≤ boundUp Y k ∧ boundUp Y k ≤ 4503599627370496
  | 0, _ => by simp [boundUp]
  | k + 1, h => by
    have h1 := bound_in R k (by omega)
    have h2 := R.y k (by omega)
    unfold inT at h2
    unfold boundUp; omega
theorem rq_even {m d : Int} (hd : 0 < d) : rq (m * d) d = m := by
  have h := rq_near (a := m * d) hd
  have e : rq (m * d) d * d - m * d = (rq (m * d) d - m) * d := by grind
  rw [e] at h
  obtain ⟨q, hq⟩ : ∃ q, rq (m * d) d - m = q := ⟨_, rfl⟩
  rw [hq] at h
  have h1 : q ≤ 0 := by
    apply Classical.byContradiction; intro c
    have := Int.mul_le_mul_of_nonneg_right (show 1 ≤ q by omega) (show 0 ≤ d by omega)
    omega
  have h2 : 0 ≤ q := by
    apply Classical.byContradiction; intro c
    have := Int.mul_le_mul_of_nonneg_right (show q ≤ -1 by omega) (show 0 ≤ d by omega)
    omega
  omega
theorem rq_zero {d : Int} (hd : 0 < d) : rq 0 d = 0 := by have := rq_even (m := 0) hd; rwa [Int.zero_mul] at this
theorem rq_part {a d m : Int} (hd : 0 < d) (h0 : 0 ≤ a) (h1 : a ≤ m * d) : 0 ≤ rq a d ∧ rq a d ≤ m := by
  have e0 := rq_mono hd h0
  have e1 := rq_mono hd h1
  rw [rq_zero hd] at e0
  rw [rq_even hd] at e1
  exact ⟨e0, e1⟩
/-- a product with a part of 1 -/
theorem mul_part {D t : Int} (hD : -18014398509481984 ≤ D ∧ D ≤ 18014398509481984) (h0 : 0 ≤ t) (h1 : t ≤ 4294967296) :
    mulO D t = false ∧ mulF D t = rq (D * t) 4294967296 ∧ (0 ≤ D → 0 ≤ mulF D t ∧ mulF D t ≤ D) ∧ (D ≤ 0 → D ≤ mulF D t ∧ mulF D t ≤ 0) := by
  have hp : 0 ≤ D → 0 ≤ rq (D * t) 4294967296 ∧ rq (D * t) 4294967296 ≤ D := fun h =>
    rq_part (by omega) (Int.mul_nonneg h h0) (Int.mul_le_mul_of_nonneg_left h1 h)
  have hn : D ≤ 0 → D ≤ rq (D * t) 4294967296 ∧ rq (D * t) 4294967296 ≤ 0 := fun h => by
    have a1 : D * t ≤ 0 := by have := Int.mul_nonneg (show 0 ≤ -D by omega) h0; have e : -D * t = -(D * t) := by grind
                              omega
    have a2 : D * 4294967296 ≤ D * t := by
      have := Int.mul_le_mul_of_nonneg_left h1 (show 0 ≤ -D by omega)
      have e1 : -D * t = -(D * t) := by grind
      have e2 : -D * 4294967296 = -(D * 4294967296) := by grind
      omega
    have e0 := rq_mono (d := 4294967296) (by omega) a1
    have e1 := rq_mono (d := 4294967296) (by omega) a2
    rw [rq_zero (by omega)] at e0
    rw [rq_even (by omega)] at e1
    exact ⟨e1, e0⟩
  have hi : In64 (rq (D * t) 4294967296) := by
    unfold In64
    rcases Int.le_total 0 D with h | h
    · have := hp h; omega
    · have := hn h; omega
  have hm : mulF D t = rq (D * t) 4294967296 := by unfold mulF quoF; rw [if_neg (by omega)]; exact (clip64_of hi).1
  have ho : mulO D t = false := by unfold mulO quoO; rw [if_neg (by omega)]; exact (clip64_of hi).2
  exact ⟨ho, hm, by rw [hm]; exact hp, by rw [hm]; exact hn⟩
theorem sub_fit {a b : Int} (ha : inT a) (hb : inT b) : subF a b = a - b ∧ subO a b = false := by
  have h : In64 (a - b) := by unfold inT at *; unfold In64; omega
  exact clip64_of h
theorem div_part {p q : Int} (hp : 0 ≤ p) (hq : p < q) (hm : q ≤ 18014398509481984) : divO p q = false ∧ divF p q = rq (p * 4294967296) q ∧ 0 ≤ divF p q ∧ divF p q ≤ 4294967296 := by
  have hpq : p * 4294967296 ≤ 4294967296 * q := by omega
  have h := rq_part (a := p * 4294967296) (d := q) (m := 4294967296) (by omega) (by omega) hpq
  have hi : In64 (rq (p * 4294967296) q) := by unfold In64; omega
  have hm : divF p q = rq (p * 4294967296) q := by unfold divF quoF; rw [if_neg (by omega)]; exact (clip64_of hi).1
  have ho : divO p q = false := by unfold divO quoO; rw [if_neg (by omega)]; exact (clip64_of hi).2
  exact ⟨ho, hm, by rw [hm]; exact h.1, by rw [hm]; exact h.2⟩
theorem mix_part {y z t : Int} (hy : inT y) (hz : inT z) (h0 : 0 ≤ t) (h1 : t ≤ 4294967296) : mixO y z t = false ∧ mixF y z t = y + rq ((z - y) * t) 4294967296 ∧ min y z ≤ mixF y z t ∧ mixF y z t ≤ max y z := by
  obtain ⟨s1, s2⟩ := sub_fit hz hy
  have hD : -18014398509481984 ≤ z - y ∧ z - y ≤ 18014398509481984 := by unfold inT at *; omega
  obtain ⟨m1, m2, m3, m4⟩ := mul_part hD h0 h1
  have hb : min y z ≤ y + mulF (z - y) t ∧ y + mulF (z - y) t ≤ max y z := by
    rcases Int.le_total 0 (z - y) with h | h
    · have := m3 h; omega
    · have := m4 h; omega
  have hi : In64 (y + mulF (z - y) t) := by unfold inT at *; unfold In64; omega
  obtain ⟨c1, c2⟩ := clip64_of hi
  have e : mixF y z t = y + mulF (z - y) t := by unfold mixF addF; rw [s1]; exact c1
  have o : mixO y z t = false := by unfold mixO addO; rw [s1, s2, m1, c2]; rfl
  rw [e]
  exact ⟨o, by rw [m2], hb.1, hb.2⟩
/-- a stretch of a table -/
theorem seg_part {a b y z x : Int} (ha : inT a) (hb : inT b) (hy : inT y) (hz : inT z) (h0 : a ≤ x) (h1 : x < b) :
    segO a b y z x = false ∧ min y z ≤ segF a b y z x ∧ segF a b y z x ≤ max y z ∧ segF a b y z x = y + rq ((z - y) * rq ((x - a) * 4294967296) (b - a)) 4294967296 := by
  have hx : inT x := by unfold inT at *; omega
  obtain ⟨s1, s2⟩ := sub_fit hx ha
  obtain ⟨s3, s4⟩ := sub_fit hb ha
  obtain ⟨d1, d2, d3, d4⟩ := div_part (p := x - a) (q := b - a) (by omega) (by omega) (by unfold inT at *; omega)
  obtain ⟨m1, m2, m3, m4⟩ := mix_part hy hz d3 d4
  unfold segO segF
  rw [s1, s2, s3, s4, d1, m1]
  exact ⟨rfl, m3, m4, by rw [m2, d2]⟩
theorem seg_mono {a b y z x x' : Int} (ha : inT a) (hb : inT b) (hy : inT y) (hz : inT z) (h0 : a ≤ x) (h : x ≤ x') (h1 : x' < b) (hyz : y ≤ z) : segF a b y z x ≤ segF a b y z x' := by
  rw [(seg_part ha hb hy hz h0 (by omega)).2.2.2, (seg_part ha hb hy hz (by omega) h1).2.2.2]
  have e1 := rq_mono (a := (x - a) * 4294967296) (b := (x' - a) * 4294967296) (d := b - a) (by omega) (by omega)
  have e2 := Int.mul_le_mul_of_nonneg_left e1 (show 0 ≤ z - y by omega)
  have e3 := rq_mono (d := 4294967296) (by omega) e2
  omega
theorem seg_at {a b y z : Int} (ha : inT a) (hb : inT b) (hy : inT y) (hz : inT z) (h : a < b) : segF a b y z a = y := by
  rw [(seg_part ha hb hy hz (by omega) h).2.2.2, show (a - a) * 4294967296 = 0 by omega, rq_zero (by omega), Int.mul_zero, rq_zero (by omega)]
  omega
/-- where a number lies in a table that may be -/
theorem eval_cases {n : Nat} {X Y : Nat → Int} (R : RightT n X Y) (x : Int) : cellUp X x (n - 1) + 1 < n ∧ evalO n X Y x = false ∧
    ((x ≤ X 0 ∧ cellUp X x (n - 1) = 0 ∧ evalN n X Y x = Y 0) ∨ (X 0 < x ∧ X (n - 1) ≤ x ∧ cellUp X x (n - 1) + 1 = n - 1 ∧ evalN n X Y x = Y (n - 1)) ∨
      (X (cellUp X x (n - 1)) ≤ x ∧ x < X (cellUp X x (n - 1) + 1) ∧ X 0 < x ∧ x < X (n - 1) ∧ evalN n X Y x = segF (X (cellUp X x (n - 1))) (X (cellUp X x (n - 1) + 1)) (Y (cellUp X x (n - 1))) (Y (cellUp X x (n - 1) + 1)) x)) := by
  have hl := R.lo
  have c1 := cellUp_le X x (n - 1)
  have c2 := cellUp_above X x (n - 1)
  have c3 := cellUp_at X x (n - 1)
  have hc : cellUp X x (n - 1) + 1 < n := by omega
  by_cases h0 : x ≤ X 0
  · have z : cellUp X x (n - 1) = 0 := by
      rcases c3 with g | g
      · exact g
      · apply Classical.byContradiction; intro k
        have := R.mono (show 0 < cellUp X x (n - 1) by omega) (by omega); omega
    refine ⟨hc, by unfold evalO; rw [if_neg (by omega), if_pos h0], Or.inl ⟨h0, z, by unfold evalN; rw [if_neg (by omega), if_pos h0]⟩⟩
  · by_cases h1 : X (n - 1) ≤ x
    · have z : cellUp X x (n - 1) + 1 = n - 1 := by
        apply Classical.byContradiction; intro k
        have g1 := c2 (n - 2) (by omega) (by omega)
        have g2 := R.mono (show n - 2 < n - 1 by omega) (by omega)
        omega
      refine ⟨hc, by unfold evalO; rw [if_neg (by omega), if_neg h0, if_pos h1], Or.inr (Or.inl ⟨by omega, h1, z, by unfold evalN; rw [if_neg (by omega), if_neg h0, if_pos h1]⟩)⟩
    · have g0 : X (cellUp X x (n - 1)) ≤ x := by
        rcases c3 with g | g
        · rw [g]; omega
        · exact g
      have g1 : x < X (cellUp X x (n - 1) + 1) := by
        by_cases k : cellUp X x (n - 1) + 1 < n - 1
        · exact c2 _ (by omega) k
        · have e : cellUp X x (n - 1) + 1 = n - 1 := by omega
          rw [e]; omega
      have S := seg_part (R.x _ (show cellUp X x (n - 1) < n by omega)) (R.x _ hc) (R.y _ (show cellUp X x (n - 1) < n by omega)) (R.y _ hc) g0 g1
      refine ⟨hc, by unfold evalO; rw [if_neg (by omega), if_neg h0, if_neg h1]; exact S.1, Or.inr (Or.inr ⟨g0, g1, by omega, by omega, by unfold evalN; rw [if_neg (by omega), if_neg h0, if_neg h1]⟩)⟩
theorem eval_between {n : Nat} {X Y : Nat → Int} (R : RightT n X Y) (x : Int) : min (Y (cellUp X x (n - 1))) (Y (cellUp X x (n - 1) + 1)) ≤ evalN n X Y x ∧ evalN n X Y x ≤ max (Y (cellUp X x (n - 1))) (Y (cellUp X x (n - 1) + 1)) := by
  obtain ⟨hc, _, h⟩ := eval_cases R x
  rcases h with ⟨_, z, e⟩ | ⟨_, _, z, e⟩ | ⟨g0, g1, _, _, e⟩
  · rw [e, z]; omega
  · rw [e, z]; omega
  · rw [e]
    have S := seg_part (R.x _ (show cellUp X x (n - 1) < n by omega)) (R.x _ hc) (R.y _ (show cellUp X x (n - 1) < n by omega)) (R.y _ hc) g0 g1
    exact ⟨S.2.1, S.2.2.1⟩
theorem eval_bound {n : Nat} {X Y : Nat → Int} (R : RightT n X Y) (x : Int) : -(boundUp Y n) ≤ evalN n X Y x ∧ evalN n X Y x ≤ boundUp Y n := by
  have h := eval_between R x
  have c := (eval_cases R x).1
  have b1 := bound_ge Y n (cellUp X x (n - 1)) (by omega)
  have b2 := bound_ge Y n (cellUp X x (n - 1) + 1) c
  omega
theorem cell_is {n : Nat} {X Y : Nat → Int} (R : RightT n X Y) {i : Nat} {x : Int} (hi : i + 1 < n) (h0 : X i ≤ x) (h1 : x < X (i + 1)) : cellUp X x (n - 1) = i := by
  have c1 := cellUp_le X x (n - 1)
  have c2 := cellUp_above X x (n - 1)
  have c3 := cellUp_at X x (n - 1)
  by_cases g : cellUp X x (n - 1) < i
  · have := c2 i g (by omega); omega
  · by_cases k : i < cellUp X x (n - 1)
    · rcases c3 with z | z
      · omega
      · have := R.le (show i + 1 ≤ cellUp X x (n - 1) by omega) (by omega); omega
    · omega
theorem eval_point {n : Nat} {X Y : Nat → Int} (R : RightT n X Y) {i : Nat} (hi : i < n) : evalN n X Y (X i) = Y i := by
  have hl := R.lo
  obtain ⟨hc, _, h⟩ := eval_cases R (X i)
  rcases h with ⟨h0, _, e⟩ | ⟨_, h1, _, e⟩ | ⟨g0, g1, k0, k1, e⟩
  · have : i = 0 := by
      apply Classical.byContradiction; intro c
      have := R.mono (show 0 < i by omega) hi; omega
    rw [e, this]
  · have : i = n - 1 := by
      apply Classical.byContradiction; intro c
      have := R.mono (show i < n - 1 by omega) (by omega); omega
    rw [e, this]
  · have hi1 : i + 1 < n := by
      apply Classical.byContradiction; intro c
      have : i = n - 1 := by omega
      rw [this] at k1; omega
    have ec := cell_is R hi1 (Int.le_refl _) (R.mono (show i < i + 1 by omega) hi1)
    rw [e, ec]
    exact seg_at (R.x _ hi) (R.x _ hi1) (R.y _ hi) (R.y _ hi1) (R.mono (show i < i + 1 by omega) hi1)
theorem ys_le {n : Nat} {Y : Nat → Int} (up : ∀ i, 0 < i → i < n → Y (i - 1) ≤ Y i) : ∀ (d i : Nat), i + d < n → Y i ≤ Y (i + d)
  | 0, i, _ => by simp
  | d + 1, i, h => by
    have h1 := ys_le up d i (by omega)
    have h2 := up (i + d + 1) (by omega) (by omega)
    have e : i + d + 1 - 1 = i + d := by omega
    rw [e] at h2
    have e2 : i + (d + 1) = i + d + 1 := by omega
    rw [e2]; omega
theorem eval_rises {n : Nat} {X Y : Nat → Int} (R : RightT n X Y) (up : ∀ i, 0 < i → i < n → Y (i - 1) ≤ Y i) {a b : Int} (h : a ≤ b) : evalN n X Y a ≤ evalN n X Y b := by
  have hl := R.lo
  have yl : ∀ {i j : Nat}, i ≤ j → j < n → Y i ≤ Y j := fun {i j} h1 h2 => by
    have := ys_le up (j - i) i (by omega)
    have e : i + (j - i) = j := by omega
    rwa [e] at this
  have A := eval_between R a
  have B := eval_between R b
  obtain ⟨ha, _, ca⟩ := eval_cases R a
  obtain ⟨hb, _, cb⟩ := eval_cases R b
  have ya := yl (show cellUp X a (n - 1) ≤ cellUp X a (n - 1) + 1 by omega) ha
  have yb := yl (show cellUp X b (n - 1) ≤ cellUp X b (n - 1) + 1 by omega) hb
  rcases ca with ⟨_, _, ea⟩ | ⟨a0, a1, za, ea⟩ | ⟨ga0, ga1, ka0, ka1, ea⟩
  · have := yl (show 0 ≤ cellUp X b (n - 1) by omega) (show cellUp X b (n - 1) < n by omega)
    omega
  · rcases cb with ⟨b0, _, _⟩ | ⟨_, _, _, eb⟩ | ⟨_, _, _, kb, _⟩
    · omega
    · rw [ea, eb]; omega
    · omega
  · rcases cb with ⟨b0, _, _⟩ | ⟨_, _, _, eb⟩ | ⟨gb0, gb1, kb0, kb1, eb⟩
    · omega
    · have := yl (show cellUp X a (n - 1) + 1 ≤ n - 1 by omega) (by omega)
      omega
    · by_cases e : cellUp X a (n - 1) = cellUp X b (n - 1)
      · rw [ea, eb, e]
        rw [e] at ga0 ya
        exact seg_mono (R.x _ (by omega)) (R.x _ hb) (R.y _ (by omega)) (R.y _ hb) ga0 h gb1 ya
      · by_cases k : cellUp X a (n - 1) < cellUp X b (n - 1)
        · have := yl (show cellUp X a (n - 1) + 1 ≤ cellUp X b (n - 1) by omega) (by omega)
          omega
        · have := R.le (show cellUp X b (n - 1) + 1 ≤ cellUp X a (n - 1) by omega) (by omega)
          omega
end Go.Proofs.Ytjdhjabbojceeaa

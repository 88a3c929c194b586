/- Laws of fences: near; Ints; what package fence is to tell. -/
import Derived.Test.YtllkhgcokbpggaaVh
import Derived.Test.YtllkhgcokbpggaaVi
import Derived.Test.YtllkhgcokbpggaaBo
import Derived.Test.YtllkhgcokbpggaaBk
namespace Go.Proofs.Ytllkhgcokbpggaa
open Go.RowKit
set_option linter.unusedVariables false
set_option linter.unusedSimpArgs false

/-- an end at most 2^18 off -/
def nrP (s : Ds) (p : Nat) : Prop := (-1125899906842624 ≤ s.x p ∧ s.x p ≤ 1125899906842624) ∧ -1125899906842624 ≤ s.y p ∧ s.y p ≤ 1125899906842624
instance (s : Ds) (p : Nat) : Decidable (nrP s p) := by unfold nrP; exact inferInstance
/-- all ends are -/
def nearT (k : Tk) : Prop := ∀ i, i < k.t.rn → ∀ p, p < (k.R i).n → nrP (k.R i) p
instance (k : Tk) : Decidable (nearT k) := by unfold nearT; exact inferInstance
theorem bJ_in (k : Tk) {j : Nat} : ∀ {m : Nat}, j < barN k m → (bJ k m j).1 < m ∧ (bJ k m j).2 + 1 < (k.R (bJ k m j).1).n
  | 0, h => absurd h (by unfold barN; omega)
  | m + 1, h => by
    have h : j < barN k m + ((k.R m).n - 1) := h
    unfold bJ
    by_cases c : j < barN k m
    · rw [if_pos c]
      have := bJ_in k (m := m) c
      exact ⟨by omega, this.2⟩
    · rw [if_neg c]
      exact ⟨by show m < m + 1; omega, by show j - barN k m + 1 < (k.R m).n; omega⟩
theorem near_bar {k : Tk} (h : nearT k) (i : Nat) (hi : i < barN k k.t.rn) : FvB (barG k i) := by
  obtain ⟨a, b⟩ := bJ_in k hi
  have p := h _ a (bJ k k.t.rn i).2 (by omega)
  have q := h _ a ((bJ k k.t.rn i).2 + 1) b
  exact ⟨p.1, p.2, q.1, q.2⟩
set_option maxRecDepth 100000 in
set_option maxHeartbeats 4000000 in
theorem fnear16_any (k : Tk) (B : Nat) (w : World) (hB : B ≤ w.heap.size) (few : fewR k) (K : TkM B w k) :
    Calls Try.prog 8 #[trkV k.t] w fun e w' => e = .returned (.bool (decide (nearT k))) ∧ Below w.heap.size w w' := by
  have Q0 := Lib.hid (PK.new 34 K hB)
  obtain ⟨q, hq⟩ : ∃ q, decide (nearT k) = q := ⟨_, rfl⟩
  rw [hq]
  have EY := Lib.hid (fun (h : nearT k) => show true = q by rw [← hq]; exact (decide_eq_true h).symm)
  have EN := Lib.hid (fun (i p : Nat) (hi : i < k.t.rn) (hp : p < (k.R i).n) (h : ¬ nrP (k.R i) p) => show false = q by rw [← hq]; exact (decide_eq_false (fun c => h (c i hi p hp))).symm)
  have fr := few.2.1
  have FR := Lib.hid few.2.2.2
  clear K hB hq few
  go_enter Try.func8, Try.ntmps8
  go_wp2_with fail
  refine wp_gen (S := fun W => PK w W B w.heap.size k) Q0.out (fun W1 hS => ?_)
  have Q1 := Lib.hid hS
  clear hS Q0
  go_wp2
  go_loopw [3] (fun i wr => ∃ j : Nat, j ≤ k.t.rn ∧ i = .int .i64 j ∧ PK w wr B w.heap.size k ∧ ∀ i, i < j → ∀ p, p < (k.R i).n → nrP (k.R i) p) (fun i _ => k.t.rn - (intOf i).toNat)
  case atStart => exact ⟨0, by omega, rfl, Q1.out, fun i h => absurd h (by omega)⟩
  case round =>
    obtain ⟨j, hj, rfl, hQ, hA⟩ := hrel
    have Q2 := Lib.hid hQ
    have A2 := Lib.hid hA
    clear hQ hA Q1
    have c9 := Q2.out.c.c 10 _ rfl
    by_cases hlj : j < k.t.rn
    · have z1 : (j : Int) < (k.t.rn : Int) := by omega
      have hn := FR.out j hlj
      go_wp2
      clear c9
      go_loopw [4] (fun i wr => ∃ p : Nat, p ≤ (k.R j).n ∧ i = .int .i64 p ∧ PK w wr B w.heap.size k ∧ ∀ q, q < p → nrP (k.R j) q) (fun i _ => (k.R j).n - (intOf i).toNat)
      case atStart => exact ⟨0, by omega, rfl, Q2.out, fun i h => absurd h (by omega)⟩
      case round =>
        obtain ⟨p, hp, rfl, hQ, hA⟩ := hrel
        have Q3 := Lib.hid hQ
        have A3 := Lib.hid hA
        clear hQ hA Q2
        have c10 := Q3.out.c.c 10 _ rfl
        obtain ⟨rb, ro, hra, hrb, hrc⟩ := Q3.out.t.R (by omega)
        have d0 := hrc j hlj
        rw [hra] at c10
        have z0 : (0 : Int) ≤ (j : Int) := by omega
        have y0 : (0 : Int) ≤ (p : Int) := by omega
        clear hra hrb hrc
        by_cases hlp : p < (k.R j).n
        · obtain ⟨pb, po, hpa, hpb, hpc⟩ := (Q3.out.t.Rs j hlj).at' (by omega)
          obtain ⟨e0, e1⟩ := hpc p hlp
          rw [hpa] at d0
          have y1 : (p : Int) < ((k.R j).n : Int) := by omega
          have N0 := Lib.hid (EN.out j p hlj hlp)
          have ND : nrP (k.R j) p ↔ (-1125899906842624 ≤ (k.R j).x p ∧ (k.R j).x p ≤ 1125899906842624) ∧ -1125899906842624 ≤ (k.R j).y p ∧ (k.R j).y p ≤ 1125899906842624 := Iff.rfl
          have Q4 := Lib.hid (Q3.out.step ((Below.refl _ _).alloc (Nat.le_refl _) (.cells #[.int .i64 ((k.R j).x p), .int .i64 ((k.R j).y p)] 24)))
          clear hpa hpb hpc
          obtain ⟨x, hx⟩ : ∃ x, (k.R j).x p = x := ⟨_, rfl⟩
          obtain ⟨y, hy⟩ : ∃ y, (k.R j).y p = y := ⟨_, rfl⟩
          rw [hx, hy] at ND Q4
          rw [hx] at e0
          rw [hy] at e1
          clear hx hy Q3
          by_cases b1 : 1125899906842624 < x
          · have E := Lib.hid (N0.out (fun h => by have := ND.1 h; omega))
            clear N0 ND
            go_wp2
            go_ret
            exact ⟨by rw [← E.out]; rfl, Q4.out.l⟩
          by_cases b2 : x < -1125899906842624
          · have E := Lib.hid (N0.out (fun h => by have := ND.1 h; omega))
            clear N0 ND
            go_wp2
            go_ret
            exact ⟨by rw [← E.out]; rfl, Q4.out.l⟩
          by_cases b3 : 1125899906842624 < y
          · have E := Lib.hid (N0.out (fun h => by have := ND.1 h; omega))
            clear N0 ND
            go_wp2
            go_ret
            exact ⟨by rw [← E.out]; rfl, Q4.out.l⟩
          by_cases b4 : y < -1125899906842624
          · have E := Lib.hid (N0.out (fun h => by have := ND.1 h; omega))
            clear N0 ND
            go_wp2
            go_ret
            exact ⟨by rw [← E.out]; rfl, Q4.out.l⟩
          have A4 := Lib.hid (show ∀ q, q < p + 1 → nrP (k.R j) q from fun q hq => by
            rcases Nat.lt_or_ge q p with l | l
            · exact A3.out q l
            · have : q = p := by omega
              subst this
              exact ND.2 (by omega))
          clear N0 ND A3
          go_wp2
          go_roundw
          case rel => exact ⟨p + 1, by omega, by go_num, Q4.out, A4.out⟩
          case measure => simp [intOf]; omega
        · have y1 : ¬ (p : Int) < ((k.R j).n : Int) := by omega
          have A4 := Lib.hid (show ∀ i, i < j + 1 → ∀ p, p < (k.R i).n → nrP (k.R i) p from fun i hi => by
            rcases Nat.lt_or_ge i j with l | l
            · exact A2.out i l
            · have : i = j := by omega
              subst this
              intro q hq2
              exact A3.out q (by omega))
          clear A2 A3
          go_wp2
          go_roundw
          case rel => exact ⟨j + 1, by omega, by go_num, Q3.out, A4.out⟩
          case measure => simp [intOf]; omega
    · have z1 : ¬ (j : Int) < (k.t.rn : Int) := by omega
      have E := Lib.hid (EY.out (fun i hi => A2.out i (by omega)))
      go_wp2
      go_ret
      exact ⟨by rw [← E.out]; rfl, Q2.out.l⟩
/-- a list of numbers in memory -/
def IntsL (W : World) (v : Value) (L : List Int) : Prop :=
  ∃ a c, v = .slice a L.length c ∧ (0 < L.length → ∃ b off, a = some ⟨b, off, none⟩ ∧ b < W.heap.size ∧ ∀ i, i < L.length → W.cell? ⟨b, off + i, none⟩ = some (.int .i64 (L.getD i 0)))
theorem IntsL.step {W W' : World} {v : Value} {L : List Int} (h : IntsL W v L) (k : Below W.heap.size W W') : IntsL W' v L := by
  obtain ⟨a, c, e, h⟩ := h
  refine ⟨a, c, e, fun h0 => ?_⟩
  obtain ⟨b, off, ea, hb, hc⟩ := h h0
  exact ⟨b, off, ea, Nat.lt_of_lt_of_le hb k.size, fun i hi => (k.cell (p := ⟨b, off + i, none⟩) hb).trans (hc i hi)⟩
theorem OB.intsL {base : Nat} {W : World} {v : Value} {L : List Int} (h : OB base W v (inVs L)) : IntsL W v L := by
  rcases h with ⟨rfl, e⟩ | ⟨g, cap, rfl, _, hg, _, _, _, _, hx⟩
  · have : L.length = 0 := by rw [← inVs_len, e]; rfl
    exact ⟨none, 0, by rw [this], fun h => absurd h (by omega)⟩
  · refine ⟨_, cap, by rw [inVs_len], fun _ => ⟨g, 0, rfl, hg, fun i hi => ?_⟩⟩
    rw [Nat.zero_add]
    refine hx i _ ?_
    unfold inVs
    rw [List.getElem?_map, List.getD_eq_getElem?_getD, List.getElem?_eq_getElem hi]
    rfl
set_option maxRecDepth 100000 in
set_option maxHeartbeats 2000000 in
theorem ints16_any (u v : Value) (L : List Int) (w : World) (hn : L.length ≤ 2000) (hu : IntsL w u L) (hv : IntsL w v L) :
    Calls Try.prog 12 #[u, v] w fun e w' => e = .returned (.bool true) ∧ Below w.heap.size w w' := by
  obtain ⟨a, c, rfl, ha⟩ := hu
  obtain ⟨a', c', rfl, ha'⟩ := hv
  have HA := Lib.hid ha
  have HB := Lib.hid ha'
  clear ha ha'
  obtain ⟨n, hL⟩ : ∃ n, L.length = n := ⟨_, rfl⟩
  rw [hL] at HA HB hn ⊢
  have nn : ((n : Int) != (n : Int)) = false := by simp
  clear hL
  go_enter Try.func12, Try.ntmps12
  go_wp2
  go_loopw [5] (fun i wr => ∃ j : Nat, j ≤ n ∧ i = .int .i64 j ∧ Below w.heap.size w wr) (fun i _ => n - (intOf i).toNat)
  case atStart => exact ⟨0, by omega, rfl, Below.refl _ _⟩
  case round =>
    obtain ⟨j, hj, rfl, hS⟩ := hrel
    have S1 := Lib.hid hS
    clear hS
    by_cases hlt : j < n
    · obtain ⟨b, off, rfl, hb, hc⟩ := HA.out (by omega)
      obtain ⟨b', off', rfl, hb', hc'⟩ := HB.out (by omega)
      have k0 := (S1.out.cell (p := ⟨b, off + j, none⟩) hb).trans (hc j hlt)
      have k1 := (S1.out.cell (p := ⟨b', off' + j, none⟩) hb').trans (hc' j hlt)
      have z0 : (0 : Int) ≤ (j : Int) := by omega
      have z1 : (j : Int) < (n : Int) := by omega
      generalize L.getD j 0 = m at *
      have mm : (m != m) = false := by simp
      clear hc hc' hb hb'
      go_wp2
      go_quiet (fail)
      go_wp2
      go_roundw
      case rel => exact ⟨j + 1, by omega, by go_num, below_drewN S1.out _⟩
      case measure => simp [intOf]; omega
    · have z1 : ¬ (j : Int) < (n : Int) := by omega
      go_wp2
      go_ret
      exact ⟨rfl, S1.out⟩
/-- the program's fence: it stands as long as the blocks from one number to another do -/
structure FenT where
  P : Nat → Nat → World → Nat → Nat → (Nat → Fv) → Prop
  keep : ∀ {lo top W W' f n g}, P lo top W f n g → W.heap.size ≤ W'.heap.size → (∀ k, lo ≤ k → k < top → W'.heap[k]? = W.heap[k]?) → P lo top W' f n g
  top : ∀ {lo top W f n g}, P lo top W f n g → top ≤ W.heap.size
theorem FenT.step (F : FenT) {lo top : Nat} {W W' : World} {f n : Nat} {g : Nat → Fv} (h : F.P lo top W f n g) (k : Below W.heap.size W W') : F.P lo top W' f n g :=
  F.keep h k.size (fun j _ h2 => k.block j (by have := F.top h; omega))
/-- what package fence tells -/
structure FenceC (F : FenT) : Prop where
  new : ∀ (k : Tk) (B : Nat) (w : World), B ≤ w.heap.size → fewR k → nearT k → TkM B w k → Calls Try.prog 9 #[trkV k.t] w fun e w' => (∃ f, e = .returned (.pointer (some ⟨f, 0, none⟩)) ∧ F.P w.heap.size w'.heap.size w' f (barN k k.t.rn) (barG k)) ∧ Below w.heap.size w w'
  bars : ∀ (n : Nat) (g : Nat → Fv) (lo top f : Nat) (w : World), n ≤ 2000 → F.P lo top w f n g → Calls Try.prog 11 #[.pointer (some ⟨f, 0, none⟩)] w fun e w' => (∃ a c, e = .returned (.slice a n c) ∧ Brs w' a n c g) ∧ Below w.heap.size w w'
  around : ∀ (n : Nat) (g : Nat → Fv) (x y far : Int) (lo top f : Nat) (w : World), n ≤ 2000 → (∀ i, i < n → FvB (g i)) → In64 x ∧ In64 y ∧ In64 far → F.P lo top w f n g → Calls Try.prog 13 #[.pointer (some ⟨f, 0, none⟩), .agg #[.int .i64 x, .int .i64 y], .int .i64 far] w fun e w' => (∃ v, e = .returned v ∧ IntsL w' v (arnI g n x y far)) ∧ Below w.heap.size w w'
  breaks : ∀ (n : Nat) (g : Nat → Fv) (px py qx qy : Int) (lo top f : Nat) (w : World), n ≤ 2000 → (∀ i, i < n → FvB (g i)) → (In64 px ∧ In64 py) ∧ In64 qx ∧ In64 qy → F.P lo top w f n g → Calls Try.prog 16 #[.pointer (some ⟨f, 0, none⟩), .agg #[.int .i64 px, .int .i64 py], .agg #[.int .i64 qx, .int .i64 qy]] w fun e w' => (∃ v, e = .returned v ∧ IntsL w' v (brkI g n px py qx qy)) ∧ Below w.heap.size w w'
  behind : ∀ (n : Nat) (g : Nat → Fv) (x y deep : Int) (lo top f : Nat) (w : World), n ≤ 2000 → (∀ i, i < n → FvB (g i)) → In64 x ∧ In64 y ∧ In64 deep → F.P lo top w f n g → Calls Try.prog 18 #[.pointer (some ⟨f, 0, none⟩), .agg #[.int .i64 x, .int .i64 y], .int .i64 deep] w fun e w' => e = .returned (.tuple #[.int .i64 (behF g n x y deep).1, .int .i64 (behF g n x y deep).2]) ∧ Below w.heap.size w w'
  nilBars : ∀ (w : World), Calls Try.prog 11 #[.pointer none] w fun e w' => (∃ a c, e = .returned (.slice a 0 c)) ∧ Below w.heap.size w w'
  nilBreaks : ∀ (px py qx qy : Int) (w : World), (In64 px ∧ In64 py) ∧ In64 qx ∧ In64 qy → Calls Try.prog 16 #[.pointer none, .agg #[.int .i64 px, .int .i64 py], .agg #[.int .i64 qx, .int .i64 qy]] w fun e w' => (∃ a c, e = .returned (.slice a 0 c)) ∧ Below w.heap.size w w'
end Go.Proofs.Ytllkhgcokbpggaa

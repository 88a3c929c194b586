/- What pane is to tell; the example; few panes. -/
import Derived.Test.YtbpmbdnhfkfkhaaPg
namespace Go.Proofs.Ytbpmbdnhfkfkhaa
open Go.RowKit
set_option linter.unusedVariables false
set_option linter.unusedSimpArgs false

instance (p : Pn) : Decidable (fewP p) := by unfold fewP; exact inferInstance
/-- no part of a pane lies in block b -/
structure PanOff (p : Pn) (b : Nat) : Prop where
  x : p.x.off b
  y : p.y.off b
  a : 0 < p.n → ∀ q, p.a = some q → q.block ≠ b
  r : ∀ i, i < p.n → (p.r i).off b
theorem Pan.off {B : Nat} {w : World} {p : Pn} (K : Pan B w p) {b : Nat} (h : B ≤ b) : PanOff p b :=
  ⟨K.x.off h, K.y.off h, fun h0 q e => by
    obtain ⟨n, o, e2, hb, _⟩ := K.at' h0
    rw [e2] at e; cases e; show n ≠ b; omega, fun i hi => (K.r i hi).off h⟩
theorem Pan.fxo {B b k : Nat} {q : Bool} {W W' : World} {p : Pn} (K : Pan B W p) (h : FxW W.heap.size W b k q W') (hB : B ≤ W.heap.size) (ho : PanOff p b) : Pan B W' p :=
  ⟨K.x.fxo h hB ho.x, K.y.fxo h hB ho.y, K.hm, K.hl, fun h0 => by
    obtain ⟨n, off, e, hb, hc⟩ := K.at' h0
    exact ⟨n, off, e, hb, fun i hi => (h.cell (by show n < W.heap.size; omega) (fun c => ho.a h0 _ e c.symm)).trans (hc i hi)⟩, fun i hi => (K.r i hi).fxo h hB (ho.r i hi)⟩
def smX (i : Nat) : Int := if i = 0 then 0 else 8589934592
def smY (i : Nat) : Int := if i = 0 then 0 else 4294967296
def smR (i : Nat) : Int := if i = 0 then 17179869184 else 25769803776
def smp (n : Nat) : Pn := ⟨⟨some ⟨n, 0, none⟩, 2, 2, smX⟩, ⟨some ⟨n + 1, 0, none⟩, 2, 2, smY⟩, some ⟨n + 4, 0, none⟩, 2, 2, fun i => if i = 0 then ⟨some ⟨n + 2, 0, none⟩, 2, 2, smX⟩ else ⟨some ⟨n + 3, 0, none⟩, 2, 2, smR⟩⟩
theorem nums2 {W : World} {n : Nat} {v : Nat → Int} (B : BW W n [.int .i64 (v 0), .int .i64 (v 1)]) (h : (Lit.int .i64 (v 0)).wf = true ∧ (Lit.int .i64 (v 1)).wf = true) : Nums W.heap.size W ⟨some ⟨n, 0, none⟩, 2, 2, v⟩ :=
  ⟨by show 2 ≤ maxLen; unfold maxLen; decide, Nat.le_refl _, fun i hi => by
    match i, hi with
    | 0, _ => exact h.1
    | 1, _ => exact h.2
    | i + 2, hi => exact absurd hi (by show ¬ i + 2 < 2; omega), fun _ => ⟨n, 0, rfl, B.lt, fun i hi => by
    match i, hi with
    | 0, _ => exact B.c 0 _ rfl
    | 1, _ => exact B.c 1 _ rfl
    | i + 2, hi => exact absurd hi (by show ¬ i + 2 < 2; omega)⟩⟩
theorem smp_pan {W : World} {n : Nat} (b0 : BW W n [.int .i64 0, .int .i64 8589934592]) (b1 : BW W (n + 1) [.int .i64 0, .int .i64 4294967296]) (b2 : BW W (n + 2) [.int .i64 0, .int .i64 8589934592]) (b3 : BW W (n + 3) [.int .i64 17179869184, .int .i64 25769803776])
    (b4 : BW W (n + 4) [.slice (some ⟨n + 2, 0, none⟩) 2 2, .slice (some ⟨n + 3, 0, none⟩) 2 2]) : Pan W.heap.size W (smp n) :=
  ⟨nums2 (v := smX) b0 ⟨by decide, by decide⟩, nums2 (v := smY) b1 ⟨by decide, by decide⟩, by show 2 ≤ maxLen; unfold maxLen; decide, Nat.le_refl _, fun _ => ⟨n + 4, 0, rfl, b4.lt, fun i hi => by
    match i, hi with
    | 0, _ => exact b4.c 0 _ rfl
    | 1, _ => exact b4.c 1 _ rfl
    | i + 2, hi => exact absurd hi (by show ¬ i + 2 < 2; omega)⟩, fun i hi => by
    match i, hi with
    | 0, _ => exact nums2 (v := smX) b2 ⟨by decide, by decide⟩
    | 1, _ => exact nums2 (v := smR) b3 ⟨by decide, by decide⟩
    | i + 2, hi => exact absurd hi (by show ¬ i + 2 < 2; omega)⟩
theorem smp_off {n b : Nat} (h : b < n) : PanOff (smp n) b :=
  ⟨fun _ q e => by cases e; show n ≠ b; omega, fun _ q e => by cases e; show n + 1 ≠ b; omega, fun _ q e => by cases e; show n + 4 ≠ b; omega, fun i hi => by
    match i, hi with
    | 0, _ => exact fun _ q e => by cases e; show n + 2 ≠ b; omega
    | 1, _ => exact fun _ q e => by cases e; show n + 3 ≠ b; omega
    | i + 2, hi => exact absurd hi (by show ¬ i + 2 < 2; omega)⟩
theorem smp_few (n : Nat) : fewP (smp n) := by
  refine ⟨by show 2 ≤ 40; omega, by show 2 ≤ 40; omega, by show 2 ≤ 40; omega, fun i hi => ?_⟩
  match i, hi with
  | 0, _ => show 2 ≤ 40; omega
  | 1, _ => show 2 ≤ 40; omega
  | i + 2, hi => exact absurd hi (by show ¬ i + 2 < 2; omega)
theorem smp_ev0 : paneR (smp 0) = 0 ∧ evalP (smp 0) 4294967296 2147483648 = 12884901888 ∧ lowP (smp 0) = 0 ∧ highP (smp 0) = 25769803776 := by decide +kernel
theorem smp_ev (n : Nat) : paneR (smp n) = 0 ∧ evalP (smp n) 4294967296 2147483648 = 12884901888 ∧ lowP (smp n) = 0 ∧ highP (smp n) = 25769803776 := by
  have h := smp_ev0
  have e : ∀ i, ((smp n).r i).v = ((smp 0).r i).v ∧ ((smp n).r i).n = ((smp 0).r i).n := fun i => by
    show (if i = 0 then (⟨some ⟨n + 2, 0, none⟩, 2, 2, smX⟩ : Sl) else ⟨some ⟨n + 3, 0, none⟩, 2, 2, smR⟩).v = (if i = 0 then (⟨some ⟨0 + 2, 0, none⟩, 2, 2, smX⟩ : Sl) else ⟨some ⟨0 + 3, 0, none⟩, 2, 2, smR⟩).v ∧ (if i = 0 then (⟨some ⟨n + 2, 0, none⟩, 2, 2, smX⟩ : Sl) else ⟨some ⟨n + 3, 0, none⟩, 2, 2, smR⟩).n = (if i = 0 then (⟨some ⟨0 + 2, 0, none⟩, 2, 2, smX⟩ : Sl) else ⟨some ⟨0 + 3, 0, none⟩, 2, 2, smR⟩).n
    by_cases h : i = 0 <;> simp [h]
  have s : paneR (smp n) = 0 := by
    obtain ⟨⟨a, b⟩, ⟨⟨c, d⟩, f⟩, g⟩ := paneR_ok h.1
    unfold paneR
    rw [if_pos ⟨a, fun i hi => by rw [(e i).2]; exact b i hi⟩, if_pos ⟨⟨c, d⟩, fun i hi k hk => by rw [(e i).1]; exact f i hi k (by rw [← (e i).2]; exact hk)⟩, if_pos (show orderP (smp n) from g)]
  refine ⟨s, ?_, ?_, ?_⟩
  · have := h.2.1
    unfold evalP at this ⊢
    rw [if_pos h.1] at this
    rw [if_pos s, ← this]
    have r : rowV (smp n) 4294967296 = rowV (smp 0) 4294967296 := funext fun i => by unfold rowV; rw [(e i).1]; rfl
    rw [r]; rfl
  · have := h.2.2.1
    unfold lowP at this ⊢
    rw [if_pos h.1] at this
    rw [if_pos s, ← this]; rfl
  · have := h.2.2.2
    unfold highP at this ⊢
    rw [if_pos h.1] at this
    rw [if_pos s, ← this]; rfl
def nilP : Pn := ⟨⟨none, 0, 0, fun _ => 0⟩, ⟨none, 0, 0, fun _ => 0⟩, none, 0, 0, fun _ => ⟨none, 0, 0, fun _ => 0⟩⟩
theorem nilP_is (B : Nat) (W : World) : Pan B W nilP ∧ fewP nilP ∧ paneR nilP = 42 :=
  ⟨⟨⟨by show 0 ≤ maxLen; unfold maxLen; decide, Nat.le_refl _, fun i hi => absurd hi (by show ¬ i < 0; omega), fun h => absurd h (by show ¬ 0 < 0; omega)⟩, ⟨by show 0 ≤ maxLen; unfold maxLen; decide, Nat.le_refl _, fun i hi => absurd hi (by show ¬ i < 0; omega), fun h => absurd h (by show ¬ 0 < 0; omega)⟩,
    by show 0 ≤ maxLen; unfold maxLen; decide, Nat.le_refl _, fun h => absurd h (by show ¬ 0 < 0; omega), fun i hi => absurd hi (by show ¬ i < 0; omega)⟩,
   ⟨by show 0 ≤ 40; omega, by show 0 ≤ 40; omega, by show 0 ≤ 40; omega, fun i hi => absurd hi (by show ¬ i < 0; omega)⟩, by decide +kernel⟩
set_option maxHeartbeats 4000000 in
theorem few_any (p : Pn) (B : Nat) (w : World) (hB : B ≤ w.heap.size) (K : Pan B w p) :
    Calls Try.prog 12 #[.agg #[.slice p.x.a p.x.n p.x.c, .slice p.y.a p.y.n p.y.c, .slice p.a p.n p.c]] w fun e w' => e = .returned (.bool (decide (fewP p))) ∧ Below w.heap.size w w' := by
  obtain ⟨f, hf⟩ : ∃ f, decide (fewP p) = f := ⟨_, rfl⟩
  rw [hf]
  have FN := Lib.hid (fun (h : ¬ fewP p) => (show false = f by rw [← hf]; exact (decide_eq_false h).symm))
  have FY := Lib.hid (fun (h : fewP p) => (show true = f by rw [← hf]; exact (decide_eq_true h).symm))
  clear hf
  have Q0 := Lib.hid (PQ.new 33 K hB)
  have hx := K.x.hl
  have hxm := K.x.hm
  have hy := K.y.hl
  have hym := K.y.hm
  have hn := K.hl
  have hnm := K.hm
  unfold maxLen at hxm hym hnm
  clear K
  obtain ⟨⟨xa, xn, xc, xv⟩, ⟨ya, yn, yc, yv⟩, a, n, c, r⟩ := p
  dsimp only at *
  by_cases s1 : 40 < xn
  · have E := Lib.hid (FN.out (fun k => by have := k.1; dsimp only at this; omega))
    clear FN FY
    have g1 : (40 : Int) < xn := by omega
    go_enter Try.func12, Try.ntmps12
    go_wp2
    go_ret
    exact ⟨by rw [← E.out]; rfl, Q0.out.l⟩
  have g1 : ¬ (40 : Int) < xn := by omega
  by_cases s2 : 40 < yn
  · have E := Lib.hid (FN.out (fun k => by have := k.2.1; dsimp only at this; omega))
    clear FN FY
    have g2 : (40 : Int) < yn := by omega
    go_enter Try.func12, Try.ntmps12
    go_wp2
    go_ret
    exact ⟨by rw [← E.out]; rfl, Q0.out.l⟩
  have g2 : ¬ (40 : Int) < yn := by omega
  by_cases s3 : 40 < n
  · have E := Lib.hid (FN.out (fun k => by have := k.2.2.1; dsimp only at this; omega))
    clear FN FY
    have g3 : (40 : Int) < n := by omega
    go_enter Try.func12, Try.ntmps12
    go_wp2
    go_ret
    exact ⟨by rw [← E.out]; rfl, Q0.out.l⟩
  have g3 : ¬ (40 : Int) < n := by omega
  go_enter Try.func12, Try.ntmps12
  go_wp2_with fail
  refine wp_gen (S := fun W => PQ w W B w.heap.size ⟨⟨xa, xn, xc, xv⟩, ⟨ya, yn, yc, yv⟩, a, n, c, r⟩) Q0.out (fun W1 hS => ?_)
  have Q1 := Lib.hid hS
  clear hS Q0
  go_loopw [3] (fun i wr => ∃ j : Nat, j ≤ n ∧ i = .int .i64 j ∧ Hid (∀ k, k < j → (r k).n ≤ 40) ∧ PQ w wr B w.heap.size ⟨⟨xa, xn, xc, xv⟩, ⟨ya, yn, yc, yv⟩, a, n, c, r⟩) (fun i _ => n - (intOf i).toNat)
  case atStart => exact ⟨0, by omega, rfl, Lib.hid (fun k h => absurd h (by omega)), Q1.out⟩
  case round =>
    obtain ⟨j, hj, rfl, I, hQ⟩ := hrel
    have Q2 := Lib.hid hQ
    obtain ⟨c0, c1, c2⟩ := hQ.k.h3
    dsimp only at c0 c1 c2
    clear hQ Q1
    by_cases hlt : j < n
    · obtain ⟨b, off, ha, hb, hcell⟩ := Q2.out.p.at' (by show 0 < n; omega)
      dsimp only at ha hcell
      subst ha
      have c3 := hcell j hlt
      have z0 : (0 : Int) ≤ (j : Int) := by omega
      have z1 : (j : Int) < (n : Int) := by omega
      clear hcell hb
      by_cases he : (r j).n ≤ 40
      · have I2 := Lib.hid (all_next (P := fun k => (r k).n ≤ 40) I.out he)
        have z2 : ¬ (40 : Int) < (((r j).n : Nat) : Int) := by omega
        clear I he
        go_wp2
        go_roundw
        case rel => exact ⟨j + 1, by omega, by go_num, I2, Q2.out⟩
        case measure => simp [intOf]; omega
      · have z2 : (40 : Int) < (((r j).n : Nat) : Int) := by omega
        have E := Lib.hid (FN.out (fun k => he (k.2.2.2 j hlt)))
        clear I he FN FY
        go_wp2
        go_ret
        exact ⟨by rw [← E.out]; rfl, Q2.out.l⟩
    · have E := Lib.hid (FY.out ⟨by show xn ≤ 40; omega, by show yn ≤ 40; omega, by show n ≤ 40; omega, fun k hk => I.out k (by have : k < n := hk; omega)⟩)
      clear I FN FY
      go_wp2
      go_ret
      exact ⟨by rw [← E.out]; rfl, Q2.out.l⟩
end Go.Proofs.Ytbpmbdnhfkfkhaa

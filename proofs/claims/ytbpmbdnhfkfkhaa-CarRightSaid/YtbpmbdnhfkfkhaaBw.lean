/- Contracts of package wide: the sums, signs and orders. -/
import Derived.Test.YtbpmbdnhfkfkhaaProg
import Derived.Test.YtbpmbdnhfkfkhaaBn
import Derived.WalkKit
import Derived.WalkLawsBesides
import Derived.WalkSpells
import Derived.Outline
import Derived.Deep.QuietTactic
import Derived.BigQuiet
import Derived.Lib.Hide
import Derived.Test.YtbpmbdnhfkfkhaaSh
namespace Go.Proofs.Ytbpmbdnhfkfkhaa
open Go.RowKit

theorem retW {h l h' l' : Int} (e1 : h = h') (e2 : l = l') : Ending.returned (.agg #[.int .i64 h, .int .u64 l]) = .returned (.agg #[.int .i64 h', .int .u64 l']) := by rw [e1, e2]
theorem retWB {h l h' l' : Int} {b b' : Bool} (e1 : h = h') (e2 : l = l') (e3 : b = b') : Ending.returned (.tuple #[.agg #[.int .i64 h, .int .u64 l], .bool b]) = .returned (.tuple #[.agg #[.int .i64 h', .int .u64 l'], .bool b']) := by rw [e1, e2, e3]
theorem retI {k : IntKind} {a b : Int} (h : a = b) : Ending.returned (.int k a) = .returned (.int k b) := by rw [h]
theorem retB {a b : Bool} (h : a = b) : Ending.returned (.bool a) = .returned (.bool b) := by rw [h]
theorem retII {k k' : IntKind} {a b c d : Int} (h : a = b) (h' : c = d) : Ending.returned (.tuple #[.int k a, .int k' c]) = .returned (.tuple #[.int k b, .int k' d]) := by rw [h, h']
theorem retIB {k : IntKind} {a b : Int} {c d : Bool} (h : a = b) (h' : c = d) : Ending.returned (.tuple #[.int k a, .bool c]) = .returned (.tuple #[.int k b, .bool d]) := by rw [h, h']
theorem bcell {W w1 : World} (hb : Below W.heap.size W w1) : (∀ b o, b < W.heap.size → w1.cell? ⟨b, o, none⟩ = W.cell? ⟨b, o, none⟩) ∧ (∀ b o, b < W.heap.size → w1.frozen? ⟨b, o, none⟩ = W.frozen? ⟨b, o, none⟩) :=
  ⟨fun b o h => hb.cell (p := ⟨b, o, none⟩) h, fun b o h => hb.frozen (p := ⟨b, o, none⟩) h⟩
theorem below_drewN {B : Nat} {a w : World} (h : Below B a w) (n : Nat) : Below B a (w.drewN n) := ⟨h.os, h.tape, h.output, h.size, h.block⟩

theorem add64 (x y : Int) (hx : 0 ≤ x) (hy : 0 ≤ y) (w : World) :
    (callFunc 92 #[.int .u64 x, .int .u64 y, .int .u64 0]).run Try.prog w =
      .ok (.value (.tuple #[.int .u64 ((x + y) % 18446744073709551616), .int .u64 ((x + y) / 18446744073709551616)])) w := by
  rw [run_callFunc_extern Try.func92 (by kernel_rfl) (by kernel_rfl) (by kernel_rfl) (e := add64Entry) (by kernel_rfl), run_add64 x y 0 hx hy (by omega) (by omega)]
  simp only [Result.andThen, Int.add_zero]

def sub64E : Array Value → Sem Value := fun args => do
  let (x, y, b) ← Extern.MathBitsCarry.three "Sub64" args
  pure (Extern.MathBitsCarry.pair ((x + Extern.MathBitsCarry.m64 - y - b) % Extern.MathBitsCarry.m64) (if x < y + b then 1 else 0))
theorem run_sub64E (x y : Int) (hx : 0 ≤ x) (hy : 0 ≤ y) (hy1 : y ≤ 18446744073709551615) (w : World) :
    (sub64E #[.int .u64 x, .int .u64 y, .int .u64 0]).run Try.prog w = .ok (.tuple #[.int .u64 ((x - y) % 18446744073709551616), .int .u64 (if x < y then 1 else 0)]) w := by
  obtain ⟨X, rfl⟩ := Int.eq_ofNat_of_zero_le hx
  obtain ⟨Y, rfl⟩ := Int.eq_ofNat_of_zero_le hy
  have h : (sub64E #[.int .u64 (X : Int), .int .u64 (Y : Int), .int .u64 0]).run Try.prog w = .ok (Extern.MathBitsCarry.pair ((X + Extern.MathBitsCarry.m64 - Y - 0) % Extern.MathBitsCarry.m64) (if X < Y + 0 then 1 else 0)) w := rfl
  rw [h]
  simp only [Extern.MathBitsCarry.pair, Extern.MathBitsCarry.m64]
  have e1 : Int.ofNat ((X + 2 ^ 64 - Y - 0) % 2 ^ 64) = ((X : Int) - Y) % 18446744073709551616 := by
    rw [Int.ofNat_eq_natCast]; omega
  have e2 : Int.ofNat (if X < Y + 0 then 1 else 0) = if (X : Int) < Y then 1 else 0 := by
    rw [Int.ofNat_eq_natCast]; split <;> split <;> omega
  rw [e1, e2]
theorem sub64 (x y : Int) (hx : 0 ≤ x) (hy : 0 ≤ y) (hy1 : y ≤ 18446744073709551615) (w : World) :
    (callFunc 91 #[.int .u64 x, .int .u64 y, .int .u64 0]).run Try.prog w =
      .ok (.value (.tuple #[.int .u64 ((x - y) % 18446744073709551616), .int .u64 (if x < y then 1 else 0)])) w := by
  rw [run_callFunc_extern Try.func91 (by kernel_rfl) (by kernel_rfl) (by kernel_rfl) (e := sub64E) (by kernel_rfl), run_sub64E x y hx hy hy1]
  simp only [Result.andThen]

theorem Of_any (n : Int) (w : World) (h0 : -9223372036854775808 ≤ n) (h1 : n ≤ 9223372036854775807) :
    Calls Try.prog 69 #[.int .i64 n] w fun e w' => e = .returned (.agg #[.int .i64 (hiW n), .int .u64 (loW n)]) ∧ Below w.heap.size w w' := by
  go_enter Try.func69, Try.ntmps69
  go_wp2
  exact bodyPost_ret (v := .agg #[.int .i64 (n / 9223372036854775808), .int .u64 (IntKind.u64.wrap n)]) (by simp [results, Try.results69, go_sem]) rfl
    ⟨retW (of_hi h0 h1) (by rw [IntKind.wrap_u64]; rfl), (Below.refl _ _).alloc (Nat.le_refl _) _⟩

theorem plus_any (h1 l1 h2 l2 a b : Int) (w : World) (ha : IsW h1 l1 a) (hb : IsW h2 l2 b) :
    Calls Try.prog 86 #[.agg #[.int .i64 h1, .int .u64 l1], .agg #[.int .i64 h2, .int .u64 l2]] w fun e w' => e = .returned (.agg #[.int .i64 (hiW (wr128 (a + b))), .int .u64 (loW (wr128 (a + b)))]) ∧ Below w.heap.size w w' := by
  obtain ⟨a0, a1, a2, a3, rfl⟩ := ha
  obtain ⟨b0, b1, b2, b3, rfl⟩ := hb
  have hs := add64 l1 l2 a2 b2
  go_enter Try.func86, Try.ntmps86
  go_wp2
  refine bodyPost_ret (v := .agg #[.int .i64 (wrap64 (wrap64 (h1 + h2) + (l1 + l2) / 18446744073709551616)), .int .u64 ((l1 + l2) % 18446744073709551616)]) (by simp [results, Try.results86, go_sem]) rfl
    ⟨retW ?_ ?_, (((Below.refl _ _).alloc (Nat.le_refl _) _).alloc (by simp) _).alloc (by simp; omega) _⟩
  · unfold hiW wr128 wrap64; omega
  · unfold loW wr128; omega

theorem minus_any (h1 l1 h2 l2 a b : Int) (w : World) (ha : IsW h1 l1 a) (hb : IsW h2 l2 b) :
    Calls Try.prog 85 #[.agg #[.int .i64 h1, .int .u64 l1], .agg #[.int .i64 h2, .int .u64 l2]] w fun e w' => e = .returned (.agg #[.int .i64 (hiW (wr128 (a - b))), .int .u64 (loW (wr128 (a - b)))]) ∧ Below w.heap.size w w' := by
  obtain ⟨a0, a1, a2, a3, rfl⟩ := ha
  obtain ⟨b0, b1, b2, b3, rfl⟩ := hb
  have hs := sub64 l1 l2 a2 b2 b3
  by_cases hl : l1 < l2
  · simp only [hl, if_true] at hs
    go_enter Try.func85, Try.ntmps85
    go_wp2
    refine bodyPost_ret (v := .agg #[.int .i64 (wrap64 (wrap64 (h1 - h2) - 1)), .int .u64 ((l1 - l2) % 18446744073709551616)]) (by simp [results, Try.results85, go_sem]) rfl
      ⟨retW ?_ ?_, (((Below.refl _ _).alloc (Nat.le_refl _) _).alloc (by simp) _).alloc (by simp; omega) _⟩
    · unfold hiW wr128 wrap64; omega
    · unfold loW wr128; omega
  · simp only [hl, if_false] at hs
    go_enter Try.func85, Try.ntmps85
    go_wp2
    refine bodyPost_ret (v := .agg #[.int .i64 (wrap64 (wrap64 (h1 - h2))), .int .u64 ((l1 - l2) % 18446744073709551616)]) (by simp [results, Try.results85, go_sem]) rfl
      ⟨retW ?_ ?_, (((Below.refl _ _).alloc (Nat.le_refl _) _).alloc (by simp) _).alloc (by simp; omega) _⟩
    · unfold hiW wr128 wrap64; omega
    · unfold loW wr128; omega
end Go.Proofs.Ytbpmbdnhfkfkhaa
namespace Go.Proofs.Ytbpmbdnhfkfkhaa
open Go.RowKit

/-- a number lies in the two cells of block n -/
structure CellW (w : World) (n : Nat) (h l : Int) : Prop where
  c0 : w.cell? ⟨n, 0, none⟩ = some (.int .i64 h)
  c1 : w.cell? ⟨n, 1, none⟩ = some (.int .u64 l)
  f0 : w.frozen? ⟨n, 0, none⟩ = false
  f1 : w.frozen? ⟨n, 1, none⟩ = false
theorem CellW.new (w : World) (h l : Int) (t : TypeId) : CellW (w.alloc (.cells #[.int .i64 h, .int .u64 l] t)) w.heap.size h l :=
  ⟨World.cell?_alloc_new w _ t 0, World.cell?_alloc_new w _ t 1, by go_simp, by go_simp⟩
theorem CellW.below {B : Nat} {w w' : World} {n : Nat} {h l : Int} (k : CellW w n h l) (hb : Below B w w') (hn : n < B) : CellW w' n h l :=
  ⟨(hb.cell (p := ⟨n, 0, none⟩) hn).trans k.c0, (hb.cell (p := ⟨n, 1, none⟩) hn).trans k.c1, (hb.frozen (p := ⟨n, 0, none⟩) hn).trans k.f0, (hb.frozen (p := ⟨n, 1, none⟩) hn).trans k.f1⟩
theorem CellW.alloc {w : World} {n : Nat} {h l : Int} (k : CellW w n h l) (hn : n < w.heap.size) (o : Obj) : CellW (w.alloc o) n h l :=
  k.below (B := w.heap.size) ((Below.refl _ _).alloc (Nat.le_refl _) o) hn
theorem CellW.far {w : World} {n m : Nat} {h l : Int} (k : CellW w n h l) (hn : m ≠ n) (i : Nat) (v : Value) : CellW (w.setCell ⟨m, i, none⟩ v) n h l := by
  have e : ∀ j, (⟨m, i, none⟩ : Addr) ≠ ⟨n, j, none⟩ := fun j e => hn (congrArg Addr.block e)
  exact ⟨(World.cell?_setCell_other _ _ _ _ (e 0)).trans k.c0, (World.cell?_setCell_other _ _ _ _ (e 1)).trans k.c1, (World.frozen?_setCell _ _ _ _).trans k.f0, (World.frozen?_setCell _ _ _ _).trans k.f1⟩
theorem CellW.set {w : World} {n : Nat} {h l : Int} (k : CellW w n h l) (h' l' : Int) : CellW ((w.setCell ⟨n, 0, none⟩ (.int .i64 h')).setCell ⟨n, 1, none⟩ (.int .u64 l')) n h' l' := by
  have e : (⟨n, 1, none⟩ : Addr) ≠ ⟨n, 0, none⟩ := fun e => by have := congrArg Addr.off e; simp at this
  have e' : (⟨n, 0, none⟩ : Addr) ≠ ⟨n, 1, none⟩ := fun e => by have := congrArg Addr.off e; simp at this
  refine ⟨(World.cell?_setCell_other _ _ _ _ e).trans (World.cell?_setCell_same _ _ _ k.c0), World.cell?_setCell_same _ _ _ ((World.cell?_setCell_other _ _ _ _ e').trans k.c1), ?_, ?_⟩
  · exact (World.frozen?_setCell _ _ _ _).trans ((World.frozen?_setCell _ _ _ _).trans k.f0)
  · exact (World.frozen?_setCell _ _ _ _).trans ((World.frozen?_setCell _ _ _ _).trans k.f1)

end Go.Proofs.Ytbpmbdnhfkfkhaa
namespace Go.Proofs.Ytbpmbdnhfkfkhaa
open Go.RowKit

theorem Cmp_any (h1 l1 h2 l2 a b : Int) (w : World) (ha : IsW h1 l1 a) (hb : IsW h2 l2 b) :
    Calls Try.prog 84 #[.agg #[.int .i64 h1, .int .u64 l1], .agg #[.int .i64 h2, .int .u64 l2]] w fun e w' => e = .returned (.int .i64 (cmpI a b)) ∧ Below w.heap.size w w' := by
  have Ha := Lib.hid ha
  have Hb := Lib.hid hb
  obtain ⟨a0, a1, a2, a3, -⟩ := ha
  obtain ⟨b0, b1, b2, b3, -⟩ := hb
  have hB : ∀ (x y : Array Value), Below w.heap.size w ((w.alloc (.cells x 73)).alloc (.cells y 73)) := fun x y => ((Below.refl _ _).alloc (Nat.le_refl _) _).alloc (by simp) _
  have HB := Lib.hid hB
  clear hB
  go_enter Try.func84, Try.ntmps84
  go_wp2
  all_goals go_ret
  all_goals first
    | exact ⟨retI (cmp_eq Ha.out Hb.out (by assumption) (by assumption)).symm, HB.out _ _⟩
    | exact ⟨retI (cmp_lt Ha.out Hb.out (by omega)).symm, HB.out _ _⟩
    | exact ⟨retI (cmp_gt Ha.out Hb.out (by omega)).symm, HB.out _ _⟩

theorem Sign_any (h1 l1 a : Int) (w : World) (ha : IsW h1 l1 a) :
    Calls Try.prog 66 #[.agg #[.int .i64 h1, .int .u64 l1]] w fun e w' => e = .returned (.int .i64 (cmpI a 0)) ∧ Below w.heap.size w w' := by
  go_enter Try.func66, Try.ntmps66
  go_wp2_with fail
  refine (Cmp_any _ _ _ _ _ _ _ ha isW_zero).mono ?_
  rintro e w1 ⟨rfl, hb⟩
  obtain ⟨hc_w1, hf_w1⟩ := bcell hb
  have z_w1 := hb.size
  try simp at z_w1
  have y_w1 : w.heap.size ≤ w1.heap.size := by omega
  go_wp2
  go_ret
  exact ⟨rfl, by repeat (first | exact Below.refl _ _ | assumption | refine Below.setCell ?_ (by first | omega | (simp; done) | (simp; omega)) _ | refine Below.alloc ?_ (by first | omega | (simp; done) | (simp; omega)) _ | refine below_drewN ?_ _ | refine Below.drew ?_ | refine Below.trans ?_ (Below.mono (by assumption) (by first | omega | (simp; done) | (simp; omega))))⟩

theorem size_any (h1 l1 a : Int) (w : World) (ha : IsW h1 l1 a) :
    Calls Try.prog 81 #[.agg #[.int .i64 h1, .int .u64 l1]] w fun e w' => e = .returned (.tuple #[.int .u64 (hiW a.natAbs), .int .u64 (loW a.natAbs)]) ∧ Below w.heap.size w w' := by
  have Ha := Lib.hid ha
  obtain ⟨a0, a1, a2, a3, -⟩ := ha
  by_cases h : h1 < 0
  · go_enter Try.func81, Try.ntmps81
    go_wp2_with fail
    refine (minus_any _ _ _ _ _ _ _ isW_zero Ha.out).mono ?_
    rintro e w1 ⟨rfl, hb⟩
    obtain ⟨hc_w1, hf_w1⟩ := bcell hb
    have z_w1 := hb.size
    try simp at z_w1
    have z0_w1 : w.heap.size < w1.heap.size := by omega
    have y_w1 : w.heap.size ≤ w1.heap.size := by omega
    go_wp2
    go_quiet (fail)
    go_wp2
    go_ret2
    exact ⟨retII (by rw [IntKind.wrap_u64]; exact Ha.out.neg_hi (by omega)) (Ha.out.neg_lo (by omega)), by repeat (first | exact Below.refl _ _ | assumption | refine Below.setCell ?_ (by first | omega | (simp; done) | (simp; omega)) _ | refine Below.alloc ?_ (by first | omega | (simp; done) | (simp; omega)) _ | refine below_drewN ?_ _ | refine Below.drew ?_ | refine Below.trans ?_ (Below.mono (by assumption) (by first | omega | (simp; done) | (simp; omega))))⟩
  · go_enter Try.func81, Try.ntmps81
    go_wp2
    go_quiet (fail)
    go_wp2
    go_ret2
    exact ⟨retII (Ha.out.abs_hi (by omega)) (Ha.out.abs_lo (by omega)), by repeat (first | exact Below.refl _ _ | assumption | refine Below.setCell ?_ (by first | omega | (simp; done) | (simp; omega)) _ | refine Below.alloc ?_ (by first | omega | (simp; done) | (simp; omega)) _ | refine below_drewN ?_ _ | refine Below.drew ?_ | refine Below.trans ?_ (Below.mono (by assumption) (by first | omega | (simp; done) | (simp; omega))))⟩

theorem add_no {h1 l1 h2 l2 a b : Int} (ha : IsW h1 l1 a) (hb : IsW h2 l2 b) (k : h1 < 0 ↔ h2 < 0) (k2 : (!decide (hiW (wr128 (a + b)) < 0) == decide (h2 < 0)) = true) : ¬ In128 (a + b) := by
  obtain ⟨_, _, _, _, rfl⟩ := ha
  obtain ⟨_, _, _, _, rfl⟩ := hb
  unfold In128
  have e : hiW (wr128 (h1 * 18446744073709551616 + l1 + (h2 * 18446744073709551616 + l2))) = (wr128 (h1 * 18446744073709551616 + l1 + (h2 * 18446744073709551616 + l2))) / 18446744073709551616 := rfl
  by_cases q : h2 < 0 <;> by_cases r : hiW (wr128 (h1 * 18446744073709551616 + l1 + (h2 * 18446744073709551616 + l2))) < 0 <;> simp [q, r] at k2 <;> rw [e] at r <;> unfold wr128 at r <;> omega
theorem add_yes {h1 l1 h2 l2 a b : Int} (ha : IsW h1 l1 a) (hb : IsW h2 l2 b) (k2 : (!decide (hiW (wr128 (a + b)) < 0) == decide (h2 < 0)) = false) : In128 (a + b) := by
  obtain ⟨_, _, _, _, rfl⟩ := ha
  obtain ⟨_, _, _, _, rfl⟩ := hb
  unfold In128
  have e : hiW (wr128 (h1 * 18446744073709551616 + l1 + (h2 * 18446744073709551616 + l2))) = (wr128 (h1 * 18446744073709551616 + l1 + (h2 * 18446744073709551616 + l2))) / 18446744073709551616 := rfl
  by_cases q : h2 < 0 <;> by_cases r : hiW (wr128 (h1 * 18446744073709551616 + l1 + (h2 * 18446744073709551616 + l2))) < 0 <;> simp [q, r] at k2 <;> rw [e] at r <;> unfold wr128 at r <;> omega
theorem add_apart {h1 l1 h2 l2 a b : Int} (ha : IsW h1 l1 a) (hb : IsW h2 l2 b) (k : ¬ (h1 < 0 ↔ h2 < 0)) : In128 (a + b) := by
  obtain ⟨_, _, _, _, rfl⟩ := ha
  obtain ⟨_, _, _, _, rfl⟩ := hb
  unfold In128
  by_cases q : h2 < 0
  · simp [q] at k; omega
  · simp [q] at k; omega
theorem clip_yes {n : Int} (k : In128 n) : wr128 n = clipW n ∧ true = fitW n := by
  refine ⟨by rw [wr128_of k, clipW, if_pos k], by simp [fitW, k]⟩
theorem clip_no {n : Int} (k : ¬ In128 n) : 0 = hiW (clipW n) ∧ 0 = loW (clipW n) ∧ false = fitW n := by
  rw [clipW, if_neg k]
  exact ⟨by unfold hiW; omega, by unfold loW; omega, by simp [fitW, k]⟩

set_option maxHeartbeats 400000 in
theorem Add_any (h1 l1 h2 l2 a b : Int) (w : World) (ha : IsW h1 l1 a) (hb : IsW h2 l2 b) :
    Calls Try.prog 70 #[.agg #[.int .i64 h1, .int .u64 l1], .agg #[.int .i64 h2, .int .u64 l2]] w fun e w' => e = .returned (.tuple #[.agg #[.int .i64 (hiW (clipW (a + b))), .int .u64 (loW (clipW (a + b)))], .bool (fitW (a + b))]) ∧ Below w.heap.size w w' := by
  have Ha := Lib.hid ha
  have Hb := Lib.hid hb
  clear ha hb
  go_enter Try.func70, Try.ntmps70
  go_wp2_with fail
  refine (plus_any _ _ _ _ _ _ _ Ha.out Hb.out).mono ?_
  rintro e w1 ⟨rfl, hb⟩
  obtain ⟨hc_w1, hf_w1⟩ := bcell hb
  have z_w1 := hb.size
  try simp at z_w1
  have z0_w1 : w.heap.size < w1.heap.size := by omega
  have z1_w1 : w.heap.size + 1 < w1.heap.size := by omega
  have z2_w1 : w.heap.size + 1 + 1 < w1.heap.size := by omega
  have y_w1 : w.heap.size ≤ w1.heap.size := by omega
  go_wp2
  · have k := clip_no (add_no Ha.out Hb.out (by assumption) (by assumption))
    exact bodyPost_ret (v := .tuple #[.agg #[.int .i64 0, .int .u64 0], .bool false]) (by simp [results, Try.results70, go_sem, z2_w1, hc_w1]) rfl ⟨retWB k.1 k.2.1 k.2.2, by repeat (first | exact Below.refl _ _ | assumption | refine Below.setCell ?_ (by first | omega | (simp; done) | (simp; omega)) _ | refine Below.alloc ?_ (by first | omega | (simp; done) | (simp; omega)) _ | refine below_drewN ?_ _ | refine Below.drew ?_ | refine Below.trans ?_ (Below.mono (by assumption) (by first | omega | (simp; done) | (simp; omega))))⟩
  · have k := clip_yes (add_yes Ha.out Hb.out (by assumption))
    exact bodyPost_ret (v := .tuple #[.agg #[.int .i64 (hiW (wr128 (a + b))), .int .u64 (loW (wr128 (a + b)))], .bool true]) (by simp [results, Try.results70, go_sem, z2_w1, hc_w1]) rfl ⟨by rw [← k.1, ← k.2], by repeat (first | exact Below.refl _ _ | assumption | refine Below.setCell ?_ (by first | omega | (simp; done) | (simp; omega)) _ | refine Below.alloc ?_ (by first | omega | (simp; done) | (simp; omega)) _ | refine below_drewN ?_ _ | refine Below.drew ?_ | refine Below.trans ?_ (Below.mono (by assumption) (by first | omega | (simp; done) | (simp; omega))))⟩
  · have k := clip_yes (add_apart Ha.out Hb.out (by assumption))
    exact bodyPost_ret (v := .tuple #[.agg #[.int .i64 (hiW (wr128 (a + b))), .int .u64 (loW (wr128 (a + b)))], .bool true]) (by simp [results, Try.results70, go_sem, z2_w1, hc_w1]) rfl ⟨by rw [← k.1, ← k.2], by repeat (first | exact Below.refl _ _ | assumption | refine Below.setCell ?_ (by first | omega | (simp; done) | (simp; omega)) _ | refine Below.alloc ?_ (by first | omega | (simp; done) | (simp; omega)) _ | refine below_drewN ?_ _ | refine Below.drew ?_ | refine Below.trans ?_ (Below.mono (by assumption) (by first | omega | (simp; done) | (simp; omega))))⟩
end Go.Proofs.Ytbpmbdnhfkfkhaa
namespace Go.Proofs.Ytbpmbdnhfkfkhaa
open Go.RowKit

theorem neg_not {h l n : Int} (k : IsW h l n) (k0 : h = -9223372036854775808) (k1 : l = 0) : ¬ In128 (-n) := by
  obtain ⟨_, _, _, _, rfl⟩ := k
  unfold In128; omega
theorem neg_in {h l n : Int} (k : IsW h l n) (k0 : ¬ (h = -9223372036854775808 ∧ l = 0)) : In128 (-n) := by
  obtain ⟨_, _, _, _, rfl⟩ := k
  unfold In128; omega

theorem Neg_any (h1 l1 a : Int) (w : World) (ha : IsW h1 l1 a) :
    Calls Try.prog 68 #[.agg #[.int .i64 h1, .int .u64 l1]] w fun e w' => e = .returned (.tuple #[.agg #[.int .i64 (hiW (clipW (-a))), .int .u64 (loW (clipW (-a)))], .bool (fitW (-a))]) ∧ Below w.heap.size w w' := by
  have Ha := Lib.hid ha
  clear ha
  by_cases p : h1 = -9223372036854775808 ∧ l1 = 0
  · obtain ⟨rfl, rfl⟩ := p
    have K := Lib.hid (clip_no (neg_not Ha.out rfl rfl))
    go_enter Try.func68, Try.ntmps68
    go_wp2
    exact bodyPost_ret (v := .tuple #[.agg #[.int .i64 0, .int .u64 0], .bool false]) (by simp [results, Try.results68, go_sem]) rfl ⟨retWB K.out.1 K.out.2.1 K.out.2.2, by repeat (first | exact Below.refl _ _ | assumption | refine Below.setCell ?_ (by first | omega | (simp; done) | (simp; omega)) _ | refine Below.alloc ?_ (by first | omega | (simp; done) | (simp; omega)) _ | refine below_drewN ?_ _ | refine Below.drew ?_ | refine Below.trans ?_ (Below.mono (by assumption) (by first | omega | (simp; done) | (simp; omega))))⟩
  · have K := Lib.hid (clip_yes (neg_in Ha.out p))
    by_cases p1 : h1 = -9223372036854775808
    · subst p1
      have p2 : (l1 == 0) = false := by simpa using p
      clear p
      go_enter Try.func68, Try.ntmps68
      go_wp2_with fail
      refine (minus_any _ _ _ _ _ _ _ isW_zero Ha.out).mono ?_
      rintro e w1 ⟨rfl, hb⟩
      obtain ⟨hc_w1, hf_w1⟩ := bcell hb
      have z_w1 := hb.size
      try simp at z_w1
      have z0_w1 : w.heap.size < w1.heap.size := by omega
      have z1_w1 : w.heap.size + 1 < w1.heap.size := by omega
      have y_w1 : w.heap.size ≤ w1.heap.size := by omega
      go_wp2
      exact bodyPost_ret (v := .tuple #[.agg #[.int .i64 (hiW (wr128 (-a))), .int .u64 (loW (wr128 (-a)))], .bool true]) (by simp [results, Try.results68, go_sem, hc_w1]) rfl ⟨by rw [← K.out.1, ← K.out.2], by repeat (first | exact Below.refl _ _ | assumption | refine Below.setCell ?_ (by first | omega | (simp; done) | (simp; omega)) _ | refine Below.alloc ?_ (by first | omega | (simp; done) | (simp; omega)) _ | refine below_drewN ?_ _ | refine Below.drew ?_ | refine Below.trans ?_ (Below.mono (by assumption) (by first | omega | (simp; done) | (simp; omega))))⟩
    · have p2 : (h1 == -9223372036854775808) = false := by simpa using p1
      clear p p1
      go_enter Try.func68, Try.ntmps68
      go_wp2_with fail
      refine (minus_any _ _ _ _ _ _ _ isW_zero Ha.out).mono ?_
      rintro e w1 ⟨rfl, hb⟩
      obtain ⟨hc_w1, hf_w1⟩ := bcell hb
      have z_w1 := hb.size
      try simp at z_w1
      have z0_w1 : w.heap.size < w1.heap.size := by omega
      have z1_w1 : w.heap.size + 1 < w1.heap.size := by omega
      have y_w1 : w.heap.size ≤ w1.heap.size := by omega
      go_wp2
      exact bodyPost_ret (v := .tuple #[.agg #[.int .i64 (hiW (wr128 (-a))), .int .u64 (loW (wr128 (-a)))], .bool true]) (by simp [results, Try.results68, go_sem, hc_w1]) rfl ⟨by rw [← K.out.1, ← K.out.2], by repeat (first | exact Below.refl _ _ | assumption | refine Below.setCell ?_ (by first | omega | (simp; done) | (simp; omega)) _ | refine Below.alloc ?_ (by first | omega | (simp; done) | (simp; omega)) _ | refine below_drewN ?_ _ | refine Below.drew ?_ | refine Below.trans ?_ (Below.mono (by assumption) (by first | omega | (simp; done) | (simp; omega))))⟩

theorem signed_any (n : Int) (b : Bool) (w : World) (n0 : 0 ≤ n) (n1 : n ≤ 18446744073709551615) :
    Calls Try.prog 83 #[.int .u64 n, .bool b] w fun e w' => e = .returned (.tuple #[.int .i64 (sgnI n b), .bool (sgnB n b)]) ∧ w' = w := by
  cases b
  · by_cases h : n < 9223372036854775808
    · have K1 := Lib.hid (show n = sgnI n false by unfold sgnI; rw [if_neg (by decide), if_pos h])
      have K2 := Lib.hid (show true = sgnB n false by unfold sgnB; rw [if_neg (by decide)]; simp [h])
      go_enter Try.func83, Try.ntmps83
      go_wp2
      go_ret2
      exact ⟨retIB K1.out K2.out, rfl⟩
    · have K1 := Lib.hid (show 0 = sgnI n false by unfold sgnI; rw [if_neg (by decide), if_neg h])
      have K2 := Lib.hid (show false = sgnB n false by unfold sgnB; rw [if_neg (by decide)]; simp [h])
      go_enter Try.func83, Try.ntmps83
      go_wp2
      go_ret2
      exact ⟨retIB K1.out K2.out, rfl⟩
  · by_cases h : n ≤ 9223372036854775808
    · have K1 := Lib.hid (show -n = sgnI n true by unfold sgnI; rw [if_pos rfl, if_pos h])
      have K2 := Lib.hid (show true = sgnB n true by unfold sgnB; rw [if_pos rfl]; simp [h])
      go_enter Try.func83, Try.ntmps83
      go_wp2
      go_ret2
      exact ⟨retIB (by rw [← K1.out]; unfold wrap64; omega) K2.out, rfl⟩
    · have K1 := Lib.hid (show 0 = sgnI n true by unfold sgnI; rw [if_pos rfl, if_neg h])
      have K2 := Lib.hid (show false = sgnB n true by unfold sgnB; rw [if_pos rfl]; simp [h])
      go_enter Try.func83, Try.ntmps83
      go_wp2
      go_ret2
      exact ⟨retIB K1.out K2.out, rfl⟩

theorem Mul64_any (x y : Int) (w : World) (x0 : 0 ≤ x) (x1 : x ≤ 18446744073709551615) (y0 : 0 ≤ y) (y1 : y ≤ 18446744073709551615) :
    Calls Try.prog 67 #[.int .u64 x, .int .u64 y] w fun e w' => e = .returned (.tuple #[.int .u64 (x * y / 18446744073709551616), .int .u64 (x * y % 18446744073709551616)]) ∧ w' = w := by
  obtain ⟨X, rfl⟩ := Int.eq_ofNat_of_zero_le x0
  obtain ⟨Y, rfl⟩ := Int.eq_ofNat_of_zero_le y0
  exact Try.bits_Mul64 X Y (by omega) (by omega) w

/-- Mul64 at wrapped factors, its product under a name -/
theorem Mul64_w (a b x y : Int) (w : World) (ex : x = a ∧ 0 ≤ a ∨ x = a + 18446744073709551616 ∧ a < 0) (ey : y = b ∧ 0 ≤ b ∨ y = b + 18446744073709551616 ∧ b < 0)
    (a0 : -9223372036854775808 ≤ a) (a1 : a ≤ 9223372036854775807) (b0 : -9223372036854775808 ≤ b) (b1 : b ≤ 9223372036854775807) (X Y : Int) (hX : X = x) (hY : Y = y) :
    Calls Try.prog 67 #[.int .u64 X, .int .u64 Y] w fun e w' => ∃ p q : Int, e = .returned (.tuple #[.int .u64 p, .int .u64 q]) ∧ w' = w ∧ 0 ≤ p ∧ p ≤ 18446744073709551615 ∧ 0 ≤ q ∧ q ≤ 18446744073709551615 ∧ Hid (p * 18446744073709551616 + q = x * y) := by
  subst hX hY
  refine (Mul64_any X Y w (by omega) (by omega) (by omega) (by omega)).mono fun e w' h => ?_
  have hn : 0 ≤ X * Y := Int.mul_nonneg (by omega) (by omega)
  have hl : X * Y ≤ 18446744073709551615 * 18446744073709551615 := Int.mul_le_mul (by omega) (by omega) (by omega) (by omega)
  exact ⟨_, _, h.1, h.2, by omega, by omega, by omega, by omega, Lib.hid (by omega)⟩

theorem mul_pp {a b p q : Int} (h : p * 18446744073709551616 + q = a * b) (q0 : 0 ≤ q) (q1 : q ≤ 18446744073709551615) (a0 : 0 ≤ a) (a1 : a ≤ 9223372036854775807) (b0 : 0 ≤ b) (b1 : b ≤ 9223372036854775807) : wrap64 p = hiW (a * b) ∧ q = loW (a * b) := by
  have hl : a * b ≤ 9223372036854775807 * 9223372036854775807 := Int.mul_le_mul (by omega) (by omega) (by omega) (by omega)
  have hn : 0 ≤ a * b := Int.mul_nonneg (by omega) (by omega)
  unfold hiW loW wrap64; omega
theorem mul_bound {a b : Int} (a0 : -9223372036854775808 ≤ a) (a1 : a ≤ 9223372036854775808) (b0 : -9223372036854775808 ≤ b) (b1 : b ≤ 9223372036854775808) : -85070591730234615865843651857942052864 ≤ a * b ∧ a * b ≤ 85070591730234615865843651857942052864 := by
  have h1 : (a * b).natAbs ≤ 9223372036854775808 * 9223372036854775808 := by
    rw [Int.natAbs_mul]
    exact Nat.mul_le_mul (by omega) (by omega)
  omega
theorem mul_np {a b p q : Int} (h : p * 18446744073709551616 + q = (a + 18446744073709551616) * b) (q0 : 0 ≤ q) (q1 : q ≤ 18446744073709551615) (a0 : -9223372036854775808 ≤ a) (a1 : a < 0) (b0 : 0 ≤ b) (b1 : b ≤ 9223372036854775807) : wrap64 (IntKind.u64.wrap (p - b)) = hiW (a * b) ∧ q = loW (a * b) := by
  have hb := mul_bound (a := a) (b := b) (by omega) (by omega) (by omega) (by omega)
  rw [Int.add_mul] at h
  rw [IntKind.wrap_u64]
  unfold hiW loW wrap64; omega
theorem mul_pn {a b p q : Int} (h : p * 18446744073709551616 + q = a * (b + 18446744073709551616)) (q0 : 0 ≤ q) (q1 : q ≤ 18446744073709551615) (a0 : 0 ≤ a) (a1 : a ≤ 9223372036854775807) (b0 : -9223372036854775808 ≤ b) (b1 : b < 0) : wrap64 (IntKind.u64.wrap (p - a)) = hiW (a * b) ∧ q = loW (a * b) := by
  rw [Int.mul_comm a] at h
  rw [Int.mul_comm a b]
  exact mul_np h q0 q1 b0 b1 a0 a1
theorem mul_nn {a b p q : Int} (h : p * 18446744073709551616 + q = (a + 18446744073709551616) * (b + 18446744073709551616)) (q0 : 0 ≤ q) (q1 : q ≤ 18446744073709551615) (a0 : -9223372036854775808 ≤ a) (a1 : a < 0) (b0 : -9223372036854775808 ≤ b) (b1 : b < 0) :
    wrap64 (IntKind.u64.wrap (IntKind.u64.wrap (p - IntKind.u64.wrap b) - IntKind.u64.wrap a)) = hiW (a * b) ∧ q = loW (a * b) := by
  have hb := mul_bound (a := a) (b := b) (by omega) (by omega) (by omega) (by omega)
  rw [Int.add_mul, Int.mul_add] at h
  rw [IntKind.wrap_u64, IntKind.wrap_u64, IntKind.wrap_u64, IntKind.wrap_u64]
  unfold hiW loW wrap64; omega

set_option maxHeartbeats 1000000 in
theorem Mul_any (a b : Int) (w : World) (a0 : -9223372036854775808 ≤ a) (a1 : a ≤ 9223372036854775807) (b0 : -9223372036854775808 ≤ b) (b1 : b ≤ 9223372036854775807) :
    Calls Try.prog 50 #[.int .i64 a, .int .i64 b] w fun e w' => e = .returned (.agg #[.int .i64 (hiW (a * b)), .int .u64 (loW (a * b))]) ∧ Below w.heap.size w w' := by
  by_cases p : a < 0 <;> by_cases q : b < 0
  · go_enter Try.func50, Try.ntmps50
    go_wp2_with fail
    refine (Mul64_w a b (a + 18446744073709551616) (b + 18446744073709551616) _ (.inr ⟨rfl, p⟩) (.inr ⟨rfl, q⟩) a0 a1 b0 b1 _ _ (by rw [IntKind.wrap_u64]; omega) (by rw [IntKind.wrap_u64]; omega)).mono ?_
    rintro e w1 ⟨x, y, rfl, rfl, x0, x1, y0, y1, H⟩
    go_wp2
    exact bodyPost_ret (v := .agg #[.int .i64 (hiW (a * b)), .int .u64 (loW (a * b))]) (by simp [results, Try.results50, go_sem]; exact mul_nn H.out y0 y1 a0 (by omega) b0 (by omega)) rfl ⟨rfl, by repeat (first | exact Below.refl _ _ | assumption | refine Below.setCell ?_ (by first | omega | (simp; done) | (simp; omega)) _ | refine Below.alloc ?_ (by first | omega | (simp; done) | (simp; omega)) _ | refine below_drewN ?_ _ | refine Below.drew ?_ | refine Below.trans ?_ (Below.mono (by assumption) (by first | omega | (simp; done) | (simp; omega))))⟩
  · go_enter Try.func50, Try.ntmps50
    go_wp2_with fail
    refine (Mul64_w a b (a + 18446744073709551616) b _ (.inr ⟨rfl, p⟩) (.inl ⟨rfl, by omega⟩) a0 a1 b0 b1 _ _ (by rw [IntKind.wrap_u64]; omega) (by first | rfl | (rw [IntKind.wrap_u64]; omega))).mono ?_
    rintro e w1 ⟨x, y, rfl, rfl, x0, x1, y0, y1, H⟩
    go_wp2
    exact bodyPost_ret (v := .agg #[.int .i64 (hiW (a * b)), .int .u64 (loW (a * b))]) (by simp [results, Try.results50, go_sem]; exact mul_np H.out y0 y1 a0 (by omega) (by omega) b1) rfl ⟨rfl, by repeat (first | exact Below.refl _ _ | assumption | refine Below.setCell ?_ (by first | omega | (simp; done) | (simp; omega)) _ | refine Below.alloc ?_ (by first | omega | (simp; done) | (simp; omega)) _ | refine below_drewN ?_ _ | refine Below.drew ?_ | refine Below.trans ?_ (Below.mono (by assumption) (by first | omega | (simp; done) | (simp; omega))))⟩
  · go_enter Try.func50, Try.ntmps50
    go_wp2_with fail
    refine (Mul64_w a b a (b + 18446744073709551616) _ (.inl ⟨rfl, by omega⟩) (.inr ⟨rfl, q⟩) a0 a1 b0 b1 _ _ (by first | rfl | (rw [IntKind.wrap_u64]; omega)) (by rw [IntKind.wrap_u64]; omega)).mono ?_
    rintro e w1 ⟨x, y, rfl, rfl, x0, x1, y0, y1, H⟩
    go_wp2
    exact bodyPost_ret (v := .agg #[.int .i64 (hiW (a * b)), .int .u64 (loW (a * b))]) (by simp [results, Try.results50, go_sem]; exact mul_pn H.out y0 y1 (by omega) a1 b0 (by omega)) rfl ⟨rfl, by repeat (first | exact Below.refl _ _ | assumption | refine Below.setCell ?_ (by first | omega | (simp; done) | (simp; omega)) _ | refine Below.alloc ?_ (by first | omega | (simp; done) | (simp; omega)) _ | refine below_drewN ?_ _ | refine Below.drew ?_ | refine Below.trans ?_ (Below.mono (by assumption) (by first | omega | (simp; done) | (simp; omega))))⟩
  · go_enter Try.func50, Try.ntmps50
    go_wp2_with fail
    refine (Mul64_w a b a b _ (.inl ⟨rfl, by omega⟩) (.inl ⟨rfl, by omega⟩) a0 a1 b0 b1 _ _ (by first | rfl | (rw [IntKind.wrap_u64]; omega)) (by first | rfl | (rw [IntKind.wrap_u64]; omega))).mono ?_
    rintro e w1 ⟨x, y, rfl, rfl, x0, x1, y0, y1, H⟩
    go_wp2
    exact bodyPost_ret (v := .agg #[.int .i64 (hiW (a * b)), .int .u64 (loW (a * b))]) (by simp [results, Try.results50, go_sem]; exact mul_pp H.out y0 y1 (by omega) a1 (by omega) b1) rfl ⟨rfl, by repeat (first | exact Below.refl _ _ | assumption | refine Below.setCell ?_ (by first | omega | (simp; done) | (simp; omega)) _ | refine Below.alloc ?_ (by first | omega | (simp; done) | (simp; omega)) _ | refine below_drewN ?_ _ | refine Below.drew ?_ | refine Below.trans ?_ (Below.mono (by assumption) (by first | omega | (simp; done) | (simp; omega))))⟩
end Go.Proofs.Ytbpmbdnhfkfkhaa
namespace Go.Proofs.Ytbpmbdnhfkfkhaa
open Go.RowKit

set_option maxHeartbeats 4000000 in
set_option maxRecDepth 100000 in
theorem Div64_great (h l y : Int) (w : World) (h0 : 1 ≤ h) (h1 : h < y) (l0 : 0 ≤ l) (l1 : l ≤ 18446744073709551615) (y1 : y ≤ 18446744073709551615) :
    Calls Try.prog 82 #[.int .u64 h, .int .u64 l, .int .u64 y] w fun e w' => e = .returned (.tuple #[.int .u64 ((h * 18446744073709551616 + l) / y), .int .u64 ((h * 18446744073709551616 + l) % y)]) ∧ w' = w := by
  have t1 : (y == 0) = false := by simp; omega
  have t2 : (h == 0) = false := by simp; omega
  have t3 : ¬ y ≤ h := by omega
  obtain ⟨k, v, hh, lt, u, ll, e1, e2, e3, e4, e5, e6, N⟩ := norm_of h l y (by omega) h1 l0 l1 y1
  have E1 := Lib.hid e1
  clear e1
  go_enter Try.func82, Try.ntmps82
  go_wp2_with fail
  refine (Try.bits_LeadingZeros64 y _ (by omega) (by omega)).mono ?_
  rintro e w1 ⟨rfl, rfl⟩
  rw [E1.out]
  have k1 := N.k1
  have v0 := N.v0
  have v1 := N.v1
  have f1 := and_mask32 v (by omega) v1
  have f2 := and_mask32 ll N.ll0 N.ll1
  have hu0 := N.u0
  have hll0 := N.ll0
  have hll1 := N.ll1
  have hlt0 := N.lt0
  have hhh0 := N.hh0
  obtain ⟨q1, Q1⟩ : ∃ q1, KnQ u (ll / 4294967296) (v / 4294967296) (v % 4294967296) q1 := ⟨_, KnQ.mk' N.u0 (by omega) (by omega) (by omega) (by omega) (by omega) (by omega) (by have := N.uv; omega)⟩
  obtain ⟨a1, p1, b1, g1, g2, g3, K1⟩ := kn_start_w Q1 (by have := N.uv; omega)
  obtain ⟨x1, x2, x3, r1, i1, i2, i3, i4, I1, r10, r11⟩ := kn_rest_w Q1
  obtain ⟨q2, Q2⟩ : ∃ q2, KnQ r1 (ll % 4294967296) (v / 4294967296) (v % 4294967296) q2 := ⟨_, KnQ.mk' r10 (by omega) (by omega) (by omega) (by omega) (by omega) (by omega) (by omega)⟩
  obtain ⟨a2, p2, b2, g4, g5, g6, K2⟩ := kn_start_w Q2 (by omega)
  obtain ⟨z1, z2, z3, r2, j1, j2, j3, j4, J1, r20, r21⟩ := kn_rest_w Q2
  have q10 := Q1.q0
  have q11 := Q1.q1
  have q20 := Q2.q0
  have q21 := Q2.q1
  have A := kn_all (n := h * 18446744073709551616 + l) (y := y) (p := 2 ^ k) (Int.pow_pos (by omega)) N.ev (by omega) (by rw [N.en]; omega) I1.out J1.out r20 r21
  have HA := Lib.hid A
  clear A
  have v10 := Q1.v10
  go_wp2
  go_loop [15, 16] (fun s t => ∃ a b : Int, s = .int .u64 a ∧ t = .int .u64 b ∧ Kn u (v / 4294967296) q1 a b) (fun s _ => (intOf s).toNat)
  case atStart => exact ⟨a1, b1, rfl, rfl, K1⟩
  case round =>
    obtain ⟨a, b, rfl, rfl, K⟩ := hrel
    have ha0 := Kn.a0 Q1 K
    have ha1 := K.a1
    have hb0 := K.b0
    have hb1 := K.b1
    have hqa := K.qa
    by_cases ta : 4294967296 ≤ a
    · by_cases c : 4294967296 ≤ b + v / 4294967296
      · have hq := Kn.broke Q1 K (.inl ta) c
        go_wp2
        clear K ha0 ha1 hb0 hb1 hqa
        go_loop [18, 16] (fun s t => ∃ a b : Int, s = .int .u64 a ∧ t = .int .u64 b ∧ Kn r1 (v / 4294967296) q2 a b) (fun s _ => (intOf s).toNat)
        case atStart => exact ⟨a2, b2, rfl, rfl, K2⟩
        case round =>
          obtain ⟨a, b, rfl, rfl, K⟩ := hrel
          have ha0 := Kn.a0 Q2 K
          have ha1 := K.a1
          have hb0 := K.b0
          have hb1 := K.b1
          have hqa := K.qa
          by_cases ta : 4294967296 ≤ a
          · by_cases c : 4294967296 ≤ b + v / 4294967296
            · have hq := Kn.broke Q2 K (.inl ta) c
              go_wp2
              go_ret2
              exact ⟨retII HA.out.1 HA.out.2, rfl⟩
            · have hle := Kn.less Q2 K (.inl ta)
              have HK := Lib.hid (Kn.next Q2 K (.inl ta) (by omega))
              clear K
              go_wp2
              go_round
              case rel => exact ⟨_, _, rfl, rfl, HK.out⟩
              case measure => simp [intOf]; omega
          · have hp := Kn.prod Q2 K (by omega)
            by_cases tb : 4294967296 * b + ll % 4294967296 < a * (v % 4294967296)
            · by_cases c : 4294967296 ≤ b + v / 4294967296
              · have hq := Kn.broke Q2 K (.inr tb) c
                go_wp2
                go_ret2
                exact ⟨retII HA.out.1 HA.out.2, rfl⟩
              · have hle := Kn.less Q2 K (.inr tb)
                have HK := Lib.hid (Kn.next Q2 K (.inr tb) (by omega))
                clear K
                go_wp2
                go_round
                case rel => exact ⟨_, _, rfl, rfl, HK.out⟩
                case measure => simp [intOf]; omega
            · obtain rfl : a = q2 := Kn.done Q2 K (by omega)
              go_wp2
              go_ret2
              exact ⟨retII HA.out.1 HA.out.2, rfl⟩
      · have hle := Kn.less Q1 K (.inl ta)
        have HK := Lib.hid (Kn.next Q1 K (.inl ta) (by omega))
        clear K
        go_wp2
        go_round
        case rel => exact ⟨_, _, rfl, rfl, HK.out⟩
        case measure => simp [intOf]; omega
    · have hp := Kn.prod Q1 K (by omega)
      by_cases tb : 4294967296 * b + ll / 4294967296 < a * (v % 4294967296)
      · by_cases c : 4294967296 ≤ b + v / 4294967296
        · have hq := Kn.broke Q1 K (.inr tb) c
          go_wp2
          clear K ha0 ha1 hb0 hb1 hqa
          go_loop [18, 16] (fun s t => ∃ a b : Int, s = .int .u64 a ∧ t = .int .u64 b ∧ Kn r1 (v / 4294967296) q2 a b) (fun s _ => (intOf s).toNat)
          case atStart => exact ⟨a2, b2, rfl, rfl, K2⟩
          case round =>
            obtain ⟨a, b, rfl, rfl, K⟩ := hrel
            have ha0 := Kn.a0 Q2 K
            have ha1 := K.a1
            have hb0 := K.b0
            have hb1 := K.b1
            have hqa := K.qa
            by_cases ta : 4294967296 ≤ a
            · by_cases c : 4294967296 ≤ b + v / 4294967296
              · have hq := Kn.broke Q2 K (.inl ta) c
                go_wp2
                go_ret2
                exact ⟨retII HA.out.1 HA.out.2, rfl⟩
              · have hle := Kn.less Q2 K (.inl ta)
                have HK := Lib.hid (Kn.next Q2 K (.inl ta) (by omega))
                clear K
                go_wp2
                go_round
                case rel => exact ⟨_, _, rfl, rfl, HK.out⟩
                case measure => simp [intOf]; omega
            · have hp := Kn.prod Q2 K (by omega)
              by_cases tb : 4294967296 * b + ll % 4294967296 < a * (v % 4294967296)
              · by_cases c : 4294967296 ≤ b + v / 4294967296
                · have hq := Kn.broke Q2 K (.inr tb) c
                  go_wp2
                  go_ret2
                  exact ⟨retII HA.out.1 HA.out.2, rfl⟩
                · have hle := Kn.less Q2 K (.inr tb)
                  have HK := Lib.hid (Kn.next Q2 K (.inr tb) (by omega))
                  clear K
                  go_wp2
                  go_round
                  case rel => exact ⟨_, _, rfl, rfl, HK.out⟩
                  case measure => simp [intOf]; omega
              · obtain rfl : a = q2 := Kn.done Q2 K (by omega)
                go_wp2
                go_ret2
                exact ⟨retII HA.out.1 HA.out.2, rfl⟩
        · have hle := Kn.less Q1 K (.inr tb)
          have HK := Lib.hid (Kn.next Q1 K (.inr tb) (by omega))
          clear K
          go_wp2
          go_round
          case rel => exact ⟨_, _, rfl, rfl, HK.out⟩
          case measure => simp [intOf]; omega
      · obtain rfl : a = q1 := Kn.done Q1 K (by omega)
        go_wp2
        clear K ha0 ha1 hb0 hb1 hqa
        go_loop [18, 16] (fun s t => ∃ a b : Int, s = .int .u64 a ∧ t = .int .u64 b ∧ Kn r1 (v / 4294967296) q2 a b) (fun s _ => (intOf s).toNat)
        case atStart => exact ⟨a2, b2, rfl, rfl, K2⟩
        case round =>
          obtain ⟨a, b, rfl, rfl, K⟩ := hrel
          have ha0 := Kn.a0 Q2 K
          have ha1 := K.a1
          have hb0 := K.b0
          have hb1 := K.b1
          have hqa := K.qa
          by_cases ta : 4294967296 ≤ a
          · by_cases c : 4294967296 ≤ b + v / 4294967296
            · have hq := Kn.broke Q2 K (.inl ta) c
              go_wp2
              go_ret2
              exact ⟨retII HA.out.1 HA.out.2, rfl⟩
            · have hle := Kn.less Q2 K (.inl ta)
              have HK := Lib.hid (Kn.next Q2 K (.inl ta) (by omega))
              clear K
              go_wp2
              go_round
              case rel => exact ⟨_, _, rfl, rfl, HK.out⟩
              case measure => simp [intOf]; omega
          · have hp := Kn.prod Q2 K (by omega)
            by_cases tb : 4294967296 * b + ll % 4294967296 < a * (v % 4294967296)
            · by_cases c : 4294967296 ≤ b + v / 4294967296
              · have hq := Kn.broke Q2 K (.inr tb) c
                go_wp2
                go_ret2
                exact ⟨retII HA.out.1 HA.out.2, rfl⟩
              · have hle := Kn.less Q2 K (.inr tb)
                have HK := Lib.hid (Kn.next Q2 K (.inr tb) (by omega))
                clear K
                go_wp2
                go_round
                case rel => exact ⟨_, _, rfl, rfl, HK.out⟩
                case measure => simp [intOf]; omega
            · obtain rfl : a = q2 := Kn.done Q2 K (by omega)
              go_wp2
              go_ret2
              exact ⟨retII HA.out.1 HA.out.2, rfl⟩
end Go.Proofs.Ytbpmbdnhfkfkhaa
namespace Go.Proofs.Ytbpmbdnhfkfkhaa
open Go.RowKit

theorem Div64_any (h l y : Int) (w : World) (h0 : 0 ≤ h) (h1 : h < y) (l0 : 0 ≤ l) (l1 : l ≤ 18446744073709551615) (y1 : y ≤ 18446744073709551615) :
    Calls Try.prog 82 #[.int .u64 h, .int .u64 l, .int .u64 y] w fun e w' => e = .returned (.tuple #[.int .u64 ((h * 18446744073709551616 + l) / y), .int .u64 ((h * 18446744073709551616 + l) % y)]) ∧ Below w.heap.size w w' := by
  by_cases p : h = 0
  · subst p
    have t1 : (y == 0) = false := by simp; omega
    have t3 : ¬ y ≤ 0 := by omega
    have hd := Int.ediv_nonneg l0 (show 0 ≤ y by omega)
    have hd1 : l / y ≤ l := Int.ediv_le_self _ l0
    go_enter Try.func82, Try.ntmps82
    go_wp2
    go_quiet (fail)
    go_wp2
    go_ret2
    exact ⟨retII (by simp) (by simp), by repeat (first | exact Below.refl _ _ | assumption | refine Below.setCell ?_ (by first | omega | (simp; done) | (simp; omega)) _ | refine Below.alloc ?_ (by first | omega | (simp; done) | (simp; omega)) _ | refine below_drewN ?_ _ | refine Below.drew ?_ | refine Below.trans ?_ (Below.mono (by assumption) (by first | omega | (simp; done) | (simp; omega))))⟩
  · refine (Div64_great h l y w (by omega) h1 l0 l1 y1).mono fun e w' k => ⟨k.1, ?_⟩
    rw [k.2]
    exact Below.refl _ _

theorem Div64_q (h l y n q r : Int) (w : World) (h0 : 0 ≤ h) (h1 : h < y) (l0 : 0 ≤ l) (l1 : l ≤ 18446744073709551615) (y1 : y ≤ 18446744073709551615) (hn : n = h * 18446744073709551616 + l) (hq : n / y = q) (hr : n % y = r) :
    Calls Try.prog 82 #[.int .u64 h, .int .u64 l, .int .u64 y] w fun e w' => e = .returned (.tuple #[.int .u64 q, .int .u64 r]) ∧ Below w.heap.size w w' := by
  subst hn hq hr
  exact Div64_any h l y w h0 h1 l0 l1 y1
theorem div_end {a b q : Int} (hb : b ≠ 0) (hq : q = rndN a.natAbs b.natAbs) (s : Bool) (hs : s = (decide (a < 0) != decide (b < 0))) : sgnI q s = divI a b ∧ sgnB q s = divB a b := by
  subst hq hs
  exact div_near hb
theorem sgn_bool {h l a : Int} (k : IsW h l a) (b : Int) : (!decide (h < 0) == decide (b < 0)) = (decide (a < 0) != decide (b < 0)) := by
  rw [isW_neg_hi k]
  cases decide (a < 0) <;> cases decide (b < 0) <;> rfl
theorem div_out {a b H L : Int} (e : (a.natAbs : Int) = H * 18446744073709551616 + L) (L0 : 0 ≤ L) (h : (b.natAbs : Int) ≤ H) : 0 = divI a b ∧ false = divB a b := by
  by_cases hb : b = 0
  · subst hb; exact div_zero a
  · refine div_far hb ?_
    have : 18446744073709551616 ≤ (a.natAbs : Int) / (b.natAbs : Int) := by
      apply Int.le_ediv_of_mul_le (by omega)
      have : (b.natAbs : Int) * 18446744073709551616 ≤ H * 18446744073709551616 := Int.mul_le_mul_of_nonneg_right h (by omega)
      omega
    omega

set_option maxHeartbeats 4000000 in
theorem Div_any (h1 l1 a b : Int) (w : World) (ha : IsW h1 l1 a) (b0 : -9223372036854775808 ≤ b) (b1 : b ≤ 9223372036854775807) :
    Calls Try.prog 65 #[.agg #[.int .i64 h1, .int .u64 l1], .int .i64 b] w fun e w' => e = .returned (.tuple #[.int .i64 (divI a b), .bool (divB a b)]) ∧ Below w.heap.size w w' := by
  have Ha := Lib.hid ha
  have hin := ha.in128
  have hA1 : (a.natAbs : Int) ≤ 170141183460469231731687303715884105728 := by unfold In128 at hin; omega
  obtain ⟨H, L, eH, eL, H0, H1, L0, L1, eA⟩ := halves (show (0 : Int) ≤ a.natAbs by omega) hA1
  have eB : loW b.natAbs = b.natAbs := by unfold loW; omega
  have EA := Lib.hid eA
  clear ha hin hA1 eA
  have B0 : (0 : Int) ≤ b.natAbs := by omega
  have B1 : (b.natAbs : Int) ≤ 9223372036854775808 := by omega
  by_cases far : (b.natAbs : Int) ≤ H
  · have K := Lib.hid (div_out EA.out L0 far)
    go_enter Try.func65, Try.ntmps65
    go_wp2_with fail
    refine (size_any _ _ _ _ Ha.out).mono ?_
    rintro e w1 ⟨rfl, hb1⟩
    obtain ⟨hc_w1, hf_w1⟩ := bcell hb1
    have z_w1 := hb1.size
    try simp at z_w1
    have z0_w1 : w.heap.size < w1.heap.size := by omega
    have y_w1 : w.heap.size ≤ w1.heap.size := by omega
    go_wp2_with fail
    refine (Of_any _ _ b0 b1).mono ?_
    rintro e w2 ⟨rfl, hb2⟩
    obtain ⟨hc_w2, hf_w2⟩ := bcell hb2
    have z_w2 := hb2.size
    try simp at z_w2
    have z0_w2 : w.heap.size < w2.heap.size := by omega
    have y_w2 : w.heap.size ≤ w2.heap.size := by omega
    go_wp2_with fail
    refine (size_any _ _ _ _ (isW_64 b0 b1)).mono ?_
    rintro e w3 ⟨rfl, hb3⟩
    obtain ⟨hc_w3, hf_w3⟩ := bcell hb3
    have z_w3 := hb3.size
    try simp at z_w3
    have z0_w3 : w.heap.size < w3.heap.size := by omega
    have y_w3 : w.heap.size ≤ w3.heap.size := by omega
    go_wp2
    go_ret2
    exact ⟨retIB K.out.1 K.out.2, by repeat (first | exact Below.refl _ _ | assumption | refine Below.setCell ?_ (by first | omega | (simp; done) | (simp; omega)) _ | refine Below.alloc ?_ (by first | omega | (simp; done) | (simp; omega)) _ | refine below_drewN ?_ _ | refine Below.drew ?_ | refine Below.trans ?_ (Below.mono (by assumption) (by first | omega | (simp; done) | (simp; omega))))⟩
  · have bn : b ≠ 0 := by
      intro hc; subst hc; simp at far; omega
    have BN := Lib.hid bn
    clear bn
    obtain ⟨q, hq⟩ : ∃ q, (a.natAbs : Int) / (b.natAbs : Int) = q := ⟨_, rfl⟩
    obtain ⟨r, hr⟩ : ∃ r, (a.natAbs : Int) % (b.natAbs : Int) = r := ⟨_, rfl⟩
    have r0 : 0 ≤ r := by rw [← hr]; exact Int.emod_nonneg _ (by have := BN.out; omega)
    have r1 : r < b.natAbs := by rw [← hr]; exact Int.emod_lt_of_pos _ (by have := BN.out; omega)
    have q0 : 0 ≤ q := by rw [← hq]; exact Int.ediv_nonneg (by omega) (by omega)
    have q1 : q ≤ 18446744073709551615 := by
      have : q < 18446744073709551616 := by
        rw [← hq]
        apply Int.ediv_lt_of_lt_mul (by have := BN.out; omega)
        have e := EA.out
        have : (H + 1) * 18446744073709551616 ≤ (b.natAbs : Int) * 18446744073709551616 := Int.mul_le_mul_of_nonneg_right (by omega) (by omega)
        omega
      omega
    have HQ := Lib.hid hq
    have HR := Lib.hid hr
    clear hq hr
    have hand := and_one q q0 q1
    by_cases c1 : 9223372036854775808 < q
    · have K := Lib.hid (div_far BN.out (a := a) (by rw [HQ.out]; exact c1))
      go_enter Try.func65, Try.ntmps65
      go_wp2_with fail
      refine (size_any _ _ _ _ Ha.out).mono ?_
      rintro e w1 ⟨rfl, hb1⟩
      obtain ⟨hc_w1, hf_w1⟩ := bcell hb1
      have z_w1 := hb1.size
      try simp at z_w1
      have z0_w1 : w.heap.size < w1.heap.size := by omega
      have y_w1 : w.heap.size ≤ w1.heap.size := by omega
      go_wp2_with fail
      refine (Of_any _ _ b0 b1).mono ?_
      rintro e w2 ⟨rfl, hb2⟩
      obtain ⟨hc_w2, hf_w2⟩ := bcell hb2
      have z_w2 := hb2.size
      try simp at z_w2
      have z0_w2 : w.heap.size < w2.heap.size := by omega
      have y_w2 : w.heap.size ≤ w2.heap.size := by omega
      go_wp2_with fail
      refine (size_any _ _ _ _ (isW_64 b0 b1)).mono ?_
      rintro e w3 ⟨rfl, hb3⟩
      obtain ⟨hc_w3, hf_w3⟩ := bcell hb3
      have z_w3 := hb3.size
      try simp at z_w3
      have z0_w3 : w.heap.size < w3.heap.size := by omega
      have y_w3 : w.heap.size ≤ w3.heap.size := by omega
      go_wp2_with fail
      refine (Div64_q _ _ _ _ q r _ H0 (by omega) L0 L1 (by omega) EA.out HQ.out HR.out).mono ?_
      rintro e w4 ⟨rfl, hb4⟩
      obtain ⟨hc_w4, hf_w4⟩ := bcell hb4
      have z_w4 := hb4.size
      try simp at z_w4
      have z0_w4 : w.heap.size < w4.heap.size := by omega
      have y_w4 : w.heap.size ≤ w4.heap.size := by omega
      go_wp2
      go_ret2
      exact ⟨retIB K.out.1 K.out.2, by repeat (first | exact Below.refl _ _ | assumption | refine Below.setCell ?_ (by first | omega | (simp; done) | (simp; omega)) _ | refine Below.alloc ?_ (by first | omega | (simp; done) | (simp; omega)) _ | refine below_drewN ?_ _ | refine Below.drew ?_ | refine Below.trans ?_ (Below.mono (by assumption) (by first | omega | (simp; done) | (simp; omega))))⟩
    · by_cases c2 : (b.natAbs : Int) < 2 * r
      · have K := Lib.hid (rnd_up (n := a.natAbs) (d := b.natAbs) (by rw [HR.out]; exact .inl c2))
        go_enter Try.func65, Try.ntmps65
        go_wp2_with fail
        refine (size_any _ _ _ _ Ha.out).mono ?_
        rintro e w1 ⟨rfl, hb1⟩
        obtain ⟨hc_w1, hf_w1⟩ := bcell hb1
        have z_w1 := hb1.size
        try simp at z_w1
        have z0_w1 : w.heap.size < w1.heap.size := by omega
        have y_w1 : w.heap.size ≤ w1.heap.size := by omega
        go_wp2_with fail
        refine (Of_any _ _ b0 b1).mono ?_
        rintro e w2 ⟨rfl, hb2⟩
        obtain ⟨hc_w2, hf_w2⟩ := bcell hb2
        have z_w2 := hb2.size
        try simp at z_w2
        have z0_w2 : w.heap.size < w2.heap.size := by omega
        have y_w2 : w.heap.size ≤ w2.heap.size := by omega
        go_wp2_with fail
        refine (size_any _ _ _ _ (isW_64 b0 b1)).mono ?_
        rintro e w3 ⟨rfl, hb3⟩
        obtain ⟨hc_w3, hf_w3⟩ := bcell hb3
        have z_w3 := hb3.size
        try simp at z_w3
        have z0_w3 : w.heap.size < w3.heap.size := by omega
        have y_w3 : w.heap.size ≤ w3.heap.size := by omega
        go_wp2_with fail
        refine (Div64_q _ _ _ _ q r _ H0 (by omega) L0 L1 (by omega) EA.out HQ.out HR.out).mono ?_
        rintro e w4 ⟨rfl, hb4⟩
        obtain ⟨hc_w4, hf_w4⟩ := bcell hb4
        have z_w4 := hb4.size
        try simp at z_w4
        have z0_w4 : w.heap.size < w4.heap.size := by omega
        have y_w4 : w.heap.size ≤ w4.heap.size := by omega
        go_wp2_with fail
        refine (signed_any _ _ _ (by omega) (by omega)).mono ?_
        rintro e w5 ⟨rfl, rfl⟩
        go_wp2
        go_ret2
        have K2 := div_end (q := q + 1) BN.out (by have := HQ.out; have := K.out; omega) _ (sgn_bool Ha.out b)
        exact ⟨retIB K2.1 K2.2, by repeat (first | exact Below.refl _ _ | assumption | refine Below.setCell ?_ (by first | omega | (simp; done) | (simp; omega)) _ | refine Below.alloc ?_ (by first | omega | (simp; done) | (simp; omega)) _ | refine below_drewN ?_ _ | refine Below.drew ?_ | refine Below.trans ?_ (Below.mono (by assumption) (by first | omega | (simp; done) | (simp; omega))))⟩
      · by_cases c3 : 2 * r = b.natAbs
        · have t3 : (r == (b.natAbs : Int) - r) = true := by simp; omega
          by_cases c4 : q % 2 = 1
          · have K := Lib.hid (rnd_up (n := a.natAbs) (d := b.natAbs) (by rw [HR.out, HQ.out]; exact .inr ⟨c3, c4⟩))
            have t4 : (q % 2 == 1) = true := by simp; omega
            clear c3 c4
            go_enter Try.func65, Try.ntmps65
            go_wp2_with fail
            refine (size_any _ _ _ _ Ha.out).mono ?_
            rintro e w1 ⟨rfl, hb1⟩
            obtain ⟨hc_w1, hf_w1⟩ := bcell hb1
            have z_w1 := hb1.size
            try simp at z_w1
            have z0_w1 : w.heap.size < w1.heap.size := by omega
            have y_w1 : w.heap.size ≤ w1.heap.size := by omega
            go_wp2_with fail
            refine (Of_any _ _ b0 b1).mono ?_
            rintro e w2 ⟨rfl, hb2⟩
            obtain ⟨hc_w2, hf_w2⟩ := bcell hb2
            have z_w2 := hb2.size
            try simp at z_w2
            have z0_w2 : w.heap.size < w2.heap.size := by omega
            have y_w2 : w.heap.size ≤ w2.heap.size := by omega
            go_wp2_with fail
            refine (size_any _ _ _ _ (isW_64 b0 b1)).mono ?_
            rintro e w3 ⟨rfl, hb3⟩
            obtain ⟨hc_w3, hf_w3⟩ := bcell hb3
            have z_w3 := hb3.size
            try simp at z_w3
            have z0_w3 : w.heap.size < w3.heap.size := by omega
            have y_w3 : w.heap.size ≤ w3.heap.size := by omega
            go_wp2_with fail
            refine (Div64_q _ _ _ _ q r _ H0 (by omega) L0 L1 (by omega) EA.out HQ.out HR.out).mono ?_
            rintro e w4 ⟨rfl, hb4⟩
            obtain ⟨hc_w4, hf_w4⟩ := bcell hb4
            have z_w4 := hb4.size
            try simp at z_w4
            have z0_w4 : w.heap.size < w4.heap.size := by omega
            have y_w4 : w.heap.size ≤ w4.heap.size := by omega
            go_wp2_with fail
            refine (signed_any _ _ _ (by omega) (by omega)).mono ?_
            rintro e w5 ⟨rfl, rfl⟩
            go_wp2
            go_ret2
            have K2 := div_end (q := q + 1) BN.out (by have := HQ.out; have := K.out; omega) _ (sgn_bool Ha.out b)
            exact ⟨retIB K2.1 K2.2, by repeat (first | exact Below.refl _ _ | assumption | refine Below.setCell ?_ (by first | omega | (simp; done) | (simp; omega)) _ | refine Below.alloc ?_ (by first | omega | (simp; done) | (simp; omega)) _ | refine below_drewN ?_ _ | refine Below.drew ?_ | refine Below.trans ?_ (Below.mono (by assumption) (by first | omega | (simp; done) | (simp; omega))))⟩
          · have K := Lib.hid (rnd_down (n := a.natAbs) (d := b.natAbs) (by rw [HR.out, HQ.out]; exact fun k => k.elim c2 (fun k => c4 k.2)))
            have t4 : (q % 2 == 1) = false := by simp; omega
            clear c3 c4
            go_enter Try.func65, Try.ntmps65
            go_wp2_with fail
            refine (size_any _ _ _ _ Ha.out).mono ?_
            rintro e w1 ⟨rfl, hb1⟩
            obtain ⟨hc_w1, hf_w1⟩ := bcell hb1
            have z_w1 := hb1.size
            try simp at z_w1
            have z0_w1 : w.heap.size < w1.heap.size := by omega
            have y_w1 : w.heap.size ≤ w1.heap.size := by omega
            go_wp2_with fail
            refine (Of_any _ _ b0 b1).mono ?_
            rintro e w2 ⟨rfl, hb2⟩
            obtain ⟨hc_w2, hf_w2⟩ := bcell hb2
            have z_w2 := hb2.size
            try simp at z_w2
            have z0_w2 : w.heap.size < w2.heap.size := by omega
            have y_w2 : w.heap.size ≤ w2.heap.size := by omega
            go_wp2_with fail
            refine (size_any _ _ _ _ (isW_64 b0 b1)).mono ?_
            rintro e w3 ⟨rfl, hb3⟩
            obtain ⟨hc_w3, hf_w3⟩ := bcell hb3
            have z_w3 := hb3.size
            try simp at z_w3
            have z0_w3 : w.heap.size < w3.heap.size := by omega
            have y_w3 : w.heap.size ≤ w3.heap.size := by omega
            go_wp2_with fail
            refine (Div64_q _ _ _ _ q r _ H0 (by omega) L0 L1 (by omega) EA.out HQ.out HR.out).mono ?_
            rintro e w4 ⟨rfl, hb4⟩
            obtain ⟨hc_w4, hf_w4⟩ := bcell hb4
            have z_w4 := hb4.size
            try simp at z_w4
            have z0_w4 : w.heap.size < w4.heap.size := by omega
            have y_w4 : w.heap.size ≤ w4.heap.size := by omega
            go_wp2_with fail
            refine (signed_any _ _ _ (by omega) (by omega)).mono ?_
            rintro e w5 ⟨rfl, rfl⟩
            go_wp2
            go_ret2
            have K2 := div_end (q := q) BN.out (by have := HQ.out; have := K.out; omega) _ (sgn_bool Ha.out b)
            exact ⟨retIB K2.1 K2.2, by repeat (first | exact Below.refl _ _ | assumption | refine Below.setCell ?_ (by first | omega | (simp; done) | (simp; omega)) _ | refine Below.alloc ?_ (by first | omega | (simp; done) | (simp; omega)) _ | refine below_drewN ?_ _ | refine Below.drew ?_ | refine Below.trans ?_ (Below.mono (by assumption) (by first | omega | (simp; done) | (simp; omega))))⟩
        · have t3 : (r == (b.natAbs : Int) - r) = false := by simp; omega
          have K := Lib.hid (rnd_down (n := a.natAbs) (d := b.natAbs) (by rw [HR.out]; exact fun k => k.elim c2 (fun k => c3 k.1)))
          clear c3
          go_enter Try.func65, Try.ntmps65
          go_wp2_with fail
          refine (size_any _ _ _ _ Ha.out).mono ?_
          rintro e w1 ⟨rfl, hb1⟩
          obtain ⟨hc_w1, hf_w1⟩ := bcell hb1
          have z_w1 := hb1.size
          try simp at z_w1
          have z0_w1 : w.heap.size < w1.heap.size := by omega
          have y_w1 : w.heap.size ≤ w1.heap.size := by omega
          go_wp2_with fail
          refine (Of_any _ _ b0 b1).mono ?_
          rintro e w2 ⟨rfl, hb2⟩
          obtain ⟨hc_w2, hf_w2⟩ := bcell hb2
          have z_w2 := hb2.size
          try simp at z_w2
          have z0_w2 : w.heap.size < w2.heap.size := by omega
          have y_w2 : w.heap.size ≤ w2.heap.size := by omega
          go_wp2_with fail
          refine (size_any _ _ _ _ (isW_64 b0 b1)).mono ?_
          rintro e w3 ⟨rfl, hb3⟩
          obtain ⟨hc_w3, hf_w3⟩ := bcell hb3
          have z_w3 := hb3.size
          try simp at z_w3
          have z0_w3 : w.heap.size < w3.heap.size := by omega
          have y_w3 : w.heap.size ≤ w3.heap.size := by omega
          go_wp2_with fail
          refine (Div64_q _ _ _ _ q r _ H0 (by omega) L0 L1 (by omega) EA.out HQ.out HR.out).mono ?_
          rintro e w4 ⟨rfl, hb4⟩
          obtain ⟨hc_w4, hf_w4⟩ := bcell hb4
          have z_w4 := hb4.size
          try simp at z_w4
          have z0_w4 : w.heap.size < w4.heap.size := by omega
          have y_w4 : w.heap.size ≤ w4.heap.size := by omega
          go_wp2_with fail
          refine (signed_any _ _ _ (by omega) (by omega)).mono ?_
          rintro e w5 ⟨rfl, rfl⟩
          go_wp2
          go_ret2
          have K2 := div_end (q := q) BN.out (by have := HQ.out; have := K.out; omega) _ (sgn_bool Ha.out b)
          exact ⟨retIB K2.1 K2.2, by repeat (first | exact Below.refl _ _ | assumption | refine Below.setCell ?_ (by first | omega | (simp; done) | (simp; omega)) _ | refine Below.alloc ?_ (by first | omega | (simp; done) | (simp; omega)) _ | refine below_drewN ?_ _ | refine Below.drew ?_ | refine Below.trans ?_ (Below.mono (by assumption) (by first | omega | (simp; done) | (simp; omega))))⟩
end Go.Proofs.Ytbpmbdnhfkfkhaa

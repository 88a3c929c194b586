/- The walk of WideSwap. -/
import Derived.Test.YtjilgfgchmdppaaWa
import Derived.Deep.RegionHeld3
import Derived.OpenShut
namespace Go.Proofs.Ytjilgfgchmdppaa
open Go.RowKit

theorem sign_mul (a b : Int) (_a0 : -9223372036854775808 ≤ a) (_b0 : -9223372036854775808 ≤ b) : cmpI (a * b) 0 = wrap64 (cmpI a 0 * cmpI b 0) := by
  have h : cmpI (a * b) 0 = cmpI a 0 * cmpI b 0 := by
    unfold cmpI
    rcases Int.lt_trichotomy a 0 with p | p | p <;> rcases Int.lt_trichotomy b 0 with q | q | q
    · have := Int.mul_pos_of_neg_of_neg p q
      rw [if_neg (by omega), if_neg (by omega), if_neg (by omega), if_pos p, if_neg (by omega), if_pos q]; rfl
    · subst q; simp
    · have := Int.mul_neg_of_neg_of_pos p q
      rw [if_neg (by omega), if_pos (by omega), if_neg (by omega), if_pos p, if_neg (by omega), if_neg (by omega)]; rfl
    · subst p; simp
    · subst p; simp
    · subst p; simp
    · have := Int.mul_neg_of_pos_of_neg p q
      rw [if_neg (by omega), if_pos (by omega), if_neg (by omega), if_neg (by omega), if_neg (by omega), if_pos q]; rfl
    · subst q; simp
    · have := Int.mul_pos p q
      rw [if_neg (by omega), if_neg (by omega), if_neg (by omega), if_neg (by omega), if_neg (by omega), if_neg (by omega)]; rfl
  rw [h]
  have k : ∀ x : Int, -1 ≤ cmpI x 0 ∧ cmpI x 0 ≤ 1 := fun x => by unfold cmpI; split <;> (try split) <;> omega
  have ka := k a
  have kb := k b
  generalize cmpI a 0 = x at *
  generalize cmpI b 0 = y at *
  have : x = -1 ∨ x = 0 ∨ x = 1 := by omega
  rcases this with rfl | rfl | rfl <;> (unfold wrap64; omega)

theorem Mul_n (a b n : Int) (w : World) (hn : a * b = n) (a0 : -9223372036854775808 ≤ a) (a1 : a ≤ 9223372036854775807) (b0 : -9223372036854775808 ≤ b) (b1 : b ≤ 9223372036854775807) :
    Calls Try.prog 12 #[.int .i64 a, .int .i64 b] w fun e w' => e = .returned (.agg #[.int .i64 (hiW n), .int .u64 (loW n)]) ∧ Below w.heap.size w w' := by
  subst hn
  exact Mul_any a b w a0 a1 b0 b1
theorem Sign_n (n : Int) (w : World) (h : In128 n) :
    Calls Try.prog 25 #[.agg #[.int .i64 (hiW n), .int .u64 (loW n)]] w fun e w' => e = .returned (.int .i64 (cmpI n 0)) ∧ Below w.heap.size w w' := Sign_any _ _ n w (isW_of h)
theorem Add_yes (a b s : Int) (w : World) (ha : In128 a) (hb : In128 b) (hs : a + b = s) (k : In128 s) :
    Calls Try.prog 17 #[.agg #[.int .i64 (hiW a), .int .u64 (loW a)], .agg #[.int .i64 (hiW b), .int .u64 (loW b)]] w fun e w' => e = .returned (.tuple #[.agg #[.int .i64 (hiW s), .int .u64 (loW s)], .bool true]) ∧ Below w.heap.size w w' := by
  subst hs
  refine (Add_any _ _ _ _ a b w (isW_of ha) (isW_of hb)).mono fun e w' h => ⟨?_, h.2⟩
  have c := clip_yes k
  rw [h.1, ← c.1, ← c.2, wr128_of k]

theorem swap_keep {w W W' : World} {n5 n6 n8 : Nat} {p q s t : Value} (hb : Below W.heap.size W W')
    (h : (W.cell? ⟨n5, 0, none⟩ = some p ∧ W.cell? ⟨n5, 1, none⟩ = some q) ∧ (W.cell? ⟨n6, 0, none⟩ = some s ∧ W.cell? ⟨n6, 1, none⟩ = some t) ∧ (W.cell? ⟨n8, 0, none⟩ = some s ∧ W.cell? ⟨n8, 1, none⟩ = some t) ∧ n5 < W.heap.size ∧ n6 < W.heap.size ∧ n8 < W.heap.size ∧ Below w.heap.size w W) :
    (W'.cell? ⟨n5, 0, none⟩ = some p ∧ W'.cell? ⟨n5, 1, none⟩ = some q) ∧ (W'.cell? ⟨n6, 0, none⟩ = some s ∧ W'.cell? ⟨n6, 1, none⟩ = some t) ∧ (W'.cell? ⟨n8, 0, none⟩ = some s ∧ W'.cell? ⟨n8, 1, none⟩ = some t) ∧ n5 < W'.heap.size ∧ n6 < W'.heap.size ∧ n8 < W'.heap.size ∧ Below w.heap.size w W' := by
  obtain ⟨⟨a, b⟩, ⟨c, d⟩, ⟨e, f⟩, g, i, j, k⟩ := h
  have z := hb.size
  exact ⟨⟨(hb.cell g).trans a, (hb.cell g).trans b⟩, ⟨(hb.cell i).trans c, (hb.cell i).trans d⟩, ⟨(hb.cell j).trans e, (hb.cell j).trans f⟩, by omega, by omega, by omega, k.trans (hb.mono k.size)⟩

theorem swap_end {w W' : World} {n5 n6 n8 : Nat} {p q s t : Value}
    (h : (W'.cell? ⟨n5, 0, none⟩ = some p ∧ W'.cell? ⟨n5, 1, none⟩ = some q) ∧ (W'.cell? ⟨n6, 0, none⟩ = some s ∧ W'.cell? ⟨n6, 1, none⟩ = some t) ∧ (W'.cell? ⟨n8, 0, none⟩ = some s ∧ W'.cell? ⟨n8, 1, none⟩ = some t) ∧ n5 < W'.heap.size ∧ n6 < W'.heap.size ∧ n8 < W'.heap.size ∧ Below w.heap.size w W') :
    Below w.heap.size w W' := h.2.2.2.2.2.2
theorem swap_start {w W : World} {n5 n6 n8 : Nat} {a b c d : Int} (A : CellW W n5 a b) (B : CellW W n6 c d) (C : CellW W n8 c d) (h : n5 < W.heap.size ∧ n6 < W.heap.size ∧ n8 < W.heap.size) (k : Below w.heap.size w W) :
    (W.cell? ⟨n5, 0, none⟩ = some (.int .i64 a) ∧ W.cell? ⟨n5, 1, none⟩ = some (.int .u64 b)) ∧ (W.cell? ⟨n6, 0, none⟩ = some (.int .i64 c) ∧ W.cell? ⟨n6, 1, none⟩ = some (.int .u64 d)) ∧ (W.cell? ⟨n8, 0, none⟩ = some (.int .i64 c) ∧ W.cell? ⟨n8, 1, none⟩ = some (.int .u64 d)) ∧ n5 < W.heap.size ∧ n6 < W.heap.size ∧ n8 < W.heap.size ∧ Below w.heap.size w W :=
  ⟨⟨A.c0, A.c1⟩, ⟨B.c0, B.c1⟩, ⟨C.c0, C.c1⟩, h.1, h.2.1, h.2.2, k⟩

set_option maxHeartbeats 4000000 in
theorem swap_walk (a b : Int) (w : World) (a0 : -9223372036854775808 ≤ a) (a1 : a ≤ 9223372036854775807) (b0 : -9223372036854775808 ≤ b) (b1 : b ≤ 9223372036854775807) :
    Calls Try.prog 9 #[.int .i64 a, .int .i64 b] w fun e w' => e = .returned (.bool true) ∧ Below w.heap.size w w' := by
  have bd := mul_bound a0 (by omega) b0 (by omega)
  have pin : In128 (a * b) := by unfold In128; omega
  have sin : In128 (a + b) := by unfold In128; omega
  have ain := in128_64 a0 a1
  have bin := in128_64 b0 b1
  have KS : (cmpI (a * b) 0 == wrap64 (cmpI a 0 * cmpI b 0)) = true := by rw [sign_mul a b a0 b0]; exact beq_self_eq_true _
  have KS2 : (cmpI (a * b) 0 == IntKind.i64.wrap (cmpI a 0 * cmpI b 0)) = true := by rw [IntWalk.i64_left]; exact KS
  have KC := Lib.hid (Int.mul_comm b a)
  have KD := Lib.hid (Int.add_comm b a)
  clear bd
  go_enter Try.func9, Try.ntmps9
  go_wp2_with fail
  refine (Mul_any a b _ a0 a1 b0 b1).mono ?_
  rintro e w1 ⟨rfl, hb1⟩
  have z_w1 := hb1.size
  try simp at z_w1
  have y_w1 : w.heap.size ≤ w1.heap.size := by omega
  go_wp2_with fail
  refine (Of_any a _ a0 a1).mono ?_
  rintro e w2 ⟨rfl, hb2⟩
  have z_w2 := hb2.size
  try simp at z_w2
  have y_w2 : w.heap.size ≤ w2.heap.size := by omega
  go_wp2_with fail
  refine (Of_any b _ b0 b1).mono ?_
  rintro e w3 ⟨rfl, hb3⟩
  have z_w3 := hb3.size
  try simp at z_w3
  have y_w3 : w.heap.size ≤ w3.heap.size := by omega
  go_wp2_with fail
  refine (Add_yes a b (a + b) _ ain bin rfl sin).mono ?_
  rintro e w4 ⟨rfl, hb4⟩
  have z_w4 := hb4.size
  try simp at z_w4
  have y_w4 : w.heap.size ≤ w4.heap.size := by omega
  go_wp2_with fail
  refine (Of_any b _ b0 b1).mono ?_
  rintro e w5 ⟨rfl, hb5⟩
  have z_w5 := hb5.size
  try simp at z_w5
  have y_w5 : w.heap.size ≤ w5.heap.size := by omega
  go_wp2_with fail
  refine (Of_any a _ a0 a1).mono ?_
  rintro e w6 ⟨rfl, hb6⟩
  have z_w6 := hb6.size
  try simp at z_w6
  have y_w6 : w.heap.size ≤ w6.heap.size := by omega
  go_wp2_with fail
  refine (Add_yes b a (a + b) _ bin ain KD.out sin).mono ?_
  rintro e w7 ⟨rfl, hb7⟩
  have z_w7 := hb7.size
  try simp at z_w7
  have y_w7 : w.heap.size ≤ w7.heap.size := by omega
  go_wp2_with fail
  have C5 : CellW (w7.alloc (Obj.cells #[.int .i64 (hiW (a + b)), .int .u64 (loW (a + b))] 25)) w1.heap.size (hiW (a * b)) (loW (a * b)) :=
    (((((((CellW.new w1 _ _ _).below hb2 (by simp)).below hb3 (by omega)).below hb4 (by omega)).alloc (by omega) _).below hb5 (by simp; omega)).below hb6 (by omega)).below hb7 (by omega) |>.alloc (by omega) _
  have C6 : CellW (w7.alloc (Obj.cells #[.int .i64 (hiW (a + b)), .int .u64 (loW (a + b))] 25)) w4.heap.size (hiW (a + b)) (loW (a + b)) :=
    (((CellW.new w4 _ _ _).below hb5 (by simp)).below hb6 (by omega)).below hb7 (by omega) |>.alloc (by omega) _
  have C8 : CellW (w7.alloc (Obj.cells #[.int .i64 (hiW (a + b)), .int .u64 (loW (a + b))] 25)) w7.heap.size (hiW (a + b)) (loW (a + b)) := CellW.new w7 _ _ _
  have HB : Below w.heap.size w (w7.alloc (Obj.cells #[.int .i64 (hiW (a + b)), .int .u64 (loW (a + b))] 25)) := by repeat (first | exact Below.refl _ _ | assumption | refine Below.setCell ?_ (by first | omega | (simp; done) | (simp; omega)) _ | refine Below.alloc ?_ (by first | omega | (simp; done) | (simp; omega)) _ | refine below_drewN ?_ _ | refine Below.drew ?_ | refine Below.trans ?_ (Below.mono (by assumption) (by first | omega | (simp; done) | (simp; omega))))
  have hN : w1.heap.size < (w7.alloc (Obj.cells #[.int .i64 (hiW (a + b)), .int .u64 (loW (a + b))] 25)).heap.size ∧ w4.heap.size < (w7.alloc (Obj.cells #[.int .i64 (hiW (a + b)), .int .u64 (loW (a + b))] 25)).heap.size ∧ w7.heap.size < (w7.alloc (Obj.cells #[.int .i64 (hiW (a + b)), .int .u64 (loW (a + b))] 25)).heap.size := by simp; omega
  generalize w7.alloc (Obj.cells #[.int .i64 (hiW (a + b)), .int .u64 (loW (a + b))] 25) = W0 at *
  generalize w1.heap.size = n5 at *
  generalize w4.heap.size = n6 at *
  generalize w7.heap.size = n8 at *
  clear hb1 hb2 hb3 hb4 hb5 hb6 hb7 z_w1 z_w2 z_w3 z_w4 z_w5 z_w6 z_w7 y_w1 y_w2 y_w3 y_w4 y_w5 y_w6 y_w7
  have HS := Lib.hid (swap_start C5 C6 C8 hN HB)
  clear C5 C6 C8 hN HB
  go_region_held3 (fun W => (W.cell? ⟨n5, 0, none⟩ = some (.int .i64 (hiW (a * b))) ∧ W.cell? ⟨n5, 1, none⟩ = some (.int .u64 (loW (a * b)))) ∧ (W.cell? ⟨n6, 0, none⟩ = some (.int .i64 (hiW (a + b))) ∧ W.cell? ⟨n6, 1, none⟩ = some (.int .u64 (loW (a + b)))) ∧ (W.cell? ⟨n8, 0, none⟩ = some (.int .i64 (hiW (a + b))) ∧ W.cell? ⟨n8, 1, none⟩ = some (.int .u64 (loW (a + b)))) ∧ n5 < W.heap.size ∧ n6 < W.heap.size ∧ n8 < W.heap.size ∧ Below w.heap.size w W)
    (first | exact swap_keep ((Below.refl _ _).drew) HS.out | exact swap_keep hb (by assumption))
    (first
      | (go_at_call 12; refine (Mul_n b a (a * b) _ KC.out b0 b1 a0 a1).mono ?_; rintro e w' ⟨rfl, hb⟩)
      | (go_at_call 14; refine (Of_any _ _ (by assumption) (by assumption)).mono ?_; rintro e w' ⟨rfl, hb⟩)
      | (go_at_call 25; refine (Sign_n _ _ (by assumption)).mono ?_; rintro e w' ⟨rfl, hb⟩)
      | (go_at_call 16; refine (awake_any _).mono ?_; rintro e w' ⟨rfl, hb⟩))
  go_wp2
  go_ret
  exact ⟨rfl, swap_end (by assumption)⟩
theorem swap_law (a b : Int) (wa : (Lit.int .i64 a).wf = true) (wb : (Lit.int .i64 b).wf = true) (w : World) :
    Calls Try.prog 9 #[.int .i64 a, .int .i64 b] w fun e w' => e = .returned (.bool true) ∧ Below w.heap.size w w' :=
  swap_walk a b w (bounds_i64 wa).1 (bounds_i64 wa).2 (bounds_i64 wb).1 (bounds_i64 wb).2
end Go.Proofs.Ytjilgfgchmdppaa

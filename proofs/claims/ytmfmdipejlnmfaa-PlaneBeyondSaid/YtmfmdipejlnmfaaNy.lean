/- The program's plane: points against the bounds, sums, ranges. -/
import Derived.Test.YtmfmdipejlnmfaaNw
import Derived.Test.YtmfmdipejlnmfaaNh
import Derived.Test.YtmfmdipejlnmfaaBv
namespace Go.Proofs.Ytmfmdipejlnmfaa
open Go.RowKit
set_option linter.unusedVariables false
set_option linter.unusedSimpArgs false

/-- points lie one behind the other in block n -/
structure PW (W : World) (n : Nat) (l : List Pt) : Prop where
  c : ∀ (i : Nat) (t : Pt), l[i]? = some t → W.cell? ⟨n, i * 2, none⟩ = some (.int .i64 t.x) ∧ W.cell? ⟨n, i * 2 + 1, none⟩ = some (.int .i64 t.y)
  lt : n < W.heap.size
theorem PW.below {B : Nat} {w w' : World} {n : Nat} {l : List Pt} (k : PW w n l) (h : Below B w w') (hn : n < B) : PW w' n l :=
  ⟨fun i t e => ⟨(h.cell (p := ⟨n, _, none⟩) hn).trans (k.c i t e).1, (h.cell (p := ⟨n, _, none⟩) hn).trans (k.c i t e).2⟩, by have := h.size; have := k.lt; omega⟩
theorem PW.alloc {w : World} {n : Nat} {l : List Pt} (k : PW w n l) (o : Obj) : PW (w.alloc o) n l := k.below ((Below.refl w.heap.size w).alloc (Nat.le_refl _) o) k.lt
theorem PW.three {W : World} {n : Nat} {ax ay bx by' px py : Int} (k : BW W n [.int .i64 ax, .int .i64 ay, .int .i64 bx, .int .i64 by', .int .i64 px, .int .i64 py]) : PW W n [⟨ax, ay⟩, ⟨bx, by'⟩, ⟨px, py⟩] :=
  ⟨fun i t e => by
    match i, e with
    | 0, e => cases e; exact ⟨k.c 0 _ rfl, k.c 1 _ rfl⟩
    | 1, e => cases e; exact ⟨k.c 2 _ rfl, k.c 3 _ rfl⟩
    | 2, e => cases e; exact ⟨k.c 4 _ rfl, k.c 5 _ rfl⟩
    | i + 3, e => exact absurd e (by simp), k.lt⟩
theorem PW.four {W : World} {n : Nat} {ax ay bx by' px py qx qy : Int} (k : BW W n [.int .i64 ax, .int .i64 ay, .int .i64 bx, .int .i64 by', .int .i64 px, .int .i64 py, .int .i64 qx, .int .i64 qy]) : PW W n [⟨ax, ay⟩, ⟨bx, by'⟩, ⟨px, py⟩, ⟨qx, qy⟩] :=
  ⟨fun i t e => by
    match i, e with
    | 0, e => cases e; exact ⟨k.c 0 _ rfl, k.c 1 _ rfl⟩
    | 1, e => cases e; exact ⟨k.c 2 _ rfl, k.c 3 _ rfl⟩
    | 2, e => cases e; exact ⟨k.c 4 _ rfl, k.c 5 _ rfl⟩
    | 3, e => cases e; exact ⟨k.c 6 _ rfl, k.c 7 _ rfl⟩
    | i + 4, e => exact absurd e (by simp), k.lt⟩
def nearL (l : List Pt) : Bool := l.all (fun t => decide t.near)
theorem nearL_false {l : List Pt} {i : Nat} {t : Pt} (h : l[i]? = some t) (k : ¬ t.near) : false = nearL l := by
  symm; unfold nearL
  rw [Bool.eq_false_iff]
  intro a
  rw [List.all_eq_true] at a
  have := a t (List.mem_of_getElem? h)
  rw [decide_eq_true_iff] at this
  exact k this
theorem nearL_take {l : List Pt} {j : Nat} {t : Pt} (h : l[j]? = some t) (a : nearL (l.take j) = true) (k : t.near) : nearL (l.take (j + 1)) = true := by
  have e : l.take (j + 1) = l.take j ++ [t] := by rw [List.take_add_one, h]; rfl
  unfold nearL at *
  rw [e, List.all_append, a]
  simp [k]
theorem nearL3 (a b p : Pt) : nearL [a, b, p] = decide (a.near ∧ b.near ∧ p.near) := by
  unfold nearL; simp [Bool.decide_and]
theorem nearL4 (a b p q : Pt) : nearL [a, b, p, q] = decide (a.near ∧ b.near ∧ p.near ∧ q.near) := by
  unfold nearL; simp [Bool.decide_and]
theorem plInside_any (c : Int) (w : World) :
    Calls Try.prog 43 #[.int .i64 c] w fun e w' => e = .returned (.bool (decide (Rg c))) ∧ w' = w := by
  obtain ⟨r, hr⟩ : ∃ r, decide (Rg c) = r := ⟨_, rfl⟩
  rw [hr]
  have R := Lib.hid hr
  clear hr
  go_enter Try.func43, Try.ntmps43
  by_cases h : -281474976710656 ≤ c
  · have E := Lib.hid (show decide (c ≤ 281474976710656) = r by rw [← R.out, decide_eq_decide]; unfold Rg; omega)
    clear R
    go_wp2
    go_ret
    exact ⟨by rw [← E.out]; rfl, rfl⟩
  · have E := Lib.hid (show false = r by rw [← R.out]; symm; rw [decide_eq_false_iff_not]; unfold Rg; omega)
    clear R
    go_wp2
    go_ret
    exact ⟨by rw [← E.out]; rfl, rfl⟩
set_option maxHeartbeats 2000000 in
theorem plWithin_any (l : List Pt) (len n : Nat) (w : World) (hlen : l.length = len) (hmax : len ≤ 100) (T : PW w n l) :
    Calls Try.prog 19 #[.slice (some ⟨n, 0, none⟩) len len] w fun e w' => e = .returned (.bool (nearL l)) ∧ Below w.heap.size w w' := by
  have HT := Lib.hid T
  obtain ⟨r, hr⟩ : ∃ r, nearL l = r := ⟨_, rfl⟩
  rw [hr]
  have R := Lib.hid hr
  clear T hr
  go_enter Try.func19, Try.ntmps19
  go_wp2
  go_loopw [7] (fun i wr => ∃ j : Nat, j ≤ len ∧ i = .int .i64 j ∧ nearL (l.take j) = true ∧ PW wr n l ∧ Below w.heap.size w wr) (fun i _ => len - (intOf i).toNat)
  case atStart => exact ⟨0, by omega, rfl, rfl, HT.out, Below.refl _ _⟩
  case round =>
    obtain ⟨j, hj, rfl, hN, hT, hB⟩ := hrel
    have N1 := Lib.hid hN
    have T1 := Lib.hid hT
    have B1 := Lib.hid hB
    clear hN hT hB
    by_cases hlt : j < len
    · obtain ⟨t, ht⟩ : ∃ t, l[j]? = some t := ⟨l[j]'(by omega), List.getElem?_eq_getElem (by omega)⟩
      have E0 := Lib.hid (fun (h : ¬ t.near) => (nearL_false ht h).trans R.out)
      have E1 := Lib.hid (fun (h : t.near) => nearL_take ht N1.out h)
      obtain ⟨c0, c1⟩ := T1.out.c j t ht
      obtain ⟨x, y⟩ := t
      dsimp only at c0 c1
      clear ht
      go_wp2_with fail
      refine calls_gen (S := fun W => BW W wr.heap.size [.int .i64 x, .int .i64 y] ∧ PW W n l ∧ Below w.heap.size w W) ⟨BW.new wr _ [_, _] _ rfl, T1.out.alloc _, B1.out.alloc B1.out.size _⟩ (fun W0 hS => ?_)
      have a1 : W0.cell? ⟨wr.heap.size, 1, none⟩ = some (.int .i64 y) := hS.1.c 1 _ rfl
      have T2 := Lib.hid hS.2.1
      have B2 := Lib.hid hS.2.2
      clear hS T1 B1 c0 c1
      generalize wr.heap.size = n1 at *
      refine (plInside_any x _).mono ?_
      rintro e w1 ⟨rfl, rfl⟩
      by_cases hx : Rg x
      · rw [decide_eq_true hx]
        go_wp2_with fail
        refine (plInside_any y _).mono ?_
        rintro e w2 ⟨rfl, rfl⟩
        by_cases hy : Rg y
        · rw [decide_eq_true hy]
          have E2 := Lib.hid (E1.out ⟨hx, hy⟩)
          clear hx hy E0 E1
          go_wp2
          go_roundw
          case rel => exact ⟨j + 1, by omega, by go_num, E2.out, T2.out, B2.out⟩
          case measure => simp [intOf]; omega
        · rw [decide_eq_false hy]
          have E2 := Lib.hid (E0.out (fun h => hy h.2))
          clear hx hy E0 E1
          go_wp2
          go_ret
          exact ⟨by rw [← E2.out]; rfl, B2.out⟩
      · rw [decide_eq_false hx]
        have E2 := Lib.hid (E0.out (fun h => hx h.1))
        clear hx E0 E1
        go_wp2
        go_ret
        exact ⟨by rw [← E2.out]; rfl, B2.out⟩
    · have EK := Lib.hid (show true = r by rw [← R.out, ← N1.out, List.take_of_length_le (by omega)])
      clear N1
      go_wp2
      go_ret
      exact ⟨by rw [← EK.out]; rfl, B1.out⟩
theorem plOverlap_any (a b p q : Int) (w : World) :
    Calls Try.prog 31 #[.int .i64 a, .int .i64 b, .int .i64 p, .int .i64 q] w fun e w' => e = .returned (.bool (ovl a b p q)) ∧ w' = w := by
  obtain ⟨r, hr⟩ : ∃ r, ovl a b p q = r := ⟨_, rfl⟩
  rw [hr]
  have R := Lib.hid hr
  clear hr
  go_enter Try.func31, Try.ntmps31
  by_cases h : min a b ≤ max p q
  · have E := Lib.hid (show decide (min p q ≤ max a b) = r by rw [← R.out]; unfold ovl; rw [decide_eq_decide]; exact ⟨fun k => ⟨h, k⟩, fun k => k.2⟩)
    clear R
    go_wp2
    go_ret
    exact ⟨by rw [← E.out]; rfl, rfl⟩
  · have E := Lib.hid (show false = r by rw [← R.out]; symm; unfold ovl; rw [decide_eq_false_iff_not]; exact fun k => h k.1)
    clear R
    go_wp2
    go_ret
    exact ⟨by rw [← E.out]; rfl, rfl⟩
theorem below_put2 {w W : World} (k : Below w.heap.size w W) {r : Nat} (h : w.heap.size ≤ r) (u0 u1 : Value) : Below w.heap.size w ((W.setCell ⟨r, 0, none⟩ u0).setCell ⟨r, 1, none⟩ u1) :=
  (k.setCell (p := ⟨r, 0, none⟩) h u0).setCell (p := ⟨r, 1, none⟩) h u1
theorem bw_put2 {W : World} {n : Nat} {a b : Value} (k : BW W n [a, b]) (u0 u1 : Value) : BW ((W.setCell ⟨n, 0, none⟩ u0).setCell ⟨n, 1, none⟩ u1) n [u0, u1] := (k.put (i := 0) u0 _ rfl).put (i := 1) u1 _ rfl
theorem plProduct_any (a b n : Int) (w : World) (hn : a * b = n) (a0 : -9223372036854775808 ≤ a) (a1 : a ≤ 9223372036854775807) (b0 : -9223372036854775808 ≤ b) (b1 : b ≤ 9223372036854775807) :
    Calls Try.prog 44 #[.int .i64 a, .int .i64 b] w fun e w' => e = .returned (.agg #[.int .i64 (hiW n), .int .u64 (loW n)]) ∧ Below w.heap.size w w' := by
  have X := Lib.hid (fun (W : World) => Mul_n a b n W hn a0 a1 b0 b1)
  clear hn a0 a1 b0 b1
  go_enter Try.func44, Try.ntmps44
  go_wp2_with fail
  refine calls_gen (S := fun W => St w W [(w.heap.size, [.int .i64 0, .int .u64 0])]) (St.cons (BW.new _ _ [_, _] _ rfl) (St.nil (by repeat (first | exact Below.refl _ _ | assumption | refine Below.setCell ?_ (by first | omega | (simp; done) | (simp; omega)) _ | refine Below.alloc ?_ (by first | omega | (simp; done) | (simp; omega)) _ | refine below_drewN ?_ _ | refine Below.drew ?_ | refine Below.trans ?_ (Below.mono (by assumption) (by first | omega | (simp; done) | (simp; omega))))))) (fun W0 hS => ?_)
  have K0 := Lib.hid hS
  clear hS
  refine (X.out _).mono ?_
  rintro e w1 ⟨rfl, h⟩
  have K1 := Lib.hid (K0.out.step h)
  clear h K0 X
  obtain ⟨r0, r1⟩ := (K1.out.b w.heap.size [.int .i64 0, .int .u64 0] (by simp)).h2'
  have rf := (K1.out.b w.heap.size [.int .i64 0, .int .u64 0] (by simp)).f
  go_wp2
  exact bodyPost_ret (v := .agg #[.int .i64 (hiW n), .int .u64 (loW n)]) (by simp [results, Try.results44, go_sem, r0, r1]) rfl ⟨rfl, below_put2 K1.out.l (Nat.le_refl _) _ _⟩
theorem plPlus_any (a b s : Int) (w : World) (ha : In128 a) (hb : In128 b) (hs : a + b = s) (k : In128 s) :
    Calls Try.prog 49 #[.agg #[.int .i64 (hiW a), .int .u64 (loW a)], .agg #[.int .i64 (hiW b), .int .u64 (loW b)]] w fun e w' => e = .returned (.agg #[.int .i64 (hiW s), .int .u64 (loW s)]) ∧ Below w.heap.size w w' := by
  have X := Lib.hid (fun (W : World) => Add_yes a b s W ha hb hs k)
  clear ha hb hs k
  go_enter Try.func49, Try.ntmps49
  go_wp2_with fail
  refine calls_gen (S := fun W => St w W [(w.heap.size + 1 + 1, [.int .i64 0, .int .u64 0])]) (St.cons (BW.new _ _ [_, _] _ (by simp)) (St.nil (by repeat (first | exact Below.refl _ _ | assumption | refine Below.setCell ?_ (by first | omega | (simp; done) | (simp; omega)) _ | refine Below.alloc ?_ (by first | omega | (simp; done) | (simp; omega)) _ | refine below_drewN ?_ _ | refine Below.drew ?_ | refine Below.trans ?_ (Below.mono (by assumption) (by first | omega | (simp; done) | (simp; omega))))))) (fun W0 hS => ?_)
  have K0 := Lib.hid hS
  clear hS
  refine (X.out _).mono ?_
  rintro e w1 ⟨rfl, h⟩
  have K1 := Lib.hid (K0.out.step h)
  clear h K0 X
  have K2 := (K1.out.b (w.heap.size + 1 + 1) [.int .i64 0, .int .u64 0] (by simp))
  have r0 := K2.c 0 _ rfl
  have r1 := K2.c 1 _ rfl
  have rf := K2.f
  have hl := K2.lt
  have Z := (bw_put2 K2 (.int .i64 (hiW s)) (.int .u64 (loW s))).alloc (.cells #[.int .i64 (hiW s), .int .u64 (loW s)] 41)
  have z0 := Z.c 0 _ rfl
  have z1 := Z.c 1 _ rfl
  clear K2 Z
  go_wp2
  exact bodyPost_ret (v := .agg #[.int .i64 (hiW s), .int .u64 (loW s)]) (by simp [results, Try.results49, go_sem, z0, z1]) rfl ⟨rfl, (below_put2 K1.out.l (by omega) _ _).alloc (by simp only [set_size]; omega) _⟩
theorem plMinus_any (a b s : Int) (w : World) (ha : In128 a) (hb : In128 b) (hn : In128 (-b)) (hs : a - b = s) (k : In128 s) :
    Calls Try.prog 27 #[.agg #[.int .i64 (hiW a), .int .u64 (loW a)], .agg #[.int .i64 (hiW b), .int .u64 (loW b)]] w fun e w' => e = .returned (.agg #[.int .i64 (hiW s), .int .u64 (loW s)]) ∧ Below w.heap.size w w' := by
  have X := Lib.hid (fun (W : World) => Neg_yes b (-b) W hb rfl hn)
  have Y := Lib.hid (fun (W : World) => plPlus_any a (-b) s W ha hn (by omega) k)
  clear ha hb hn hs k
  generalize -b = m at *
  go_enter Try.func27, Try.ntmps27
  go_wp2_with fail
  refine calls_gen (S := fun W => St w W [(w.heap.size, [.int .i64 (hiW a), .int .u64 (loW a)]), (w.heap.size + 1 + 1, [.int .i64 0, .int .u64 0])]) (St.cons (((BW.new w w.heap.size [_, _] _ rfl).alloc _).alloc _) (St.cons (BW.new _ _ [_, _] _ (by simp)) (St.nil (by repeat (first | exact Below.refl _ _ | assumption | refine Below.setCell ?_ (by first | omega | (simp; done) | (simp; omega)) _ | refine Below.alloc ?_ (by first | omega | (simp; done) | (simp; omega)) _ | refine below_drewN ?_ _ | refine Below.drew ?_ | refine Below.trans ?_ (Below.mono (by assumption) (by first | omega | (simp; done) | (simp; omega)))))))) (fun W0 hS => ?_)
  have K0 := Lib.hid hS
  clear hS
  refine (X.out _).mono ?_
  rintro e w1 ⟨rfl, h⟩
  have K1 := Lib.hid (K0.out.step h)
  clear h K0 X
  obtain ⟨a0, a1⟩ := (K1.out.b w.heap.size [.int .i64 (hiW a), .int .u64 (loW a)] (by simp)).h2'
  have hl : w.heap.size < w1.heap.size := (K1.out.b w.heap.size [.int .i64 (hiW a), .int .u64 (loW a)] (by simp)).lt
  go_wp2_with fail
  refine calls_gen (S := fun W => St w W [(w.heap.size + 1 + 1, [.int .i64 0, .int .u64 0])]) ((K1.out.tail).alloc _) (fun W0 hS => ?_)
  have K2 := Lib.hid hS
  clear hS K1 a0 a1
  refine (Y.out _).mono ?_
  rintro e w2 ⟨rfl, h⟩
  have K3 := Lib.hid (K2.out.step h)
  clear h K2 Y
  have K2 := (K3.out.b (w.heap.size + 1 + 1) [.int .i64 0, .int .u64 0] (by simp))
  have r0 := K2.c 0 _ rfl
  have r1 := K2.c 1 _ rfl
  have rf := K2.f
  clear K2
  go_wp2
  exact bodyPost_ret (v := .agg #[.int .i64 (hiW s), .int .u64 (loW s)]) (by simp [results, Try.results27, go_sem, r0, r1]) rfl ⟨rfl, below_put2 K3.out.l (by omega) _ _⟩
end Go.Proofs.Ytmfmdipejlnmfaa

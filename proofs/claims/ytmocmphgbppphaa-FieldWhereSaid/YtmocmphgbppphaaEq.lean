/- The walk of FieldWhere. -/
import Derived.Test.YtmocmphgbppphaaEo
import Derived.Test.YtmocmphgbppphaaE0
namespace Go.Proofs.Ytmocmphgbppphaa
open Go.RowKit
set_option linter.unusedVariables false
set_option linter.unusedSimpArgs false

/-- and both flags -/
structure WR (F : FieldT) (w W : World) (B top f m d : Nat) (t : Trk) (x y a0 a1 : Int) : Prop where
  h : HS F w W B top f m d false false t x y
  u : BW W (w.heap.size + 2) [.int .i64 a0, .int .i64 a1]
  mm : w.heap.size + 2 < m
  dd : w.heap.size + 2 < d
theorem WR.step {F : FieldT} {w W W' : World} {B top f m d : Nat} {t : Trk} {x y a0 a1 : Int} (s : WR F w W B top f m d t x y a0 a1) (h : Below W.heap.size W W') : WR F w W' B top f m d t x y a0 a1 := ⟨s.h.step h, s.u.below h s.u.lt, s.mm, s.dd⟩
theorem WR.fx {F : FieldT} {w W W' : World} {B top f m d : Nat} {t : Trk} {x y a0 a1 : Int} (s : WR F w W B top f m d t x y a0 a1) (h : FxW W.heap.size W m 0 false W') : WR F w W' B top f m d t x y a0 a1 := ⟨s.h.fx h, s.u.fx h (by have := s.mm; omega), s.mm, s.dd⟩
theorem WR.dx {F : FieldT} {w W W' : World} {B top f m d : Nat} {t : Trk} {x y a0 a1 : Int} (s : WR F w W B top f m d t x y a0 a1) (h : FxW W.heap.size W d 0 false W') : WR F w W' B top f m d t x y a0 a1 := ⟨s.h.dx h, s.u.fx h (by have := s.dd; omega), s.mm, s.dd⟩
theorem WR.cs {F : FieldT} {w W : World} {B top f m d : Nat} {t : Trk} {x y a0 a1 : Int} (s : WR F w W B top f m d t x y a0 a1) : AsC W w.heap.size t x y a0 a1 := ⟨s.h.cs, s.u.c 0 _ rfl, s.u.c 1 _ rfl⟩
theorem WR.fl {F : FieldT} {w W : World} {B top f m d : Nat} {t : Trk} {x y a0 a1 : Int} (s : WR F w W B top f m d t x y a0 a1) : W.cell? ⟨m, 0, none⟩ = some (.bool false) ∧ W.cell? ⟨d, 0, none⟩ = some (.bool false) := ⟨s.h.g.g.a.c, s.h.g.a.c⟩
set_option maxRecDepth 100000 in
set_option maxHeartbeats 4000000 in
theorem fwhere_many (F : FieldT) (C : FieldC F) (t : Trk) (x y a0 a1 : Int) (B : Nat) (w : World) (hB : B ≤ w.heap.size) (K : TrkM B w t) (few : ¬ fewT t) :
    Calls Try.prog 4 #[trkV t, .agg #[.int .i64 x, .int .i64 y], .agg #[.int .i64 a0, .int .i64 a1]] w fun e w' => e = .returned (.bool true) ∧ Below w.heap.size w w' := by
  have HC := Lib.hid C
  have HB := Lib.hid hB
  have XF := Lib.hid (fun (W : World) (h : B ≤ W.heap.size) (K : TrkM B W t) => gfew_any t B W h K)
  have XR := Lib.hid (fun (W : World) (h : B ≤ W.heap.size) (K : TrkM B W t) => rFRight_any t B W h K)
  have KT := Lib.hid K
  clear K C
  have E := Lib.hid (decide_eq_false few)
  rw [E.out] at XF
  clear few E
  go_enter Try.func4, Try.ntmps4
  go_wp2_with fail
  refine calls_gen (S := fun W => WP w W B t x y a0 a1) ⟨⟨⟨((BW.new w _ (trkL t) _ rfl).alloc _).alloc _, by repeat (first | exact Below.refl _ _ | assumption | refine Below.setCell ?_ (by first | omega | (simp; done) | (simp; omega)) _ | refine Below.alloc ?_ (by first | omega | (simp; done) | (simp; omega)) _ | refine below_drewN ?_ _ | refine Below.drew ?_ | refine Below.trans ?_ (Below.mono (by assumption) (by first | omega | (simp; done) | (simp; omega)))), KT.out.keep (show Below w.heap.size w _ by repeat (first | exact Below.refl _ _ | assumption | refine Below.setCell ?_ (by first | omega | (simp; done) | (simp; omega)) _ | refine Below.alloc ?_ (by first | omega | (simp; done) | (simp; omega)) _ | refine below_drewN ?_ _ | refine Below.drew ?_ | refine Below.trans ?_ (Below.mono (by assumption) (by first | omega | (simp; done) | (simp; omega))))) HB.out, HB.out⟩, (BW.new _ _ [_, _] _ (by simp)).alloc _⟩, BW.new _ _ [_, _] _ (by simp)⟩ (fun W1 hS => ?_)
  have Q1 := Lib.hid hS
  clear hS
  refine (XF.out _ Q1.out.bz Q1.out.h.q.t).mono ?_
  rintro e w2 ⟨rfl, h⟩
  have Q2 := Lib.hid (Q1.out.step h)
  clear h Q1 XF
  go_wp2_with fail
  refine (fawake_any F HC.out _).mono ?_
  rintro e w9 ⟨rfl, h⟩
  have Q9 := Lib.hid (Q2.out.step h)
  clear h
  go_wp2
  go_ret
  exact ⟨rfl, Q9.out.h.q.l⟩
set_option maxRecDepth 100000 in
set_option maxHeartbeats 4000000 in
theorem fwhere_no (F : FieldT) (C : FieldC F) (t : Trk) (x y a0 a1 : Int) (B : Nat) (w : World) (hB : B ≤ w.heap.size) (K : TrkM B w t) (few : fewT t) (k : rightFd t ≠ 0) :
    Calls Try.prog 4 #[trkV t, .agg #[.int .i64 x, .int .i64 y], .agg #[.int .i64 a0, .int .i64 a1]] w fun e w' => e = .returned (.bool true) ∧ Below w.heap.size w w' := by
  have HC := Lib.hid C
  have HB := Lib.hid hB
  have XF := Lib.hid (fun (W : World) (h : B ≤ W.heap.size) (K : TrkM B W t) => gfew_any t B W h K)
  have XR := Lib.hid (fun (W : World) (h : B ≤ W.heap.size) (K : TrkM B W t) => rFRight_any t B W h K)
  have KT := Lib.hid K
  clear K C
  have E := Lib.hid (decide_eq_true few)
  rw [E.out] at XF
  obtain ⟨er, her⟩ : ∃ er, rightFd t = er := ⟨_, rfl⟩
  rw [her] at XR k
  clear few E her
  go_enter Try.func4, Try.ntmps4
  go_wp2_with fail
  refine calls_gen (S := fun W => WP w W B t x y a0 a1) ⟨⟨⟨((BW.new w _ (trkL t) _ rfl).alloc _).alloc _, by repeat (first | exact Below.refl _ _ | assumption | refine Below.setCell ?_ (by first | omega | (simp; done) | (simp; omega)) _ | refine Below.alloc ?_ (by first | omega | (simp; done) | (simp; omega)) _ | refine below_drewN ?_ _ | refine Below.drew ?_ | refine Below.trans ?_ (Below.mono (by assumption) (by first | omega | (simp; done) | (simp; omega)))), KT.out.keep (show Below w.heap.size w _ by repeat (first | exact Below.refl _ _ | assumption | refine Below.setCell ?_ (by first | omega | (simp; done) | (simp; omega)) _ | refine Below.alloc ?_ (by first | omega | (simp; done) | (simp; omega)) _ | refine below_drewN ?_ _ | refine Below.drew ?_ | refine Below.trans ?_ (Below.mono (by assumption) (by first | omega | (simp; done) | (simp; omega))))) HB.out, HB.out⟩, (BW.new _ _ [_, _] _ (by simp)).alloc _⟩, BW.new _ _ [_, _] _ (by simp)⟩ (fun W1 hS => ?_)
  have Q1 := Lib.hid hS
  clear hS
  refine (XF.out _ Q1.out.bz Q1.out.h.q.t).mono ?_
  rintro e w2 ⟨rfl, h⟩
  have Q2 := Lib.hid (Q1.out.step h)
  clear h Q1 XF
  obtain ⟨⟨⟨q0, q1, q2, q3, q4, q5, q6, q7, q8, q9, q10, q11, q12, q13, q14, q15⟩, e0, e1⟩, u0, u1⟩ := Q2.out.cs
  go_wp2_with fail
  refine (XR.out _ Q2.out.bz Q2.out.h.q.t).mono ?_
  rintro e w3 ⟨rfl, h⟩
  have Q3 := Lib.hid (Q2.out.step h)
  clear q0 q1 q2 q3 q4 q5 q6 q7 q8 q9 q10 q11 q12 q13 q14 q15 e0 e1 u0 u1
  clear h XR Q2
  go_wp2_with fail
  refine (fawake_any F HC.out _).mono ?_
  rintro e w9 ⟨rfl, h⟩
  have Q9 := Lib.hid (Q3.out.step h)
  clear h
  go_wp2
  go_ret
  exact ⟨rfl, Q9.out.h.q.l⟩
theorem hs_new2 {F : FieldT} {w W : World} {B top f : Nat} {t : Trk} {x y : Int} (p : F.P 0 top W f t) (q : HP w W B t x y) (hB : B ≤ w.heap.size) (o1 o2 : Obj) (b1 : BW (W.alloc o1) W.heap.size [.bool false]) (b2 : BW ((W.alloc o1).alloc o2) (W.heap.size + 1) [.bool false]) : HS F w ((W.alloc o1).alloc o2) B top f W.heap.size (W.heap.size + 1) false false t x y := by
  have B1 : Below W.heap.size W ((W.alloc o1).alloc o2) := ((Below.refl W.heap.size W).alloc (Nat.le_refl _) o1).alloc (by simp) o2
  have b1' := b1.alloc o2
  have l := q.e.lt
  have tp := F.top p
  exact ⟨⟨⟨F.step p B1, ⟨b1'.c 0 _ rfl, b1'.f 0, b1'.lt⟩, q.q.l.trans (B1.mono q.q.l.size), Or.inr tp, q.q.l.size⟩, ⟨b2.c 0 _ rfl, b2.f 0, b2.lt⟩, Or.inr (by omega), by have := q.q.l.size; omega, by omega⟩, (q.q.c.alloc o1).alloc o2, (q.e.alloc o1).alloc o2, q.q.t.keep B1 (by have := q.q.l.size; omega), hB, l, by omega⟩
set_option maxRecDepth 100000 in
set_option maxHeartbeats 8000000 in
theorem fwhere_yes (F : FieldT) (C : FieldC F) (t : Trk) (x y a0 a1 : Int) (B : Nat) (w : World) (hB : B ≤ w.heap.size) (K : TrkM B w t) (hx : In64 x) (hy : In64 y) (h0 : In64 a0) (h1 : In64 a1) (few : fewT t) (k : rightFd t = 0) :
    Calls Try.prog 4 #[trkV t, .agg #[.int .i64 x, .int .i64 y], .agg #[.int .i64 a0, .int .i64 a1]] w fun e w' => e = .returned (.bool true) ∧ Below w.heap.size w w' := by
  have HC := Lib.hid C
  have HB := Lib.hid hB
  have XF := Lib.hid (fun (W : World) (h : B ≤ W.heap.size) (K : TrkM B W t) => gfew_any t B W h K)
  have XR := Lib.hid (fun (W : World) (h : B ≤ W.heap.size) (K : TrkM B W t) => rFRight_any t B W h K)
  have KT := Lib.hid K
  clear K C
  have E := Lib.hid (decide_eq_true few)
  rw [E.out] at XF
  rw [k] at XR
  have RI := Lib.hid (right_is k)
  have XN := Lib.hid (fun (W : World) (h : B ≤ W.heap.size) (K : TrkM B W t) => HC.out.yes t 0 B W h K (Nat.zero_le _) (TrkLo.zero t) k)
  have H64 := Lib.hid (show In64 x ∧ In64 y ∧ In64 a0 ∧ In64 a1 from ⟨hx, hy, h0, h1⟩)
  clear few E k hx hy h0 h1
  go_enter Try.func4, Try.ntmps4
  go_wp2_with fail
  refine calls_gen (S := fun W => WP w W B t x y a0 a1) ⟨⟨⟨((BW.new w _ (trkL t) _ rfl).alloc _).alloc _, by repeat (first | exact Below.refl _ _ | assumption | refine Below.setCell ?_ (by first | omega | (simp; done) | (simp; omega)) _ | refine Below.alloc ?_ (by first | omega | (simp; done) | (simp; omega)) _ | refine below_drewN ?_ _ | refine Below.drew ?_ | refine Below.trans ?_ (Below.mono (by assumption) (by first | omega | (simp; done) | (simp; omega)))), KT.out.keep (show Below w.heap.size w _ by repeat (first | exact Below.refl _ _ | assumption | refine Below.setCell ?_ (by first | omega | (simp; done) | (simp; omega)) _ | refine Below.alloc ?_ (by first | omega | (simp; done) | (simp; omega)) _ | refine below_drewN ?_ _ | refine Below.drew ?_ | refine Below.trans ?_ (Below.mono (by assumption) (by first | omega | (simp; done) | (simp; omega))))) HB.out, HB.out⟩, (BW.new _ _ [_, _] _ (by simp)).alloc _⟩, BW.new _ _ [_, _] _ (by simp)⟩ (fun W1 hS => ?_)
  have Q1 := Lib.hid hS
  clear hS
  refine (XF.out _ Q1.out.bz Q1.out.h.q.t).mono ?_
  rintro e w2 ⟨rfl, h⟩
  have Q2 := Lib.hid (Q1.out.step h)
  clear h Q1 XF
  obtain ⟨⟨⟨q0, q1, q2, q3, q4, q5, q6, q7, q8, q9, q10, q11, q12, q13, q14, q15⟩, e0, e1⟩, u0, u1⟩ := Q2.out.cs
  go_wp2_with fail
  refine (XR.out _ Q2.out.bz Q2.out.h.q.t).mono ?_
  rintro e w3 ⟨rfl, h⟩
  have Q3 := Lib.hid (Q2.out.step h)
  clear q0 q1 q2 q3 q4 q5 q6 q7 q8 q9 q10 q11 q12 q13 q14 q15 e0 e1 u0 u1
  clear h XR Q2
  obtain ⟨⟨⟨q0, q1, q2, q3, q4, q5, q6, q7, q8, q9, q10, q11, q12, q13, q14, q15⟩, e0, e1⟩, u0, u1⟩ := Q3.out.cs
  go_wp2_with fail
  refine (XN.out _ Q3.out.bz Q3.out.h.q.t).mono ?_
  rintro e w4 ⟨⟨f, rfl, hp⟩, h⟩
  have Q4 := Lib.hid (Q3.out.step h)
  have P4 := Lib.hid hp
  clear q0 q1 q2 q3 q4 q5 q6 q7 q8 q9 q10 q11 q12 q13 q14 q15 e0 e1 u0 u1
  clear h hp Q3 XN
  obtain ⟨top, htop⟩ : ∃ top, w4.heap.size = top := ⟨_, rfl⟩
  rw [htop] at P4
  clear htop
  have e0 := Q4.out.h.e.c 0 _ rfl
  have e1 := Q4.out.h.e.c 1 _ rfl
  go_wp2_with fail
  refine (HC.out.where_ t x y 0 top f _ H64.out.1 H64.out.2.1 P4.out).mono ?_
  rintro e w5 ⟨rfl, h⟩
  have P5 := Lib.hid (F.step P4.out h)
  have Q5 := Lib.hid (Q4.out.step h)
  clear h P4 Q4 e0 e1
  obtain ⟨⟨⟨q0, q1, q2, q3, q4, q5, q6, q7, q8, q9, q10, q11, q12, q13, q14, q15⟩, e0, e1⟩, u0, u1⟩ := Q5.out.cs
  go_wp2_with fail
  refine (rFWhere_any t x y B _ Q5.out.bz (TrkR.of RI.out.1 RI.out.2) Q5.out.h.q.t).mono ?_
  rintro e w6 ⟨rfl, h⟩
  have P6 := Lib.hid (F.step P5.out h)
  have Q6 := Lib.hid (Q5.out.step h)
  clear q0 q1 q2 q3 q4 q5 q6 q7 q8 q9 q10 q11 q12 q13 q14 q15 e0 e1 u0 u1
  clear h P5 Q5
  generalize whK t x = wk at *
  generalize whR t y = wr at *
  generalize whX t x = wx at *
  generalize whY t y = wy at *
  go_wp2_with fail
  have P7 := Lib.hid (F.step P6.out ((Below.refl w6.heap.size w6).drew))
  have Q7 := Lib.hid (Q6.out.step ((Below.refl w6.heap.size w6).drew))
  as_aux_lemma =>
  refine wp_region_held_drew (S := fun W => AsC W w.heap.size t x y a0 a1) (by kernel_rfl) Q7.out.cs (fun hHeld => ?_)
  generalize w6.drew = w7 at *
  clear P6 Q6
  unfold AsC at hHeld ⊢
  refine wpAnyH_takeD 0 62 (v := ?_) (by decide +kernel) (by decide +kernel) (by decide +kernel) (by decide +kernel) (by rfl) (fun _ _ _ h => h) ?_ hHeld ?_
  rotate_left 1
  (intro o ho W hSw; simp only [List.getElem?_toArray, List.getElem?_cons_succ, List.getElem?_cons_zero, Option.some.injEq] at ho; subst ho; (try dsimp only [HSc] at hSw); go_simp; try with_reducible rfl)
  (try simp only [Act.put, List.setIfInBounds_toArray, List.set_cons_zero, List.set_cons_succ])
  refine wpAnyH_takeD 1 63 (v := ?_) (by decide +kernel) (by decide +kernel) (by decide +kernel) (by decide +kernel) (by rfl) (fun _ _ _ h => h) ?_ hHeld ?_
  rotate_left 1
  (intro o ho W hSw; simp only [List.getElem?_toArray, List.getElem?_cons_succ, List.getElem?_cons_zero, Option.some.injEq] at ho; subst ho; (try dsimp only [HSc] at hSw); go_simp; try with_reducible rfl)
  (try simp only [Act.put, List.setIfInBounds_toArray, List.set_cons_zero, List.set_cons_succ])
  refine wpAnyH_takeD 2 64 (v := ?_) (by decide +kernel) (by decide +kernel) (by decide +kernel) (by decide +kernel) (by rfl) (fun _ _ _ h => h) ?_ hHeld ?_
  rotate_left 1
  (intro o ho W hSw; simp only [List.getElem?_toArray, List.getElem?_cons_succ, List.getElem?_cons_zero, Option.some.injEq] at ho; subst ho; (try dsimp only [HSc] at hSw); go_simp; try with_reducible rfl)
  (try simp only [Act.put, List.setIfInBounds_toArray, List.set_cons_zero, List.set_cons_succ])
  refine wpAnyH_takeD 3 65 (v := ?_) (by decide +kernel) (by decide +kernel) (by decide +kernel) (by decide +kernel) (by rfl) (fun _ _ _ h => h) ?_ hHeld ?_
  rotate_left 1
  (intro o ho W hSw; simp only [List.getElem?_toArray, List.getElem?_cons_succ, List.getElem?_cons_zero, Option.some.injEq] at ho; subst ho; (try dsimp only [HSc] at hSw); go_simp; try with_reducible rfl)
  (try simp only [Act.put, List.setIfInBounds_toArray, List.set_cons_zero, List.set_cons_succ])
  refine wpAnyH_takeD 4 66 (v := ?_) (by decide +kernel) (by decide +kernel) (by decide +kernel) (by decide +kernel) (by rfl) (fun _ _ _ h => h) ?_ hHeld ?_
  rotate_left 1
  (intro o ho W hSw; simp only [List.getElem?_toArray, List.getElem?_cons_succ, List.getElem?_cons_zero, Option.some.injEq] at ho; subst ho; (try dsimp only [HSc] at hSw); go_simp; try with_reducible rfl)
  (try simp only [Act.put, List.setIfInBounds_toArray, List.set_cons_zero, List.set_cons_succ])
  refine wpAnyH_takeD 5 67 (v := ?_) (by decide +kernel) (by decide +kernel) (by decide +kernel) (by decide +kernel) (by rfl) (fun _ _ _ h => h) ?_ hHeld ?_
  rotate_left 1
  (intro o ho W hSw; simp only [List.getElem?_toArray, List.getElem?_cons_succ, List.getElem?_cons_zero, Option.some.injEq] at ho; subst ho; (try dsimp only [HSc] at hSw); go_simp; try with_reducible rfl)
  (try simp only [Act.put, List.setIfInBounds_toArray, List.set_cons_zero, List.set_cons_succ])
  refine wpAnyH_takeD 6 68 (v := ?_) (by decide +kernel) (by decide +kernel) (by decide +kernel) (by decide +kernel) (by rfl) (fun _ _ _ h => h) ?_ hHeld ?_
  rotate_left 1
  (intro o ho W hSw; simp only [List.getElem?_toArray, List.getElem?_cons_succ, List.getElem?_cons_zero, Option.some.injEq] at ho; subst ho; (try dsimp only [HSc] at hSw); go_simp; try with_reducible rfl)
  (try simp only [Act.put, List.setIfInBounds_toArray, List.set_cons_zero, List.set_cons_succ])
  refine wpAnyH_takeD 7 69 (v := ?_) (by decide +kernel) (by decide +kernel) (by decide +kernel) (by decide +kernel) (by rfl) (fun _ _ _ h => h) ?_ hHeld ?_
  rotate_left 1
  (intro o ho W hSw; simp only [List.getElem?_toArray, List.getElem?_cons_succ, List.getElem?_cons_zero, Option.some.injEq] at ho; subst ho; (try dsimp only [HSc] at hSw); go_simp; try with_reducible rfl)
  (try simp only [Act.put, List.setIfInBounds_toArray, List.set_cons_zero, List.set_cons_succ])
  refine wpAnyH_takeD 8 70 (v := ?_) (by decide +kernel) (by decide +kernel) (by decide +kernel) (by decide +kernel) (by rfl) (fun _ _ _ h => h) ?_ hHeld ?_
  rotate_left 1
  (intro o ho W hSw; simp only [List.getElem?_toArray, List.getElem?_cons_succ, List.getElem?_cons_zero, Option.some.injEq] at ho; subst ho; (try dsimp only [HSc] at hSw); go_simp; try with_reducible rfl)
  (try simp only [Act.put, List.setIfInBounds_toArray, List.set_cons_zero, List.set_cons_succ])
  refine wpAnyH_takeD 9 71 (v := ?_) (by decide +kernel) (by decide +kernel) (by decide +kernel) (by decide +kernel) (by rfl) (fun _ _ _ h => h) ?_ hHeld ?_
  rotate_left 1
  (intro o ho W hSw; simp only [List.getElem?_toArray, List.getElem?_cons_succ, List.getElem?_cons_zero, Option.some.injEq] at ho; subst ho; (try dsimp only [HSc] at hSw); go_simp; try with_reducible rfl)
  (try simp only [Act.put, List.setIfInBounds_toArray, List.set_cons_zero, List.set_cons_succ])
  refine wpAnyH_takeD 10 72 (v := ?_) (by decide +kernel) (by decide +kernel) (by decide +kernel) (by decide +kernel) (by rfl) (fun _ _ _ h => h) ?_ hHeld ?_
  rotate_left 1
  (intro o ho W hSw; simp only [List.getElem?_toArray, List.getElem?_cons_succ, List.getElem?_cons_zero, Option.some.injEq] at ho; subst ho; (try dsimp only [HSc] at hSw); go_simp; try with_reducible rfl)
  (try simp only [Act.put, List.setIfInBounds_toArray, List.set_cons_zero, List.set_cons_succ])
  refine wpAnyH_takeD 11 73 (v := ?_) (by decide +kernel) (by decide +kernel) (by decide +kernel) (by decide +kernel) (by rfl) (fun _ _ _ h => h) ?_ hHeld ?_
  rotate_left 1
  (intro o ho W hSw; simp only [List.getElem?_toArray, List.getElem?_cons_succ, List.getElem?_cons_zero, Option.some.injEq] at ho; subst ho; (try dsimp only [HSc] at hSw); go_simp; try with_reducible rfl)
  (try simp only [Act.put, List.setIfInBounds_toArray, List.set_cons_zero, List.set_cons_succ])
  refine wpAnyH_takeD 12 74 (v := ?_) (by decide +kernel) (by decide +kernel) (by decide +kernel) (by decide +kernel) (by rfl) (fun _ _ _ h => h) ?_ hHeld ?_
  rotate_left 1
  (intro o ho W hSw; simp only [List.getElem?_toArray, List.getElem?_cons_succ, List.getElem?_cons_zero, Option.some.injEq] at ho; subst ho; (try dsimp only [HSc] at hSw); go_simp; try with_reducible rfl)
  (try simp only [Act.put, List.setIfInBounds_toArray, List.set_cons_zero, List.set_cons_succ])
  refine wpAnyH_takeD 13 75 (v := ?_) (by decide +kernel) (by decide +kernel) (by decide +kernel) (by decide +kernel) (by rfl) (fun _ _ _ h => h) ?_ hHeld ?_
  rotate_left 1
  (intro o ho W hSw; simp only [List.getElem?_toArray, List.getElem?_cons_succ, List.getElem?_cons_zero, Option.some.injEq] at ho; subst ho; (try dsimp only [HSc] at hSw); go_simp; try with_reducible rfl)
  (try simp only [Act.put, List.setIfInBounds_toArray, List.set_cons_zero, List.set_cons_succ])
  refine wpAnyH_takeD 14 76 (v := ?_) (by decide +kernel) (by decide +kernel) (by decide +kernel) (by decide +kernel) (by rfl) (fun _ _ _ h => h) ?_ hHeld ?_
  rotate_left 1
  (intro o ho W hSw; simp only [List.getElem?_toArray, List.getElem?_cons_succ, List.getElem?_cons_zero, Option.some.injEq] at ho; subst ho; (try dsimp only [HSc] at hSw); go_simp; try with_reducible rfl)
  (try simp only [Act.put, List.setIfInBounds_toArray, List.set_cons_zero, List.set_cons_succ])
  refine wpAnyH_takeD 15 77 (v := ?_) (by decide +kernel) (by decide +kernel) (by decide +kernel) (by decide +kernel) (by rfl) (fun _ _ _ h => h) ?_ hHeld ?_
  rotate_left 1
  (intro o ho W hSw; simp only [List.getElem?_toArray, List.getElem?_cons_succ, List.getElem?_cons_zero, Option.some.injEq] at ho; subst ho; (try dsimp only [HSc] at hSw); go_simp; try with_reducible rfl)
  (try simp only [Act.put, List.setIfInBounds_toArray, List.set_cons_zero, List.set_cons_succ])
  refine wpAnyH_takeD 16 78 (v := ?_) (by decide +kernel) (by decide +kernel) (by decide +kernel) (by decide +kernel) (by rfl) (fun _ _ _ h => h) ?_ hHeld ?_
  rotate_left 1
  (intro o ho W hSw; simp only [List.getElem?_toArray, List.getElem?_cons_succ, List.getElem?_cons_zero, Option.some.injEq] at ho; subst ho; (try dsimp only [HSc] at hSw); go_simp; try with_reducible rfl)
  (try simp only [Act.put, List.setIfInBounds_toArray, List.set_cons_zero, List.set_cons_succ])
  refine wpAnyH_takeD 17 79 (v := ?_) (by decide +kernel) (by decide +kernel) (by decide +kernel) (by decide +kernel) (by rfl) (fun _ _ _ h => h) ?_ hHeld ?_
  rotate_left 1
  (intro o ho W hSw; simp only [List.getElem?_toArray, List.getElem?_cons_succ, List.getElem?_cons_zero, Option.some.injEq] at ho; subst ho; (try dsimp only [HSc] at hSw); go_simp; try with_reducible rfl)
  (try simp only [Act.put, List.setIfInBounds_toArray, List.set_cons_zero, List.set_cons_succ])
  refine wpAnyH_takeD 18 80 (v := ?_) (by decide +kernel) (by decide +kernel) (by decide +kernel) (by decide +kernel) (by rfl) (fun _ _ _ h => h) ?_ hHeld ?_
  rotate_left 1
  (intro o ho W hSw; simp only [List.getElem?_toArray, List.getElem?_cons_succ, List.getElem?_cons_zero, Option.some.injEq] at ho; subst ho; (try dsimp only [HSc] at hSw); go_simp; try with_reducible rfl)
  (try simp only [Act.put, List.setIfInBounds_toArray, List.set_cons_zero, List.set_cons_succ])
  refine wpAnyH_takeD 19 81 (v := ?_) (by decide +kernel) (by decide +kernel) (by decide +kernel) (by decide +kernel) (by rfl) (fun _ _ _ h => h) ?_ hHeld ?_
  rotate_left 1
  (intro o ho W hSw; simp only [List.getElem?_toArray, List.getElem?_cons_succ, List.getElem?_cons_zero, Option.some.injEq] at ho; subst ho; (try dsimp only [HSc] at hSw); go_simp; try with_reducible rfl)
  (try simp only [Act.put, List.setIfInBounds_toArray, List.set_cons_zero, List.set_cons_succ])
  refine wpAnyH_takeD 20 82 (v := ?_) (by decide +kernel) (by decide +kernel) (by decide +kernel) (by decide +kernel) (by rfl) (fun _ _ _ h => h) ?_ hHeld ?_
  rotate_left 1
  (intro o ho W hSw; simp only [List.getElem?_toArray, List.getElem?_cons_succ, List.getElem?_cons_zero, Option.some.injEq] at ho; subst ho; (try dsimp only [HSc] at hSw); go_simp; try with_reducible rfl)
  (try simp only [Act.put, List.setIfInBounds_toArray, List.set_cons_zero, List.set_cons_succ])
  refine wpAnyH_takeD 21 83 (v := ?_) (by decide +kernel) (by decide +kernel) (by decide +kernel) (by decide +kernel) (by rfl) (fun _ _ _ h => h) ?_ hHeld ?_
  rotate_left 1
  (intro o ho W hSw; simp only [List.getElem?_toArray, List.getElem?_cons_succ, List.getElem?_cons_zero, Option.some.injEq] at ho; subst ho; (try dsimp only [HSc] at hSw); go_simp; try with_reducible rfl)
  (try simp only [Act.put, List.setIfInBounds_toArray, List.set_cons_zero, List.set_cons_succ])
  refine wpAnyH_takeD 22 84 (v := ?_) (by decide +kernel) (by decide +kernel) (by decide +kernel) (by decide +kernel) (by rfl) (fun _ _ _ h => h) ?_ hHeld ?_
  rotate_left 1
  (intro o ho W hSw; simp only [List.getElem?_toArray, List.getElem?_cons_succ, List.getElem?_cons_zero, Option.some.injEq] at ho; subst ho; (try dsimp only [HSc] at hSw); go_simp; try with_reducible rfl)
  (try simp only [Act.put, List.setIfInBounds_toArray, List.set_cons_zero, List.set_cons_succ])
  refine wpAnyH_takeD 23 85 (v := ?_) (by decide +kernel) (by decide +kernel) (by decide +kernel) (by decide +kernel) (by rfl) (fun _ _ _ h => h) ?_ hHeld ?_
  rotate_left 1
  (intro o ho W hSw; simp only [List.getElem?_toArray, List.getElem?_cons_succ, List.getElem?_cons_zero, Option.some.injEq] at ho; subst ho; (try dsimp only [HSc] at hSw); go_simp; try with_reducible rfl)
  (try simp only [Act.put, List.setIfInBounds_toArray, List.set_cons_zero, List.set_cons_succ])
  refine wpAnyH_takeD 25 87 (v := ?_) (by decide +kernel) (by decide +kernel) (by decide +kernel) (by decide +kernel) (by rfl) (fun _ _ _ h => h) ?_ hHeld ?_
  rotate_left 1
  (intro o ho W hSw; simp only [List.getElem?_toArray, List.getElem?_cons_succ, List.getElem?_cons_zero, Option.some.injEq] at ho; subst ho; (try dsimp only [HSc] at hSw); go_simp; try with_reducible rfl)
  (try simp only [Act.put, List.setIfInBounds_toArray, List.set_cons_zero, List.set_cons_succ])
  refine wpAnyH_takeD 26 88 (v := ?_) (by decide +kernel) (by decide +kernel) (by decide +kernel) (by decide +kernel) (by rfl) (fun _ _ _ h => h) ?_ hHeld ?_
  rotate_left 1
  (intro o ho W hSw; simp only [List.getElem?_toArray, List.getElem?_cons_succ, List.getElem?_cons_zero, Option.some.injEq] at ho; subst ho; (try dsimp only [HSc] at hSw); go_simp; try with_reducible rfl)
  (try simp only [Act.put, List.setIfInBounds_toArray, List.set_cons_zero, List.set_cons_succ])
  refine wpAnyH_takeD 27 89 (v := ?_) (by decide +kernel) (by decide +kernel) (by decide +kernel) (by decide +kernel) (by rfl) (fun _ _ _ h => h) ?_ hHeld ?_
  rotate_left 1
  (intro o ho W hSw; simp only [List.getElem?_toArray, List.getElem?_cons_succ, List.getElem?_cons_zero, Option.some.injEq] at ho; subst ho; (try dsimp only [HSc] at hSw); go_simp; try with_reducible rfl)
  (try simp only [Act.put, List.setIfInBounds_toArray, List.set_cons_zero, List.set_cons_succ])
  refine wpAnyH_takeD 28 90 (v := ?_) (by decide +kernel) (by decide +kernel) (by decide +kernel) (by decide +kernel) (by rfl) (fun _ _ _ h => h) ?_ hHeld ?_
  rotate_left 1
  (intro o ho W hSw; simp only [List.getElem?_toArray, List.getElem?_cons_succ, List.getElem?_cons_zero, Option.some.injEq] at ho; subst ho; (try dsimp only [HSc] at hSw); go_simp; try with_reducible rfl)
  (try simp only [Act.put, List.setIfInBounds_toArray, List.set_cons_zero, List.set_cons_succ])
  refine wpAnyH_takeD 29 91 (v := ?_) (by decide +kernel) (by decide +kernel) (by decide +kernel) (by decide +kernel) (by rfl) (fun _ _ _ h => h) ?_ hHeld ?_
  rotate_left 1
  (intro o ho W hSw; simp only [List.getElem?_toArray, List.getElem?_cons_succ, List.getElem?_cons_zero, Option.some.injEq] at ho; subst ho; (try dsimp only [HSc] at hSw); go_simp; try with_reducible rfl)
  (try simp only [Act.put, List.setIfInBounds_toArray, List.set_cons_zero, List.set_cons_succ])
  refine wpAnyH_onlyD 24 (by decide +kernel) (fun o ho K hK => ?_) (by decide +kernel)
  simp only [List.getElem?_toArray, List.getElem?_cons_succ, List.getElem?_cons_zero, Option.some.injEq] at ho
  subst ho
  go_simp
  refine (HC.out.base t a0 a1 0 top f _ H64.out.2.2.1 H64.out.2.2.2 P7.out).mono ?_
  rintro e w8 ⟨rfl, h⟩
  have P8 := Lib.hid (F.step P7.out h)
  have Q8 := Lib.hid (Q7.out.step h)
  go_wp2_with fail
  refine hK.out _ _ (Q8.out.cs) ?_
  clear hK K hHeld
  intro hHeld
  clear h P7 Q7
  refine wpAnyH_onlyD 30 (by decide +kernel) (fun o ho K hK => ?_) (by decide +kernel)
  simp only [List.getElem?_toArray, List.getElem?_cons_succ, List.getElem?_cons_zero, Option.some.injEq] at ho
  subst ho
  go_simp
  refine (rFBase_any t a0 a1 B _ Q8.out.bz RI.out.1 Q8.out.h.q.t).mono ?_
  rintro e w9 ⟨rfl, h⟩
  have P9 := Lib.hid (F.step P8.out h)
  have Q9 := Lib.hid (Q8.out.step h)
  go_wp2_with fail
  refine hK.out _ _ (Q9.out.cs) ?_
  clear hK K hHeld
  intro hHeld
  clear h P8 Q8
  refine wpAnyH_takeD 31 93 (v := ?_) (by decide +kernel) (by decide +kernel) (by decide +kernel) (by decide +kernel) (by rfl) (fun _ _ _ h => h) ?_ hHeld ?_
  rotate_left 1
  (intro o ho W hSw; simp only [List.getElem?_toArray, List.getElem?_cons_succ, List.getElem?_cons_zero, Option.some.injEq] at ho; subst ho; (try dsimp only [HSc] at hSw); go_simp; try with_reducible rfl)
  (try simp only [Act.put, List.setIfInBounds_toArray, List.set_cons_zero, List.set_cons_succ])
  refine wpAnyH_takeD 32 94 (v := ?_) (by decide +kernel) (by decide +kernel) (by decide +kernel) (by decide +kernel) (by rfl) (fun _ _ _ h => h) ?_ hHeld ?_
  rotate_left 1
  (intro o ho W hSw; simp only [List.getElem?_toArray, List.getElem?_cons_succ, List.getElem?_cons_zero, Option.some.injEq] at ho; subst ho; (try dsimp only [HSc] at hSw); go_simp; try with_reducible rfl)
  (try simp only [Act.put, List.setIfInBounds_toArray, List.set_cons_zero, List.set_cons_succ])
  refine wpAnyH_done (by kernel_rfl) ?_ _
  clear hHeld
  as_aux_lemma =>
  go_wp2_with fail
  have S9 := Lib.hid (show WR F w ((w9.alloc (.cells #[.bool false] 53)).alloc (.cells #[.bool false] 55)) B top f w9.heap.size (w9.heap.size + 1) t x y a0 a1 from ⟨hs_new2 P9.out Q9.out.h HB.out _ _ (BW.new w9 w9.heap.size [.bool false] _ rfl) (BW.new _ _ [.bool false] _ (by simp)), (Q9.out.u.alloc _).alloc _, Q9.out.u.lt, by have := Q9.out.u.lt; omega⟩)
  obtain ⟨m, hm⟩ : ∃ m, w9.heap.size = m := ⟨_, rfl⟩
  rw [hm] at S9 ⊢
  clear hm
  refine wp_gen (S := fun W => WR F w W B top f m (m + 1) t x y a0 a1) S9.out (fun W5 hS => ?_)
  clear P9 Q9 S9
  have S0 := Lib.hid hS
  clear hS
  obtain ⟨d, hd⟩ : ∃ d, m + 1 = d := ⟨_, rfl⟩
  rw [hd] at S0 ⊢
  clear hd
  go_loopw [19] (fun i wr => ∃ j : Nat, j ≤ 2 ∧ i = .int .i64 j ∧ WR F w wr B top f m d t x y a0 a1) (fun i _ => 2 - (intOf i).toNat)
  case atStart => exact ⟨0, by omega, rfl, S0.out⟩
  case round =>
    obtain ⟨j, hj, rfl, hS⟩ := hrel
    have R1 := Lib.hid hS
    clear hS S0
    by_cases c : j < 2
    · have E1 := Lib.hid R1.out.cs
      obtain ⟨-, u0, u1⟩ := E1.out
      go_wp2_with fail
      refine (HC.out.slopes t a0 a1 _ m 0 false 0 top f _ H64.out.2.2.1 H64.out.2.2.2 R1.out.h.g.g.p R1.out.h.g.g.e R1.out.h.g.g.a).mono ?_
      rintro e w2 ⟨rfl, h⟩
      have R2 := Lib.hid (R1.out.fx h)
      clear h R1 u0 u1 E1
      obtain ⟨⟨⟨q0, q1, q2, q3, q4, q5, q6, q7, q8, q9, q10, q11, q12, q13, q14, q15⟩, e0, e1⟩, u0, u1⟩ := R2.out.cs
      go_wp2_with fail
      refine (rFSlopes_any t a0 a1 _ d 0 false B _ (by have := R2.out.dd; have := R2.out.h.hB; omega) RI.out.1 RI.out.2 R2.out.h.k R2.out.h.g.a).mono ?_
      rintro e w3 ⟨rfl, h⟩
      have R3 := Lib.hid (R2.out.dx h)
      clear h R2 q0 q1 q2 q3 q4 q5 q6 q7 q8 q9 q10 q11 q12 q13 q14 q15 e0 e1 u0 u1
      go_wp2
      go_roundw
      case rel => exact ⟨j + 1, by omega, by go_num, R3.out⟩
      case measure => (simp [intOf]; try omega)
    · have e : ¬ (j : Int) < 2 := by omega
      go_wp2_with fail
      have R2 := Lib.hid (R1.out.step ((Below.refl _ _).drew))
      clear R1
      refine wp_region_held_drew (S := fun W => W.cell? ⟨m, 0, none⟩ = some (.bool false) ∧ W.cell? ⟨d, 0, none⟩ = some (.bool false)) (by kernel_rfl) R2.out.fl (fun hHeld => ?_)
      generalize World.drew _ = w7 at *
      refine wpAnyH_takeD 0 135 (v := ?_) (by decide +kernel) (by decide +kernel) (by decide +kernel) (by decide +kernel) (by rfl) (fun _ _ _ h => h) ?_ hHeld ?_
      rotate_left 1
      (intro o ho W hSw; simp only [List.getElem?_toArray, List.getElem?_cons_succ, List.getElem?_cons_zero, Option.some.injEq] at ho; subst ho; (try dsimp only [HSc] at hSw); go_simp; try with_reducible rfl)
      (try simp only [Act.put, List.setIfInBounds_toArray, List.set_cons_zero, List.set_cons_succ])
      refine wpAnyH_takeD 1 136 (v := ?_) (by decide +kernel) (by decide +kernel) (by decide +kernel) (by decide +kernel) (by rfl) (fun _ _ _ h => h) ?_ hHeld ?_
      rotate_left 1
      (intro o ho W hSw; simp only [List.getElem?_toArray, List.getElem?_cons_succ, List.getElem?_cons_zero, Option.some.injEq] at ho; subst ho; (try dsimp only [HSc] at hSw); go_simp; try with_reducible rfl)
      (try simp only [Act.put, List.setIfInBounds_toArray, List.set_cons_zero, List.set_cons_succ])
      refine wpAnyH_takeD 2 137 (v := ?_) (by decide +kernel) (by decide +kernel) (by decide +kernel) (by decide +kernel) (by rfl) (fun _ _ _ h => h) ?_ hHeld ?_
      rotate_left 1
      (intro o ho W hSw; simp only [List.getElem?_toArray, List.getElem?_cons_succ, List.getElem?_cons_zero, Option.some.injEq] at ho; subst ho; (try dsimp only [HSc] at hSw); go_simp; try with_reducible rfl)
      (try simp only [Act.put, List.setIfInBounds_toArray, List.set_cons_zero, List.set_cons_succ])
      refine wpAnyH_takeD 3 138 (v := ?_) (by decide +kernel) (by decide +kernel) (by decide +kernel) (by decide +kernel) (by rfl) (fun _ _ _ h => h) ?_ hHeld ?_
      rotate_left 1
      (intro o ho W hSw; simp only [List.getElem?_toArray, List.getElem?_cons_succ, List.getElem?_cons_zero, Option.some.injEq] at ho; subst ho; (try dsimp only [HSc] at hSw); go_simp; try with_reducible rfl)
      (try simp only [Act.put, List.setIfInBounds_toArray, List.set_cons_zero, List.set_cons_succ])
      refine wpAnyH_takeD 4 139 (v := ?_) (by decide +kernel) (by decide +kernel) (by decide +kernel) (by decide +kernel) (by rfl) (fun _ _ _ h => h) ?_ hHeld ?_
      rotate_left 1
      (intro o ho W hSw; simp only [List.getElem?_toArray, List.getElem?_cons_succ, List.getElem?_cons_zero, Option.some.injEq] at ho; subst ho; (try dsimp only [HSc] at hSw); go_simp; try with_reducible rfl)
      (try simp only [Act.put, List.setIfInBounds_toArray, List.set_cons_zero, List.set_cons_succ])
      refine wpAnyH_takeD 5 140 (v := ?_) (by decide +kernel) (by decide +kernel) (by decide +kernel) (by decide +kernel) (by rfl) (fun _ _ _ h => h) ?_ hHeld ?_
      rotate_left 1
      (intro o ho W hSw; simp only [List.getElem?_toArray, List.getElem?_cons_succ, List.getElem?_cons_zero, Option.some.injEq] at ho; subst ho; (try dsimp only [HSc] at hSw); go_simp; try with_reducible rfl)
      (try simp only [Act.put, List.setIfInBounds_toArray, List.set_cons_zero, List.set_cons_succ])
      refine wpAnyH_takeD 6 141 (v := ?_) (by decide +kernel) (by decide +kernel) (by decide +kernel) (by decide +kernel) (by rfl) (fun _ _ _ h => h) ?_ hHeld ?_
      rotate_left 1
      (intro o ho W hSw; simp only [List.getElem?_toArray, List.getElem?_cons_succ, List.getElem?_cons_zero, Option.some.injEq] at ho; subst ho; (try dsimp only [HSc] at hSw); go_simp; try with_reducible rfl)
      (try simp only [Act.put, List.setIfInBounds_toArray, List.set_cons_zero, List.set_cons_succ])
      refine wpAnyH_takeD 7 142 (v := ?_) (by decide +kernel) (by decide +kernel) (by decide +kernel) (by decide +kernel) (by rfl) (fun _ _ _ h => h) ?_ hHeld ?_
      rotate_left 1
      (intro o ho W hSw; simp only [List.getElem?_toArray, List.getElem?_cons_succ, List.getElem?_cons_zero, Option.some.injEq] at ho; subst ho; (try dsimp only [HSc] at hSw); go_simp; try with_reducible rfl)
      (try simp only [Act.put, List.setIfInBounds_toArray, List.set_cons_zero, List.set_cons_succ])
      refine wpAnyH_takeD 8 143 (v := ?_) (by decide +kernel) (by decide +kernel) (by decide +kernel) (by decide +kernel) (by rfl) (fun _ _ _ h => h) ?_ hHeld ?_
      rotate_left 1
      (intro o ho W hSw; simp only [List.getElem?_toArray, List.getElem?_cons_succ, List.getElem?_cons_zero, Option.some.injEq] at ho; subst ho; (try dsimp only [HSc] at hSw); go_simp; try with_reducible rfl)
      (try simp only [Act.put, List.setIfInBounds_toArray, List.set_cons_zero, List.set_cons_succ])
      refine wpAnyH_takeD 9 144 (v := ?_) (by decide +kernel) (by decide +kernel) (by decide +kernel) (by decide +kernel) (by rfl) (fun _ _ _ h => h) ?_ hHeld ?_
      rotate_left 1
      (intro o ho W hSw; simp only [List.getElem?_toArray, List.getElem?_cons_succ, List.getElem?_cons_zero, Option.some.injEq] at ho; subst ho; (try dsimp only [HSc] at hSw); go_simp; try with_reducible rfl)
      (try simp only [Act.put, List.setIfInBounds_toArray, List.set_cons_zero, List.set_cons_succ])
      refine wpAnyH_onlyD 10 (by decide +kernel) (fun o ho K hK => ?_) (by decide +kernel)
      simp only [List.getElem?_toArray, List.getElem?_cons_succ, List.getElem?_cons_zero, Option.some.injEq] at ho
      subst ho
      go_simp
      refine (fawake_any F HC.out _).mono ?_
      rintro e w8 ⟨rfl, h⟩
      have R3 := Lib.hid (R2.out.step h)
      go_wp2_with fail
      refine hK.out _ _ (R3.out.fl) ?_
      clear hK K hHeld
      intro hHeld
      clear h R2
      refine wpAnyH_takeD 11 146 (v := ?_) (by decide +kernel) (by decide +kernel) (by decide +kernel) (by decide +kernel) (by rfl) (fun _ _ _ h => h) ?_ hHeld ?_
      rotate_left 1
      (intro o ho W hSw; simp only [List.getElem?_toArray, List.getElem?_cons_succ, List.getElem?_cons_zero, Option.some.injEq] at ho; subst ho; (try dsimp only [HSc] at hSw); go_simp; try with_reducible rfl)
      (try simp only [Act.put, List.setIfInBounds_toArray, List.set_cons_zero, List.set_cons_succ])
      refine wpAnyH_takeD 12 6 (v := ?_) (by decide +kernel) (by decide +kernel) (by decide +kernel) (by decide +kernel) (by rfl) (fun _ _ _ h => h) ?_ hHeld ?_
      rotate_left 1
      (intro o ho W hSw; simp only [List.getElem?_toArray, List.getElem?_cons_succ, List.getElem?_cons_zero, Option.some.injEq] at ho; subst ho; (try dsimp only [HSc] at hSw); go_simp; try with_reducible rfl)
      (try simp only [Act.put, List.setIfInBounds_toArray, List.set_cons_zero, List.set_cons_succ])
      refine wpAnyH_done (by kernel_rfl) ?_ _
      clear hHeld
      go_wp2
      go_ret
      exact ⟨rfl, R3.out.h.g.g.bl⟩
theorem fwhere_walk (F : FieldT) (C : FieldC F) (t : Trk) (x y a0 a1 : Int) (B : Nat) (w : World) (hB : B ≤ w.heap.size) (K : TrkM B w t) (hx : In64 x) (hy : In64 y) (h0 : In64 a0) (h1 : In64 a1) :
    Calls Try.prog 4 #[trkV t, .agg #[.int .i64 x, .int .i64 y], .agg #[.int .i64 a0, .int .i64 a1]] w fun e w' => e = .returned (.bool true) ∧ Below w.heap.size w w' := by
  by_cases few : fewT t
  · by_cases k : rightFd t = 0
    · exact fwhere_yes F C t x y a0 a1 B w hB K hx hy h0 h1 few k
    · exact fwhere_no F C t x y a0 a1 B w hB K few k
  · exact fwhere_many F C t x y a0 a1 B w hB K few
end Go.Proofs.Ytmocmphgbppphaa

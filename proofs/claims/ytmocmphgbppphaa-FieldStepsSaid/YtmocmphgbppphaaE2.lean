/- The walk of FieldSteps. -/
import Derived.Test.YtmocmphgbppphaaE0
import Derived.Test.YtmocmphgbppphaaEs
namespace Go.Proofs.Ytmocmphgbppphaa
open Go.RowKit
set_option linter.unusedVariables false
set_option linter.unusedSimpArgs false

/-- a track's copy and both places', the field, a flag that stands at no -/
structure SS (F : FieldT) (w W : World) (B top f m : Nat) (t : Trk) (x y a0 a1 : Int) : Prop where
  c : CS F w W B top f m t
  e : BW W (w.heap.size + 1) [.int .i64 x, .int .i64 y]
  u : BW W (w.heap.size + 2) [.int .i64 a0, .int .i64 a1]
  mm : w.heap.size + 2 < m
theorem SS.step {F : FieldT} {w W W' : World} {B top f m : Nat} {t : Trk} {x y a0 a1 : Int} (s : SS F w W B top f m t x y a0 a1) (h : Below W.heap.size W W') : SS F w W' B top f m t x y a0 a1 := ⟨s.c.step h, s.e.below h s.e.lt, s.u.below h s.u.lt, s.mm⟩
theorem SS.fx {F : FieldT} {w W W' : World} {B top f m : Nat} {t : Trk} {x y a0 a1 : Int} (s : SS F w W B top f m t x y a0 a1) (h : FxW W.heap.size W m 0 false W') : SS F w W' B top f m t x y a0 a1 :=
  ⟨s.c.fx h, s.e.fx h (by have := s.mm; omega), s.u.fx h (by have := s.mm; omega), s.mm⟩
theorem SS.fxo {F : FieldT} {w W W' : World} {B top f m : Nat} {t : Trk} {x y a0 a1 : Int} {o : Bool} (s : SS F w W B top f m t x y a0 a1) (h : FxW W.heap.size W m 0 (false || o) W') (e : o = false) : SS F w W' B top f m t x y a0 a1 := s.fx (by rw [e] at h; exact h)
theorem SS.cs {F : FieldT} {w W : World} {B top f m : Nat} {t : Trk} {x y a0 a1 : Int} (s : SS F w W B top f m t x y a0 a1) : (W.cell? ⟨w.heap.size + 1, 0, none⟩ = some (.int .i64 x) ∧ W.cell? ⟨w.heap.size + 1, 1, none⟩ = some (.int .i64 y)) ∧ W.cell? ⟨w.heap.size + 2, 0, none⟩ = some (.int .i64 a0) ∧ W.cell? ⟨w.heap.size + 2, 1, none⟩ = some (.int .i64 a1) :=
  ⟨⟨s.e.c 0 _ rfl, s.e.c 1 _ rfl⟩, s.u.c 0 _ rfl, s.u.c 1 _ rfl⟩
set_option maxRecDepth 100000 in
set_option maxHeartbeats 4000000 in
theorem fsteps_many (F : FieldT) (C : FieldC F) (t : Trk) (x y a0 a1 : Int) (B : Nat) (w : World) (hB : B ≤ w.heap.size) (K : TrkM B w t) (few : ¬ fewT t) :
    Calls Try.prog 7 #[trkV t, .agg #[.int .i64 x, .int .i64 y], .agg #[.int .i64 a0, .int .i64 a1]] w fun e w' => e = .returned (.bool true) ∧ Below w.heap.size w w' := by
  have HC := Lib.hid C
  have HB := Lib.hid hB
  have XF := Lib.hid (fun (W : World) (h : B ≤ W.heap.size) (K : TrkM B W t) => gfew_any t B W h K)
  have XR := Lib.hid (fun (W : World) (h : B ≤ W.heap.size) (K : TrkM B W t) => rFRight_any t B W h K)
  have KT := Lib.hid K
  clear K C
  have E := Lib.hid (decide_eq_false few)
  rw [E.out] at XF
  clear few E
  go_enter Try.func7, Try.ntmps7
  go_wp2_with fail
  refine calls_gen (S := fun W => WP w W B t x y a0 a1) ⟨⟨⟨((BW.new w _ (trkL t) _ rfl).alloc _).alloc _, by repeat (first | exact Below.refl _ _ | assumption | refine Below.setCell ?_ (by first | omega | (simp; done) | (simp; omega)) _ | refine Below.alloc ?_ (by first | omega | (simp; done) | (simp; omega)) _ | refine below_drewN ?_ _ | refine Below.drew ?_ | refine Below.trans ?_ (Below.mono (by assumption) (by first | omega | (simp; done) | (simp; omega)))), KT.out.keep (show Below w.heap.size w _ by repeat (first | exact Below.refl _ _ | assumption | refine Below.setCell ?_ (by first | omega | (simp; done) | (simp; omega)) _ | refine Below.alloc ?_ (by first | omega | (simp; done) | (simp; omega)) _ | refine below_drewN ?_ _ | refine Below.drew ?_ | refine Below.trans ?_ (Below.mono (by assumption) (by first | omega | (simp; done) | (simp; omega))))) HB.out, HB.out⟩, (BW.new _ _ [_, _] _ (by simp)).alloc _⟩, BW.new _ _ [_, _] _ (by simp)⟩ (fun W1 hS => ?_)
  have Q1 := Lib.hid hS
  clear hS
  refine (XF.out _ Q1.out.bz Q1.out.h.q.t).mono ?_
  rintro e w2 ⟨rfl, h⟩
  have Q2 := Lib.hid (Q1.out.step h)
  clear h Q1 XF
  go_wp2
  go_ret
  exact ⟨rfl, Q2.out.h.q.l⟩
set_option maxRecDepth 100000 in
set_option maxHeartbeats 4000000 in
theorem fsteps_no (F : FieldT) (C : FieldC F) (t : Trk) (x y a0 a1 : Int) (B : Nat) (w : World) (hB : B ≤ w.heap.size) (K : TrkM B w t) (few : fewT t) (k : rightFd t ≠ 0) :
    Calls Try.prog 7 #[trkV t, .agg #[.int .i64 x, .int .i64 y], .agg #[.int .i64 a0, .int .i64 a1]] w fun e w' => e = .returned (.bool true) ∧ Below w.heap.size w w' := by
  have HC := Lib.hid C
  have HB := Lib.hid hB
  have XF := Lib.hid (fun (W : World) (h : B ≤ W.heap.size) (K : TrkM B W t) => gfew_any t B W h K)
  have XR := Lib.hid (fun (W : World) (h : B ≤ W.heap.size) (K : TrkM B W t) => rFRight_any t B W h K)
  have KT := Lib.hid K
  clear K C
  have E := Lib.hid (decide_eq_true few)
  rw [E.out] at XF
  have XN := Lib.hid (fun (W : World) (h : B ≤ W.heap.size) (K : TrkM B W t) => HC.out.no t B W h K k)
  obtain ⟨er, her⟩ : ∃ er, rightFd t = er := ⟨_, rfl⟩
  rw [her] at XN k
  clear few E her k XR
  go_enter Try.func7, Try.ntmps7
  go_wp2_with fail
  refine calls_gen (S := fun W => WP w W B t x y a0 a1) ⟨⟨⟨((BW.new w _ (trkL t) _ rfl).alloc _).alloc _, by repeat (first | exact Below.refl _ _ | assumption | refine Below.setCell ?_ (by first | omega | (simp; done) | (simp; omega)) _ | refine Below.alloc ?_ (by first | omega | (simp; done) | (simp; omega)) _ | refine below_drewN ?_ _ | refine Below.drew ?_ | refine Below.trans ?_ (Below.mono (by assumption) (by first | omega | (simp; done) | (simp; omega)))), KT.out.keep (show Below w.heap.size w _ by repeat (first | exact Below.refl _ _ | assumption | refine Below.setCell ?_ (by first | omega | (simp; done) | (simp; omega)) _ | refine Below.alloc ?_ (by first | omega | (simp; done) | (simp; omega)) _ | refine below_drewN ?_ _ | refine Below.drew ?_ | refine Below.trans ?_ (Below.mono (by assumption) (by first | omega | (simp; done) | (simp; omega))))) HB.out, HB.out⟩, (BW.new _ _ [_, _] _ (by simp)).alloc _⟩, BW.new _ _ [_, _] _ (by simp)⟩ (fun W1 hS => ?_)
  have Q1 := Lib.hid hS
  clear hS
  refine (XF.out _ Q1.out.bz Q1.out.h.q.t).mono ?_
  rintro e w2 ⟨rfl, h⟩
  have Q2 := Lib.hid (Q1.out.step h)
  clear h Q1 XF
  obtain ⟨⟨⟨q0, q1, q2, q3, q4, q5, q6, q7, q8, q9, q10, q11, q12, q13, q14, q15⟩, e0, e1⟩, u0, u1⟩ := Q2.out.cs
  go_wp2_with fail
  refine (XN.out _ Q2.out.bz Q2.out.h.q.t).mono ?_
  rintro e w3 ⟨rfl, h⟩
  have Q3 := Lib.hid (Q2.out.step h)
  clear q0 q1 q2 q3 q4 q5 q6 q7 q8 q9 q10 q11 q12 q13 q14 q15 e0 e1 u0 u1
  clear h XN Q2
  go_wp2_with fail
  refine (fawake_any F HC.out _).mono ?_
  rintro e w9 ⟨rfl, h⟩
  have Q9 := Lib.hid (Q3.out.step h)
  clear h
  go_wp2
  go_ret
  exact ⟨rfl, Q9.out.h.q.l⟩
set_option maxRecDepth 100000 in
set_option maxHeartbeats 4000000 in
theorem fsteps_off (F : FieldT) (C : FieldC F) (t : Trk) (x y a0 a1 : Int) (B : Nat) (w : World) (hB : B ≤ w.heap.size) (K : TrkM B w t) (hx : In64 x) (hy : In64 y) (h0 : In64 a0) (h1 : In64 a1) (few : fewT t) (k : rightFd t = 0) (hd : ¬ (whK t x = whK t a0 ∧ whR t y = whR t a1)) :
    Calls Try.prog 7 #[trkV t, .agg #[.int .i64 x, .int .i64 y], .agg #[.int .i64 a0, .int .i64 a1]] w fun e w' => e = .returned (.bool true) ∧ Below w.heap.size w w' := by
  by_cases d1 : whK t x = whK t a0
  · have d2 : whR t y ≠ whR t a1 := fun e => hd ⟨d1, e⟩
    have D := Lib.hid (And.intro d1 d2)
    clear d1 d2 hd
    have HC := Lib.hid C
    have HB := Lib.hid hB
    have XF := Lib.hid (fun (W : World) (h : B ≤ W.heap.size) (K : TrkM B W t) => gfew_any t B W h K)
    have XR := Lib.hid (fun (W : World) (h : B ≤ W.heap.size) (K : TrkM B W t) => rFRight_any t B W h K)
    have KT := Lib.hid K
    clear K C
    have E := Lib.hid (decide_eq_true few)
    rw [E.out] at XF
    have RI := Lib.hid (right_is k)
    have XN := Lib.hid (fun (W : World) (h : B ≤ W.heap.size) (K : TrkM B W t) => HC.out.yes t 0 B W h K (Nat.zero_le _) (TrkLo.zero t) k)
    have H64 := Lib.hid (show In64 x ∧ In64 y ∧ In64 a0 ∧ In64 a1 from ⟨hx, hy, h0, h1⟩)
    clear few E k XR hx hy h0 h1
    go_enter Try.func7, Try.ntmps7
    go_wp2_with fail
    refine calls_gen (S := fun W => WP w W B t x y a0 a1) ⟨⟨⟨((BW.new w _ (trkL t) _ rfl).alloc _).alloc _, by repeat (first | exact Below.refl _ _ | assumption | refine Below.setCell ?_ (by first | omega | (simp; done) | (simp; omega)) _ | refine Below.alloc ?_ (by first | omega | (simp; done) | (simp; omega)) _ | refine below_drewN ?_ _ | refine Below.drew ?_ | refine Below.trans ?_ (Below.mono (by assumption) (by first | omega | (simp; done) | (simp; omega)))), KT.out.keep (show Below w.heap.size w _ by repeat (first | exact Below.refl _ _ | assumption | refine Below.setCell ?_ (by first | omega | (simp; done) | (simp; omega)) _ | refine Below.alloc ?_ (by first | omega | (simp; done) | (simp; omega)) _ | refine below_drewN ?_ _ | refine Below.drew ?_ | refine Below.trans ?_ (Below.mono (by assumption) (by first | omega | (simp; done) | (simp; omega))))) HB.out, HB.out⟩, (BW.new _ _ [_, _] _ (by simp)).alloc _⟩, BW.new _ _ [_, _] _ (by simp)⟩ (fun W1 hS => ?_)
    have Q1 := Lib.hid hS
    clear hS
    refine (XF.out _ Q1.out.bz Q1.out.h.q.t).mono ?_
    rintro e w2 ⟨rfl, h⟩
    have Q2 := Lib.hid (Q1.out.step h)
    clear h Q1 XF
    obtain ⟨⟨⟨q0, q1, q2, q3, q4, q5, q6, q7, q8, q9, q10, q11, q12, q13, q14, q15⟩, e0, e1⟩, u0, u1⟩ := Q2.out.cs
    go_wp2_with fail
    refine (XN.out _ Q2.out.bz Q2.out.h.q.t).mono ?_
    rintro e w3 ⟨⟨f, rfl, hp⟩, h⟩
    have Q3 := Lib.hid (Q2.out.step h)
    have P3 := Lib.hid hp
    clear q0 q1 q2 q3 q4 q5 q6 q7 q8 q9 q10 q11 q12 q13 q14 q15 e0 e1 u0 u1
    clear h hp XN Q2
    obtain ⟨top, htop⟩ : ∃ top, w3.heap.size = top := ⟨_, rfl⟩
    rw [htop] at P3
    clear htop
    have e0 := Q3.out.h.e.c 0 _ rfl
    have e1 := Q3.out.h.e.c 1 _ rfl
    go_wp2_with fail
    refine (HC.out.where_ t x y 0 top f _ H64.out.1 H64.out.2.1 P3.out).mono ?_
    rintro e w4 ⟨rfl, h⟩
    have P4 := Lib.hid (F.step P3.out h)
    have Q4 := Lib.hid (Q3.out.step h)
    clear h P3 Q3 e0 e1
    have u0 := Q4.out.u.c 0 _ rfl
    have u1 := Q4.out.u.c 1 _ rfl
    go_wp2_with fail
    refine (HC.out.where_ t a0 a1 0 top f _ H64.out.2.2.1 H64.out.2.2.2 P4.out).mono ?_
    rintro e w5 ⟨rfl, h⟩
    have P5 := Lib.hid (F.step P4.out h)
    have Q5 := Lib.hid (Q4.out.step h)
    clear h P4 Q4 u0 u1
    rw [D.out.1]
    have d2 := D.out.2
    generalize whK t a0 = k1 at *
    generalize whR t y = k2 at *
    generalize whR t a1 = k3 at *
    have d3 : ((k2 : Int) == (k3 : Int)) = false := by simp; omega
    go_wp2_with fail
    refine (fawake_any F HC.out _).mono ?_
    rintro e w9 ⟨rfl, h⟩
    have Q9 := Lib.hid (Q5.out.step h)
    clear h
    go_wp2
    go_ret
    exact ⟨rfl, Q9.out.h.q.l⟩
  · have D := Lib.hid d1
    clear d1 hd
    have HC := Lib.hid C
    have HB := Lib.hid hB
    have XF := Lib.hid (fun (W : World) (h : B ≤ W.heap.size) (K : TrkM B W t) => gfew_any t B W h K)
    have XR := Lib.hid (fun (W : World) (h : B ≤ W.heap.size) (K : TrkM B W t) => rFRight_any t B W h K)
    have KT := Lib.hid K
    clear K C
    have E := Lib.hid (decide_eq_true few)
    rw [E.out] at XF
    have RI := Lib.hid (right_is k)
    have XN := Lib.hid (fun (W : World) (h : B ≤ W.heap.size) (K : TrkM B W t) => HC.out.yes t 0 B W h K (Nat.zero_le _) (TrkLo.zero t) k)
    have H64 := Lib.hid (show In64 x ∧ In64 y ∧ In64 a0 ∧ In64 a1 from ⟨hx, hy, h0, h1⟩)
    clear few E k XR hx hy h0 h1
    go_enter Try.func7, Try.ntmps7
    go_wp2_with fail
    refine calls_gen (S := fun W => WP w W B t x y a0 a1) ⟨⟨⟨((BW.new w _ (trkL t) _ rfl).alloc _).alloc _, by repeat (first | exact Below.refl _ _ | assumption | refine Below.setCell ?_ (by first | omega | (simp; done) | (simp; omega)) _ | refine Below.alloc ?_ (by first | omega | (simp; done) | (simp; omega)) _ | refine below_drewN ?_ _ | refine Below.drew ?_ | refine Below.trans ?_ (Below.mono (by assumption) (by first | omega | (simp; done) | (simp; omega)))), KT.out.keep (show Below w.heap.size w _ by repeat (first | exact Below.refl _ _ | assumption | refine Below.setCell ?_ (by first | omega | (simp; done) | (simp; omega)) _ | refine Below.alloc ?_ (by first | omega | (simp; done) | (simp; omega)) _ | refine below_drewN ?_ _ | refine Below.drew ?_ | refine Below.trans ?_ (Below.mono (by assumption) (by first | omega | (simp; done) | (simp; omega))))) HB.out, HB.out⟩, (BW.new _ _ [_, _] _ (by simp)).alloc _⟩, BW.new _ _ [_, _] _ (by simp)⟩ (fun W1 hS => ?_)
    have Q1 := Lib.hid hS
    clear hS
    refine (XF.out _ Q1.out.bz Q1.out.h.q.t).mono ?_
    rintro e w2 ⟨rfl, h⟩
    have Q2 := Lib.hid (Q1.out.step h)
    clear h Q1 XF
    obtain ⟨⟨⟨q0, q1, q2, q3, q4, q5, q6, q7, q8, q9, q10, q11, q12, q13, q14, q15⟩, e0, e1⟩, u0, u1⟩ := Q2.out.cs
    go_wp2_with fail
    refine (XN.out _ Q2.out.bz Q2.out.h.q.t).mono ?_
    rintro e w3 ⟨⟨f, rfl, hp⟩, h⟩
    have Q3 := Lib.hid (Q2.out.step h)
    have P3 := Lib.hid hp
    clear q0 q1 q2 q3 q4 q5 q6 q7 q8 q9 q10 q11 q12 q13 q14 q15 e0 e1 u0 u1
    clear h hp XN Q2
    obtain ⟨top, htop⟩ : ∃ top, w3.heap.size = top := ⟨_, rfl⟩
    rw [htop] at P3
    clear htop
    have e0 := Q3.out.h.e.c 0 _ rfl
    have e1 := Q3.out.h.e.c 1 _ rfl
    go_wp2_with fail
    refine (HC.out.where_ t x y 0 top f _ H64.out.1 H64.out.2.1 P3.out).mono ?_
    rintro e w4 ⟨rfl, h⟩
    have P4 := Lib.hid (F.step P3.out h)
    have Q4 := Lib.hid (Q3.out.step h)
    clear h P3 Q3 e0 e1
    have u0 := Q4.out.u.c 0 _ rfl
    have u1 := Q4.out.u.c 1 _ rfl
    go_wp2_with fail
    refine (HC.out.where_ t a0 a1 0 top f _ H64.out.2.2.1 H64.out.2.2.2 P4.out).mono ?_
    rintro e w5 ⟨rfl, h⟩
    have P5 := Lib.hid (F.step P4.out h)
    have Q5 := Lib.hid (Q4.out.step h)
    clear h P4 Q4 u0 u1
    have d2 := D.out
    generalize whK t a0 = k1 at *
    generalize whK t x = k2 at *
    have d3 : ((k2 : Int) == (k1 : Int)) = false := by simp; omega
    go_wp2_with fail
    refine (fawake_any F HC.out _).mono ?_
    rintro e w9 ⟨rfl, h⟩
    have Q9 := Lib.hid (Q5.out.step h)
    clear h
    go_wp2
    go_ret
    exact ⟨rfl, Q9.out.h.q.l⟩
theorem ss_new {F : FieldT} {w W : World} {B top f : Nat} {t : Trk} {x y a0 a1 : Int} (T : TypeId) (p : F.P 0 top W f t) (q : WP w W B t x y a0 a1) : SS F w (W.alloc (.cells #[.bool false] T)) B top f W.heap.size t x y a0 a1 :=
  ⟨cs_new T p q.h.q, q.h.e.alloc _, q.u.alloc _, q.u.lt⟩
theorem off_64 {d : Int} (h : Off d) : In64 d := by unfold Off at h; unfold In64; omega
set_option maxRecDepth 100000 in
set_option maxHeartbeats 8000000 in
theorem fsteps_yes (F : FieldT) (C : FieldC F) (t : Trk) (x y a0 a1 : Int) (B : Nat) (w : World) (hB : B ≤ w.heap.size) (K : TrkM B w t) (hx : In64 x) (hy : In64 y) (h0 : In64 a0) (h1 : In64 a1) (few : fewT t) (k : rightFd t = 0) (d1 : whK t x = whK t a0) (d2 : whR t y = whR t a1) :
    Calls Try.prog 7 #[trkV t, .agg #[.int .i64 x, .int .i64 y], .agg #[.int .i64 a0, .int .i64 a1]] w fun e w' => e = .returned (.bool true) ∧ Below w.heap.size w w' := by
  have HC := Lib.hid C
  have HB := Lib.hid hB
  have XF := Lib.hid (fun (W : World) (h : B ≤ W.heap.size) (K : TrkM B W t) => gfew_any t B W h K)
  have XR := Lib.hid (fun (W : World) (h : B ≤ W.heap.size) (K : TrkM B W t) => rFRight_any t B W h K)
  have KT := Lib.hid K
  clear K C
  have E := Lib.hid (decide_eq_true few)
  rw [E.out] at XF
  have RI := Lib.hid (right_is k)
  have XN := Lib.hid (fun (W : World) (h : B ≤ W.heap.size) (K : TrkM B W t) => HC.out.yes t 0 B W h K (Nat.zero_le _) (TrkLo.zero t) k)
  have H64 := Lib.hid (show In64 x ∧ In64 y ∧ In64 a0 ∧ In64 a1 from ⟨hx, hy, h0, h1⟩)
  clear few E k XR hx hy h0 h1
  have N := Lib.hid (steps_num RI.out.1 RI.out.2 d1 d2)
  have IN := Lib.hid (show (In64 (whX t x) ∧ In64 (whX t a0)) ∧ (In64 (whY t y) ∧ In64 (whY t a1)) ∧ In64 (heightF t x y) ∧ In64 (heightF t a0 a1) from ⟨⟨off_64 (wh_offX RI.out.2 x), off_64 (wh_offX RI.out.2 a0)⟩, ⟨off_64 (wh_offY RI.out.2 y), off_64 (wh_offY RI.out.2 a1)⟩, addF_in _ _, addF_in _ _⟩)
  have D := Lib.hid (And.intro d1 d2)
  clear d1 d2
  go_enter Try.func7, Try.ntmps7
  go_wp2_with fail
  refine calls_gen (S := fun W => WP w W B t x y a0 a1) ⟨⟨⟨((BW.new w _ (trkL t) _ rfl).alloc _).alloc _, by repeat (first | exact Below.refl _ _ | assumption | refine Below.setCell ?_ (by first | omega | (simp; done) | (simp; omega)) _ | refine Below.alloc ?_ (by first | omega | (simp; done) | (simp; omega)) _ | refine below_drewN ?_ _ | refine Below.drew ?_ | refine Below.trans ?_ (Below.mono (by assumption) (by first | omega | (simp; done) | (simp; omega)))), KT.out.keep (show Below w.heap.size w _ by repeat (first | exact Below.refl _ _ | assumption | refine Below.setCell ?_ (by first | omega | (simp; done) | (simp; omega)) _ | refine Below.alloc ?_ (by first | omega | (simp; done) | (simp; omega)) _ | refine below_drewN ?_ _ | refine Below.drew ?_ | refine Below.trans ?_ (Below.mono (by assumption) (by first | omega | (simp; done) | (simp; omega))))) HB.out, HB.out⟩, (BW.new _ _ [_, _] _ (by simp)).alloc _⟩, BW.new _ _ [_, _] _ (by simp)⟩ (fun W1 hS => ?_)
  have Q1 := Lib.hid hS
  clear hS
  refine (XF.out _ Q1.out.bz Q1.out.h.q.t).mono ?_
  rintro e w2 ⟨rfl, h⟩
  have Q2 := Lib.hid (Q1.out.step h)
  clear h Q1 XF
  obtain ⟨⟨⟨q0, q1, q2, q3, q4, q5, q6, q7, q8, q9, q10, q11, q12, q13, q14, q15⟩, e0, e1⟩, u0, u1⟩ := Q2.out.cs
  go_wp2_with fail
  refine (XN.out _ Q2.out.bz Q2.out.h.q.t).mono ?_
  rintro e w3 ⟨⟨f, rfl, hp⟩, h⟩
  have Q3 := Lib.hid (Q2.out.step h)
  have P3 := Lib.hid hp
  clear q0 q1 q2 q3 q4 q5 q6 q7 q8 q9 q10 q11 q12 q13 q14 q15 e0 e1 u0 u1
  clear h hp XN Q2
  obtain ⟨top, htop⟩ : ∃ top, w3.heap.size = top := ⟨_, rfl⟩
  rw [htop] at P3
  clear htop
  have e0 := Q3.out.h.e.c 0 _ rfl
  have e1 := Q3.out.h.e.c 1 _ rfl
  go_wp2_with fail
  refine (HC.out.where_ t x y 0 top f _ H64.out.1 H64.out.2.1 P3.out).mono ?_
  rintro e w4 ⟨rfl, h⟩
  have P4 := Lib.hid (F.step P3.out h)
  have Q4 := Lib.hid (Q3.out.step h)
  clear h P3 Q3 e0 e1
  have u0 := Q4.out.u.c 0 _ rfl
  have u1 := Q4.out.u.c 1 _ rfl
  go_wp2_with fail
  refine (HC.out.where_ t a0 a1 0 top f _ H64.out.2.2.1 H64.out.2.2.2 P4.out).mono ?_
  rintro e w5 ⟨rfl, h⟩
  have P5 := Lib.hid (F.step P4.out h)
  have Q5 := Lib.hid (Q4.out.step h)
  clear h P4 Q4 u0 u1
  rw [D.out.1, D.out.2]
  generalize whK t a0 = k1 at *
  generalize whR t a1 = k2 at *
  clear D
  have HH := Lib.hid (fun (b : Nat) (o : Bool) (W : World) (p : F.P 0 top W f t) (e : b < 0 ∨ top ≤ b) (m : MAt W b 0 o) => HC.out.height t x y b 0 o 0 top f W H64.out.1 H64.out.2.1 p e m)
  have HG := Lib.hid (fun (b : Nat) (o : Bool) (W : World) (p : F.P 0 top W f t) (e : b < 0 ∨ top ≤ b) (m : MAt W b 0 o) => HC.out.height t a0 a1 b 0 o 0 top f W H64.out.2.2.1 H64.out.2.2.2 p e m)
  generalize heightF t x y = g1 at *
  generalize heightF t a0 a1 = g2 at *
  generalize whX t x = x1 at *
  generalize whX t a0 = x2 at *
  generalize whY t y = y1 at *
  generalize whY t a1 = y2 at *
  clear H64 RI
  go_wp2_with fail
  have S5 := Lib.hid (ss_new 53 P5.out Q5.out)
  obtain ⟨m, hm⟩ : ∃ m, w5.heap.size = m := ⟨_, rfl⟩
  rw [hm] at S5 ⊢
  refine wp_gen (S := fun W => SS F w W B top f m t x y a0 a1) S5.out (fun W5 hS => ?_)
  clear S5 P5 Q5 hm
  have R5 := Lib.hid (hS.step ((Below.refl _ _).drew))
  clear hS
  refine wp_region_held_drew (S := fun W => (W.cell? ⟨w.heap.size + 1, 0, none⟩ = some (.int .i64 x) ∧ W.cell? ⟨w.heap.size + 1, 1, none⟩ = some (.int .i64 y)) ∧ W.cell? ⟨w.heap.size + 2, 0, none⟩ = some (.int .i64 a0) ∧ W.cell? ⟨w.heap.size + 2, 1, none⟩ = some (.int .i64 a1)) (by kernel_rfl) R5.out.cs (fun hHeld => ?_)
  generalize World.drew _ = w6 at *
  refine wpAnyH_takeD 0 64 (v := ?_) (by decide +kernel) (by decide +kernel) (by decide +kernel) (by decide +kernel) (by rfl) (fun _ _ _ h => h) ?_ hHeld ?_
  rotate_left 1
  (intro o ho W hSw; simp only [List.getElem?_toArray, List.getElem?_cons_succ, List.getElem?_cons_zero, Option.some.injEq] at ho; subst ho; (try dsimp only at hSw); go_simp; try with_reducible rfl)
  (try simp only [Act.put, List.setIfInBounds_toArray, List.set_cons_zero, List.set_cons_succ])
  refine wpAnyH_takeD 1 65 (v := ?_) (by decide +kernel) (by decide +kernel) (by decide +kernel) (by decide +kernel) (by rfl) (fun _ _ _ h => h) ?_ hHeld ?_
  rotate_left 1
  (intro o ho W hSw; simp only [List.getElem?_toArray, List.getElem?_cons_succ, List.getElem?_cons_zero, Option.some.injEq] at ho; subst ho; (try dsimp only at hSw); go_simp; try with_reducible rfl)
  (try simp only [Act.put, List.setIfInBounds_toArray, List.set_cons_zero, List.set_cons_succ])
  refine wpAnyH_takeD 2 66 (v := ?_) (by decide +kernel) (by decide +kernel) (by decide +kernel) (by decide +kernel) (by rfl) (fun _ _ _ h => h) ?_ hHeld ?_
  rotate_left 1
  (intro o ho W hSw; simp only [List.getElem?_toArray, List.getElem?_cons_succ, List.getElem?_cons_zero, Option.some.injEq] at ho; subst ho; (try dsimp only at hSw); go_simp; try with_reducible rfl)
  (try simp only [Act.put, List.setIfInBounds_toArray, List.set_cons_zero, List.set_cons_succ])
  refine wpAnyH_takeD 3 67 (v := ?_) (by decide +kernel) (by decide +kernel) (by decide +kernel) (by decide +kernel) (by rfl) (fun _ _ _ h => h) ?_ hHeld ?_
  rotate_left 1
  (intro o ho W hSw; simp only [List.getElem?_toArray, List.getElem?_cons_succ, List.getElem?_cons_zero, Option.some.injEq] at ho; subst ho; (try dsimp only at hSw); go_simp; try with_reducible rfl)
  (try simp only [Act.put, List.setIfInBounds_toArray, List.set_cons_zero, List.set_cons_succ])
  refine wpAnyH_takeD 4 68 (v := ?_) (by decide +kernel) (by decide +kernel) (by decide +kernel) (by decide +kernel) (by rfl) (fun _ _ _ h => h) ?_ hHeld ?_
  rotate_left 1
  (intro o ho W hSw; simp only [List.getElem?_toArray, List.getElem?_cons_succ, List.getElem?_cons_zero, Option.some.injEq] at ho; subst ho; (try dsimp only at hSw); go_simp; try with_reducible rfl)
  (try simp only [Act.put, List.setIfInBounds_toArray, List.set_cons_zero, List.set_cons_succ])
  refine wpAnyH_takeD 5 69 (v := ?_) (by decide +kernel) (by decide +kernel) (by decide +kernel) (by decide +kernel) (by rfl) (fun _ _ _ h => h) ?_ hHeld ?_
  rotate_left 1
  (intro o ho W hSw; simp only [List.getElem?_toArray, List.getElem?_cons_succ, List.getElem?_cons_zero, Option.some.injEq] at ho; subst ho; (try dsimp only at hSw); go_simp; try with_reducible rfl)
  (try simp only [Act.put, List.setIfInBounds_toArray, List.set_cons_zero, List.set_cons_succ])
  refine wpAnyH_takeD 6 70 (v := ?_) (by decide +kernel) (by decide +kernel) (by decide +kernel) (by decide +kernel) (by rfl) (fun _ _ _ h => h) ?_ hHeld ?_
  rotate_left 1
  (intro o ho W hSw; simp only [List.getElem?_toArray, List.getElem?_cons_succ, List.getElem?_cons_zero, Option.some.injEq] at ho; subst ho; (try dsimp only at hSw); go_simp; try with_reducible rfl)
  (try simp only [Act.put, List.setIfInBounds_toArray, List.set_cons_zero, List.set_cons_succ])
  refine wpAnyH_takeD 7 71 (v := ?_) (by decide +kernel) (by decide +kernel) (by decide +kernel) (by decide +kernel) (by rfl) (fun _ _ _ h => h) ?_ hHeld ?_
  rotate_left 1
  (intro o ho W hSw; simp only [List.getElem?_toArray, List.getElem?_cons_succ, List.getElem?_cons_zero, Option.some.injEq] at ho; subst ho; (try dsimp only at hSw); go_simp; try with_reducible rfl)
  (try simp only [Act.put, List.setIfInBounds_toArray, List.set_cons_zero, List.set_cons_succ])
  refine wpAnyH_takeD 9 73 (v := ?_) (by decide +kernel) (by decide +kernel) (by decide +kernel) (by decide +kernel) (by rfl) (fun _ _ _ h => h) ?_ hHeld ?_
  rotate_left 1
  (intro o ho W hSw; simp only [List.getElem?_toArray, List.getElem?_cons_succ, List.getElem?_cons_zero, Option.some.injEq] at ho; subst ho; (try dsimp only at hSw); go_simp; try with_reducible rfl)
  (try simp only [Act.put, List.setIfInBounds_toArray, List.set_cons_zero, List.set_cons_succ])
  refine wpAnyH_takeD 10 74 (v := ?_) (by decide +kernel) (by decide +kernel) (by decide +kernel) (by decide +kernel) (by rfl) (fun _ _ _ h => h) ?_ hHeld ?_
  rotate_left 1
  (intro o ho W hSw; simp only [List.getElem?_toArray, List.getElem?_cons_succ, List.getElem?_cons_zero, Option.some.injEq] at ho; subst ho; (try dsimp only at hSw); go_simp; try with_reducible rfl)
  (try simp only [Act.put, List.setIfInBounds_toArray, List.set_cons_zero, List.set_cons_succ])
  refine wpAnyH_takeD 11 75 (v := ?_) (by decide +kernel) (by decide +kernel) (by decide +kernel) (by decide +kernel) (by rfl) (fun _ _ _ h => h) ?_ hHeld ?_
  rotate_left 1
  (intro o ho W hSw; simp only [List.getElem?_toArray, List.getElem?_cons_succ, List.getElem?_cons_zero, Option.some.injEq] at ho; subst ho; (try dsimp only at hSw); go_simp; try with_reducible rfl)
  (try simp only [Act.put, List.setIfInBounds_toArray, List.set_cons_zero, List.set_cons_succ])
  refine wpAnyH_takeD 12 76 (v := ?_) (by decide +kernel) (by decide +kernel) (by decide +kernel) (by decide +kernel) (by rfl) (fun _ _ _ h => h) ?_ hHeld ?_
  rotate_left 1
  (intro o ho W hSw; simp only [List.getElem?_toArray, List.getElem?_cons_succ, List.getElem?_cons_zero, Option.some.injEq] at ho; subst ho; (try dsimp only at hSw); go_simp; try with_reducible rfl)
  (try simp only [Act.put, List.setIfInBounds_toArray, List.set_cons_zero, List.set_cons_succ])
  refine wpAnyH_takeD 13 77 (v := ?_) (by decide +kernel) (by decide +kernel) (by decide +kernel) (by decide +kernel) (by rfl) (fun _ _ _ h => h) ?_ hHeld ?_
  rotate_left 1
  (intro o ho W hSw; simp only [List.getElem?_toArray, List.getElem?_cons_succ, List.getElem?_cons_zero, Option.some.injEq] at ho; subst ho; (try dsimp only at hSw); go_simp; try with_reducible rfl)
  (try simp only [Act.put, List.setIfInBounds_toArray, List.set_cons_zero, List.set_cons_succ])
  refine wpAnyH_takeD 14 78 (v := ?_) (by decide +kernel) (by decide +kernel) (by decide +kernel) (by decide +kernel) (by rfl) (fun _ _ _ h => h) ?_ hHeld ?_
  rotate_left 1
  (intro o ho W hSw; simp only [List.getElem?_toArray, List.getElem?_cons_succ, List.getElem?_cons_zero, Option.some.injEq] at ho; subst ho; (try dsimp only at hSw); go_simp; try with_reducible rfl)
  (try simp only [Act.put, List.setIfInBounds_toArray, List.set_cons_zero, List.set_cons_succ])
  refine wpAnyH_onlyD 8 (by decide +kernel) (fun o ho K hK => ?_) (by decide +kernel)
  simp only [List.getElem?_toArray, List.getElem?_cons_succ, List.getElem?_cons_zero, Option.some.injEq] at ho
  subst ho
  go_simp
  refine (HH.out m false _ R5.out.c.g.p R5.out.c.g.e R5.out.c.g.a).mono ?_
  rintro e w7 ⟨rfl, h⟩
  have R7 := Lib.hid (R5.out.fx h)
  clear h R5
  go_wp2_with fail
  refine hK.out _ _ (R7.out.cs) ?_
  clear hK K hHeld
  intro hHeld
  refine wpAnyH_onlyD 15 (by decide +kernel) (fun o ho K hK => ?_) (by decide +kernel)
  simp only [List.getElem?_toArray, List.getElem?_cons_succ, List.getElem?_cons_zero, Option.some.injEq] at ho
  subst ho
  go_simp
  refine (HG.out m false _ R7.out.c.g.p R7.out.c.g.e R7.out.c.g.a).mono ?_
  rintro e w8 ⟨rfl, h⟩
  have R8 := Lib.hid (R7.out.fx h)
  clear h R7
  go_wp2_with fail
  refine hK.out _ _ (R8.out.cs) ?_
  clear hK K hHeld
  intro hHeld
  refine wpAnyH_onlyD 16 (by decide +kernel) (fun o ho K hK => ?_) (by decide +kernel)
  simp only [List.getElem?_toArray, List.getElem?_cons_succ, List.getElem?_cons_zero, Option.some.injEq] at ho
  subst ho
  go_simp
  refine (fxSub_any g1 g2 m 0 false _ IN.out.2.2.1.1 IN.out.2.2.1.2 IN.out.2.2.2.1 IN.out.2.2.2.2 R8.out.c.g.a).mono ?_
  rintro e w9 ⟨rfl, h⟩
  have R9 := Lib.hid (R8.out.fxo h N.out.2.2.2.2.1.1)
  clear h R8
  go_wp2_with fail
  refine hK.out _ _ (R9.out.cs) ?_
  clear hK K hHeld
  intro hHeld
  have I1 := Lib.hid (subF_in g1 g2)
  generalize subF g1 g2 = d1 at *
  refine wpAnyH_onlyD 17 (by decide +kernel) (fun o ho K hK => ?_) (by decide +kernel)
  simp only [List.getElem?_toArray, List.getElem?_cons_succ, List.getElem?_cons_zero, Option.some.injEq] at ho
  subst ho
  go_simp
  refine (fxAbs_any d1 m 0 false _ I1.out.1 I1.out.2 R9.out.c.g.a).mono ?_
  rintro e w10 ⟨rfl, h⟩
  have R10 := Lib.hid (R9.out.fxo h N.out.2.2.2.2.1.2)
  clear h R9
  go_wp2_with fail
  refine hK.out _ _ (R10.out.cs) ?_
  clear hK K hHeld
  intro hHeld
  generalize absF d1 = up at *
  refine wpAnyH_takeD 18 18 (v := ?_) (by decide +kernel) (by decide +kernel) (by decide +kernel) (by decide +kernel) (by rfl) (fun _ _ _ h => h) ?_ hHeld ?_
  rotate_left 1
  (intro o ho W hSw; simp only [List.getElem?_toArray, List.getElem?_cons_succ, List.getElem?_cons_zero, Option.some.injEq] at ho; subst ho; (try dsimp only at hSw); go_simp; try with_reducible rfl)
  (try simp only [Act.put, List.setIfInBounds_toArray, List.set_cons_zero, List.set_cons_succ])
  refine wpAnyH_done (by kernel_rfl) ?_ _
  clear hHeld HH HG I1
  go_wp2_with fail
  refine (fxSub_any x1 x2 m 0 false _ IN.out.1.1.1 IN.out.1.1.2 IN.out.1.2.1 IN.out.1.2.2 R10.out.c.g.a).mono ?_
  rintro e w11 ⟨rfl, h⟩
  have R11 := Lib.hid (R10.out.fxo h N.out.1.1)
  clear h R10
  have I1 := Lib.hid (subF_in x1 x2)
  generalize subF x1 x2 = s1 at *
  go_wp2_with fail
  refine (fxAbs_any s1 m 0 false _ I1.out.1 I1.out.2 R11.out.c.g.a).mono ?_
  rintro e w12 ⟨rfl, h⟩
  have R12 := Lib.hid (R11.out.fxo h N.out.1.2)
  clear h R11
  have J1 := Lib.hid (absF_in I1.out)
  generalize absF s1 = u1 at *
  go_wp2_with fail
  refine (fxSub_any y1 y2 m 0 false _ IN.out.2.1.1.1 IN.out.2.1.1.2 IN.out.2.1.2.1 IN.out.2.1.2.2 R12.out.c.g.a).mono ?_
  rintro e w13 ⟨rfl, h⟩
  have R13 := Lib.hid (R12.out.fxo h N.out.2.1.1)
  clear h R12
  have I2 := Lib.hid (subF_in y1 y2)
  generalize subF y1 y2 = s2 at *
  go_wp2_with fail
  refine (fxAbs_any s2 m 0 false _ I2.out.1 I2.out.2 R13.out.c.g.a).mono ?_
  rintro e w14 ⟨rfl, h⟩
  have R14 := Lib.hid (R13.out.fxo h N.out.2.1.2)
  clear h R13
  have J2 := Lib.hid (absF_in I2.out)
  generalize absF s2 = u2 at *
  go_wp2_with fail
  refine (fxAdd_any u1 u2 m 0 false _ J1.out.1 J1.out.2 J2.out.1 J2.out.2 R14.out.c.g.a).mono ?_
  rintro e w15 ⟨rfl, h⟩
  have R15 := Lib.hid (R14.out.fxo h N.out.2.2.1)
  clear h R14
  have I3 := Lib.hid (addF_in u1 u2)
  generalize addF u1 u2 = s3 at *
  go_wp2_with fail
  refine (fxAdd_any s3 1048576 m 0 false _ I3.out.1 I3.out.2 (by omega) (by omega) R15.out.c.g.a).mono ?_
  rintro e w16 ⟨rfl, h⟩
  have R16 := Lib.hid (R15.out.fxo h N.out.2.2.2.1)
  clear h R15
  have le := N.out.2.2.2.2.2
  generalize addF s3 1048576 = s4 at *
  have fl := R16.out.c.g.a.c
  clear N IN I1 I2 I3 J1 J2
  go_wp2_with fail
  refine (fawake_any F HC.out _).mono ?_
  rintro e w17 ⟨rfl, h⟩
  have R17 := Lib.hid (R16.out.step h)
  clear h R16 fl le
  go_wp2
  go_ret
  exact ⟨rfl, R17.out.c.g.bl⟩
theorem fsteps_walk (F : FieldT) (C : FieldC F) (t : Trk) (x y a0 a1 : Int) (B : Nat) (w : World) (hB : B ≤ w.heap.size) (K : TrkM B w t) (hx : In64 x) (hy : In64 y) (h0 : In64 a0) (h1 : In64 a1) :
    Calls Try.prog 7 #[trkV t, .agg #[.int .i64 x, .int .i64 y], .agg #[.int .i64 a0, .int .i64 a1]] w fun e w' => e = .returned (.bool true) ∧ Below w.heap.size w w' := by
  by_cases few : fewT t
  · by_cases k : rightFd t = 0
    · by_cases d : whK t x = whK t a0 ∧ whR t y = whR t a1
      · exact fsteps_yes F C t x y a0 a1 B w hB K hx hy h0 h1 few k d.1 d.2
      · exact fsteps_off F C t x y a0 a1 B w hB K hx hy h0 h1 few k d
    · exact fsteps_no F C t x y a0 a1 B w hB K few k
  · exact fsteps_many F C t x y a0 a1 B w hB K few
end Go.Proofs.Ytmocmphgbppphaa

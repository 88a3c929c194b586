/- The walk of FieldCorners. -/
import Derived.Test.YtmocmphgbppphaaEn
import Derived.Test.YtmocmphgbppphaaEr
import Derived.Test.YtmocmphgbppphaaBj
namespace Go.Proofs.Ytmocmphgbppphaa
open Go.RowKit
set_option linter.unusedVariables false
set_option linter.unusedSimpArgs false

/-- a track's copy, the field, a flag that stands at no -/
structure CS (F : FieldT) (w W : World) (B top f m : Nat) (t : Trk) : Prop where
  g : GS F w W 0 top f m false t
  c : BW W w.heap.size (trkL t)
  k : TrkM B W t
  z : B ≤ w.heap.size
  mm : w.heap.size < m
theorem CS.step {F : FieldT} {w W W' : World} {B top f m : Nat} {t : Trk} (s : CS F w W B top f m t) (h : Below W.heap.size W W') : CS F w W' B top f m t :=
  ⟨s.g.step h, s.c.below h s.c.lt, s.k.keep h (by have := s.z; have := s.c.lt; omega), s.z, s.mm⟩
theorem CS.fx {F : FieldT} {w W W' : World} {B top f m : Nat} {t : Trk} (s : CS F w W B top f m t) (h : FxW W.heap.size W m 0 false W') : CS F w W' B top f m t :=
  ⟨s.g.fx h, s.c.fx h (by have := s.mm; omega), s.k.fx h (by have := s.z; have := s.mm; omega) (by have := s.z; have := s.c.lt; omega), s.z, s.mm⟩
theorem CS.cs {F : FieldT} {w W : World} {B top f m : Nat} {t : Trk} (s : CS F w W B top f m t) : (W.cell? ⟨w.heap.size, 1, none⟩ = some (.int .i64 t.cell) ∧ W.cell? ⟨w.heap.size, 2, none⟩ = some (.int .i64 t.cols)) ∧ (W.cell? ⟨w.heap.size, 4, none⟩ = some (.int .i64 t.cx) ∧ W.cell? ⟨w.heap.size, 5, none⟩ = some (.int .i64 t.cy)) ∧ W.cell? ⟨w.heap.size, 6, none⟩ = some (.slice t.H.a t.H.n t.H.c) :=
  ⟨⟨s.c.c 1 _ rfl, s.c.c 2 _ rfl⟩, ⟨s.c.c 4 _ rfl, s.c.c 5 _ rfl⟩, s.c.c 6 _ rfl⟩
set_option maxRecDepth 100000 in
set_option maxHeartbeats 4000000 in
theorem fcorners_many (F : FieldT) (C : FieldC F) (t : Trk) (a : Int) (B : Nat) (w : World) (hB : B ≤ w.heap.size) (K : TrkM B w t) (few : ¬ fewT t) :
    Calls Try.prog 6 #[trkV t, .int .i64 a] w fun e w' => e = .returned (.bool true) ∧ Below w.heap.size w w' := by
  have Q0 := Lib.hid (PT.new 34 K hB)
  have HC := Lib.hid C
  have HB := Lib.hid hB
  have XF := Lib.hid (fun (W : World) (h : B ≤ W.heap.size) (K : TrkM B W t) => gfew_any t B W h K)
  have XR := Lib.hid (fun (W : World) (h : B ≤ W.heap.size) (K : TrkM B W t) => rFRight_any t B W h K)
  have KT := Lib.hid K
  clear K C
  have E := Lib.hid (decide_eq_false few)
  rw [E.out] at XF
  clear few E
  go_enter Try.func6, Try.ntmps6
  go_wp2_with fail
  refine calls_gen (S := fun W => PT w W B w.heap.size t) Q0.out (fun W1 hS => ?_)
  have Q1 := Lib.hid hS
  clear hS Q0
  refine (XF.out _ (by have := Q1.out.l.size; have := HB.out; omega) Q1.out.t).mono ?_
  rintro e w2 ⟨rfl, h⟩
  have Q2 := Lib.hid (Q1.out.step h)
  have hz2 := Lib.hid (show B ≤ w2.heap.size by have := Q2.out.l.size; have := HB.out; omega)
  clear h Q1 XF
  go_wp2
  go_ret
  exact ⟨rfl, Q2.out.l⟩
set_option maxRecDepth 100000 in
set_option maxHeartbeats 4000000 in
theorem fcorners_no (F : FieldT) (C : FieldC F) (t : Trk) (a : Int) (B : Nat) (w : World) (hB : B ≤ w.heap.size) (K : TrkM B w t) (few : fewT t) (k : rightFd t ≠ 0) :
    Calls Try.prog 6 #[trkV t, .int .i64 a] w fun e w' => e = .returned (.bool true) ∧ Below w.heap.size w w' := by
  have Q0 := Lib.hid (PT.new 34 K hB)
  have HC := Lib.hid C
  have HB := Lib.hid hB
  have XF := Lib.hid (fun (W : World) (h : B ≤ W.heap.size) (K : TrkM B W t) => gfew_any t B W h K)
  have XR := Lib.hid (fun (W : World) (h : B ≤ W.heap.size) (K : TrkM B W t) => rFRight_any t B W h K)
  have KT := Lib.hid K
  clear K C
  have E := Lib.hid (decide_eq_true few)
  rw [E.out] at XF
  have XN := Lib.hid (fun (W : World) (h : B ≤ W.heap.size) (K : TrkM B W t) => HC.out.no t B W h K k)
  obtain ⟨er, her⟩ : ∃ er, rightFd t = er := ⟨_, rfl⟩
  rw [her] at XN XR k
  clear few E her k XR
  go_enter Try.func6, Try.ntmps6
  go_wp2_with fail
  refine calls_gen (S := fun W => PT w W B w.heap.size t) Q0.out (fun W1 hS => ?_)
  have Q1 := Lib.hid hS
  clear hS Q0
  refine (XF.out _ (by have := Q1.out.l.size; have := HB.out; omega) Q1.out.t).mono ?_
  rintro e w2 ⟨rfl, h⟩
  have Q2 := Lib.hid (Q1.out.step h)
  have hz2 := Lib.hid (show B ≤ w2.heap.size by have := Q2.out.l.size; have := HB.out; omega)
  clear h Q1 XF
  obtain ⟨q0, q1, q2, q3, q4, q5, q6, q7, q8, q9, q10, q11, q12, q13, q14, q15⟩ := Q2.out.all
  go_wp2_with fail
  refine (XN.out _ hz2.out Q2.out.t).mono ?_
  rintro e w3 ⟨rfl, h⟩
  have Q3 := Lib.hid (Q2.out.step h)
  clear q0 q1 q2 q3 q4 q5 q6 q7 q8 q9 q10 q11 q12 q13 q14 q15
  clear h XN hz2 Q2
  go_wp2_with fail
  refine (fawake_any F HC.out _).mono ?_
  rintro e w9 ⟨rfl, h⟩
  have Q9 := Lib.hid (Q3.out.step h)
  clear h
  go_wp2
  go_ret
  exact ⟨rfl, Q9.out.l⟩
set_option maxRecDepth 100000 in
set_option maxHeartbeats 4000000 in
theorem fcorners_off (F : FieldT) (C : FieldC F) (t : Trk) (a : Int) (B : Nat) (w : World) (hB : B ≤ w.heap.size) (K : TrkM B w t) (few : fewT t) (k : rightFd t = 0) (ha : a < 0 ∨ (t.H.n : Int) ≤ a) :
    Calls Try.prog 6 #[trkV t, .int .i64 a] w fun e w' => e = .returned (.bool true) ∧ Below w.heap.size w w' := by
  by_cases h0 : a < 0
  · skip
    have Q0 := Lib.hid (PT.new 34 K hB)
    have HC := Lib.hid C
    have HB := Lib.hid hB
    have XF := Lib.hid (fun (W : World) (h : B ≤ W.heap.size) (K : TrkM B W t) => gfew_any t B W h K)
    have XR := Lib.hid (fun (W : World) (h : B ≤ W.heap.size) (K : TrkM B W t) => rFRight_any t B W h K)
    have KT := Lib.hid K
    clear K C
    have E := Lib.hid (decide_eq_true few)
    rw [E.out] at XF
    have RI := Lib.hid (right_is k)
    have XN := Lib.hid (fun (W : World) (h : B ≤ W.heap.size) (K : TrkM B W t) => HC.out.yes t 0 B W h K (Nat.zero_le _) (TrkLo.zero t) k)
    clear few E k XR
    clear ha
    go_enter Try.func6, Try.ntmps6
    go_wp2_with fail
    refine calls_gen (S := fun W => PT w W B w.heap.size t) Q0.out (fun W1 hS => ?_)
    have Q1 := Lib.hid hS
    clear hS Q0
    refine (XF.out _ (by have := Q1.out.l.size; have := HB.out; omega) Q1.out.t).mono ?_
    rintro e w2 ⟨rfl, h⟩
    have Q2 := Lib.hid (Q1.out.step h)
    have hz2 := Lib.hid (show B ≤ w2.heap.size by have := Q2.out.l.size; have := HB.out; omega)
    clear h Q1 XF
    obtain ⟨q0, q1, q2, q3, q4, q5, q6, q7, q8, q9, q10, q11, q12, q13, q14, q15⟩ := Q2.out.all
    go_wp2_with fail
    refine (XN.out _ hz2.out Q2.out.t).mono ?_
    rintro e w3 ⟨⟨f, rfl, hp⟩, h⟩
    have Q3 := Lib.hid (Q2.out.step h)
    have P3 := Lib.hid hp
    clear q0 q1 q2 q3 q4 q5 q6 q7 q8 q9 q10 q11 q12 q13 q14 q15
    clear h hp XN hz2 Q2
    obtain ⟨top, htop⟩ : ∃ top, w3.heap.size = top := ⟨_, rfl⟩
    rw [htop] at P3
    clear htop
    go_wp2_with fail
    refine (fawake_any F HC.out _).mono ?_
    rintro e w9 ⟨rfl, h⟩
    have Q9 := Lib.hid (Q3.out.step h)
    clear h
    go_wp2
    go_ret
    exact ⟨rfl, Q9.out.l⟩
  · have h1 : (t.H.n : Int) ≤ a := by omega
    have Q0 := Lib.hid (PT.new 34 K hB)
    have HC := Lib.hid C
    have HB := Lib.hid hB
    have XF := Lib.hid (fun (W : World) (h : B ≤ W.heap.size) (K : TrkM B W t) => gfew_any t B W h K)
    have XR := Lib.hid (fun (W : World) (h : B ≤ W.heap.size) (K : TrkM B W t) => rFRight_any t B W h K)
    have KT := Lib.hid K
    clear K C
    have E := Lib.hid (decide_eq_true few)
    rw [E.out] at XF
    have RI := Lib.hid (right_is k)
    have XN := Lib.hid (fun (W : World) (h : B ≤ W.heap.size) (K : TrkM B W t) => HC.out.yes t 0 B W h K (Nat.zero_le _) (TrkLo.zero t) k)
    clear few E k XR
    clear ha
    go_enter Try.func6, Try.ntmps6
    go_wp2_with fail
    refine calls_gen (S := fun W => PT w W B w.heap.size t) Q0.out (fun W1 hS => ?_)
    have Q1 := Lib.hid hS
    clear hS Q0
    refine (XF.out _ (by have := Q1.out.l.size; have := HB.out; omega) Q1.out.t).mono ?_
    rintro e w2 ⟨rfl, h⟩
    have Q2 := Lib.hid (Q1.out.step h)
    have hz2 := Lib.hid (show B ≤ w2.heap.size by have := Q2.out.l.size; have := HB.out; omega)
    clear h Q1 XF
    obtain ⟨q0, q1, q2, q3, q4, q5, q6, q7, q8, q9, q10, q11, q12, q13, q14, q15⟩ := Q2.out.all
    go_wp2_with fail
    refine (XN.out _ hz2.out Q2.out.t).mono ?_
    rintro e w3 ⟨⟨f, rfl, hp⟩, h⟩
    have Q3 := Lib.hid (Q2.out.step h)
    have P3 := Lib.hid hp
    clear q0 q1 q2 q3 q4 q5 q6 q7 q8 q9 q10 q11 q12 q13 q14 q15
    clear h hp XN hz2 Q2
    obtain ⟨top, htop⟩ : ∃ top, w3.heap.size = top := ⟨_, rfl⟩
    rw [htop] at P3
    clear htop
    have q6 := Q3.out.c.c 6 _ rfl
    go_wp2_with fail
    refine (fawake_any F HC.out _).mono ?_
    rintro e w9 ⟨rfl, h⟩
    have Q9 := Lib.hid (Q3.out.step h)
    clear h
    go_wp2
    go_ret
    exact ⟨rfl, Q9.out.l⟩
theorem cs_new {F : FieldT} {w W : World} {B top f : Nat} {t : Trk} (T : TypeId) (p : F.P 0 top W f t) (q : PT w W B w.heap.size t) : CS F w (W.alloc (.cells #[.bool false] T)) B top f W.heap.size t := by
  have B1 : Below W.heap.size W (W.alloc (.cells #[.bool false] T)) := (Below.refl W.heap.size W).alloc (Nat.le_refl _) _
  exact ⟨⟨F.step p B1, MAt.new W false T, q.l.trans (B1.mono q.l.size), Or.inr (F.top p), q.l.size⟩, q.c.alloc _, q.t.keep B1 (by have := q.l.size; have := q.z; omega), q.z, q.c.lt⟩
theorem CS.fxo {F : FieldT} {w W W' : World} {B top f m : Nat} {t : Trk} {o : Bool} (s : CS F w W B top f m t) (h : FxW W.heap.size W m 0 (false || o) W') (e : o = false) : CS F w W' B top f m t := s.fx (by rw [e] at h; exact h)
end Go.Proofs.Ytmocmphgbppphaa

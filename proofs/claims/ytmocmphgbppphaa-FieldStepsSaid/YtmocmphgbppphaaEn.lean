/- The walk of FieldHeight. -/
import Derived.Test.YtmocmphgbppphaaEm
namespace Go.Proofs.Ytmocmphgbppphaa
open Go.RowKit
set_option linter.unusedVariables false
set_option linter.unusedSimpArgs false

theorem right_is {t : Trk} (h : rightFd t = 0) : cntP t ∧ frP t := by
  unfold rightFd at h
  split at h
  · rename_i c
    split at h
    · rename_i a; exact ⟨c, a.1⟩
    · omega
  · omega
/-- a track and a place in blocks of their own, the field, both flags -/
structure HS (F : FieldT) (w W : World) (B top f m d : Nat) (o q : Bool) (t : Trk) (x y : Int) : Prop where
  g : GD F w W 0 top f m d o q t
  c : BW W w.heap.size (trkL t)
  e : BW W (w.heap.size + 1) [.int .i64 x, .int .i64 y]
  k : TrkM B W t
  hB : B ≤ w.heap.size
  mm : w.heap.size + 1 < m
  dd : w.heap.size + 1 < d
theorem HS.step {F : FieldT} {w W W' : World} {B top f m d : Nat} {o q : Bool} {t : Trk} {x y : Int} (s : HS F w W B top f m d o q t x y) (h : Below W.heap.size W W') : HS F w W' B top f m d o q t x y :=
  ⟨s.g.step h, s.c.below h s.c.lt, s.e.below h s.e.lt, s.k.keep h (by have := s.hB; have := s.c.lt; omega), s.hB, s.mm, s.dd⟩
theorem HS.fx {F : FieldT} {w W W' : World} {B top f m d : Nat} {o q r : Bool} {t : Trk} {x y : Int} (s : HS F w W B top f m d o q t x y) (h : FxW W.heap.size W m 0 r W') : HS F w W' B top f m d r q t x y :=
  ⟨s.g.fx h, s.c.fx h (by have := s.mm; omega), s.e.fx h (by have := s.mm; omega), s.k.fx h (by have := s.hB; have := s.mm; omega) (by have := s.hB; have := s.c.lt; omega), s.hB, s.mm, s.dd⟩
theorem HS.dx {F : FieldT} {w W W' : World} {B top f m d : Nat} {o q r : Bool} {t : Trk} {x y : Int} (s : HS F w W B top f m d o q t x y) (h : FxW W.heap.size W d 0 r W') : HS F w W' B top f m d o r t x y :=
  ⟨s.g.dx h, s.c.fx h (by have := s.dd; omega), s.e.fx h (by have := s.dd; omega), s.k.fx h (by have := s.hB; have := s.dd; omega) (by have := s.hB; have := s.c.lt; omega), s.hB, s.mm, s.dd⟩
def HSc (W : World) (n : Nat) (t : Trk) (x y : Int) : Prop := (W.cell? ⟨n, 0, none⟩ = some (.int .i64 t.rate) ∧ W.cell? ⟨n, 1, none⟩ = some (.int .i64 t.cell) ∧ W.cell? ⟨n, 2, none⟩ = some (.int .i64 t.cols) ∧ W.cell? ⟨n, 3, none⟩ = some (.int .i64 t.rows) ∧ W.cell? ⟨n, 4, none⟩ = some (.int .i64 t.cx) ∧ W.cell? ⟨n, 5, none⟩ = some (.int .i64 t.cy) ∧
    W.cell? ⟨n, 6, none⟩ = some (.slice t.H.a t.H.n t.H.c) ∧ W.cell? ⟨n, 7, none⟩ = some (.slice t.G.a t.G.n t.G.c) ∧ W.cell? ⟨n, 8, none⟩ = some (.slice t.ka t.kn t.kc) ∧ W.cell? ⟨n, 9, none⟩ = some (.slice t.la t.ln t.lc) ∧ W.cell? ⟨n, 10, none⟩ = some (.slice t.ra t.rn t.rc) ∧ W.cell? ⟨n, 11, none⟩ = some (.slice t.ga t.gn t.gc) ∧
    W.cell? ⟨n, 12, none⟩ = some (.int .i64 t.sx) ∧ W.cell? ⟨n, 13, none⟩ = some (.int .i64 t.sy) ∧ W.cell? ⟨n, 14, none⟩ = some (.int .u32 t.head) ∧ W.cell? ⟨n, 15, none⟩ = some (.int .i64 t.laps)) ∧ W.cell? ⟨n + 1, 0, none⟩ = some (.int .i64 x) ∧ W.cell? ⟨n + 1, 1, none⟩ = some (.int .i64 y)
theorem bw_hsc {W : World} {n : Nat} {t : Trk} {x y : Int} (c : BW W n (trkL t)) (e : BW W (n + 1) [.int .i64 x, .int .i64 y]) : HSc W n t x y :=
  ⟨⟨c.c 0 _ rfl, c.c 1 _ rfl, c.c 2 _ rfl, c.c 3 _ rfl, c.c 4 _ rfl, c.c 5 _ rfl, c.c 6 _ rfl, c.c 7 _ rfl, c.c 8 _ rfl, c.c 9 _ rfl, c.c 10 _ rfl, c.c 11 _ rfl, c.c 12 _ rfl, c.c 13 _ rfl, c.c 14 _ rfl, c.c 15 _ rfl⟩, e.c 0 _ rfl, e.c 1 _ rfl⟩
/-- a track's copy and a place's, before there is a field -/
structure HP (w W : World) (B : Nat) (t : Trk) (x y : Int) : Prop where
  q : PT w W B w.heap.size t
  e : BW W (w.heap.size + 1) [.int .i64 x, .int .i64 y]
theorem HP.step {w W W' : World} {B : Nat} {t : Trk} {x y : Int} (s : HP w W B t x y) (h : Below W.heap.size W W') : HP w W' B t x y := ⟨s.q.step h, s.e.below h s.e.lt⟩
set_option maxRecDepth 100000 in
set_option maxHeartbeats 4000000 in
theorem fheight_many (F : FieldT) (C : FieldC F) (t : Trk) (x y : Int) (B : Nat) (w : World) (hB : B ≤ w.heap.size) (K : TrkM B w t) (few : ¬ fewT t) :
    Calls Try.prog 5 #[.agg #[.int .i64 t.rate, .int .i64 t.cell, .int .i64 t.cols, .int .i64 t.rows, .int .i64 t.cx, .int .i64 t.cy, .slice t.H.a t.H.n t.H.c, .slice t.G.a t.G.n t.G.c, .slice t.ka t.kn t.kc, .slice t.la t.ln t.lc, .slice t.ra t.rn t.rc, .slice t.ga t.gn t.gc, .int .i64 t.sx, .int .i64 t.sy, .int .u32 t.head, .int .i64 t.laps], .agg #[.int .i64 x, .int .i64 y]] w fun e w' => e = .returned (.bool true) ∧ Below w.heap.size w w' := by
  have HC := Lib.hid C
  have HB := Lib.hid hB
  have XF := Lib.hid (fun (W : World) (h : B ≤ W.heap.size) (K : TrkM B W t) => gfew_any t B W h K)
  have XR := Lib.hid (fun (W : World) (h : B ≤ W.heap.size) (K : TrkM B W t) => rFRight_any t B W h K)
  have KT := Lib.hid K
  clear K C
  have E := Lib.hid (decide_eq_false few)
  rw [E.out] at XF
  clear few E
  go_enter Try.func5, Try.ntmps5
  go_wp2_with fail
  refine calls_gen (S := fun W => HP w W B t x y) ⟨⟨((BW.new w _ (trkL t) _ rfl).alloc _), by repeat (first | exact Below.refl _ _ | assumption | refine Below.setCell ?_ (by first | omega | (simp; done) | (simp; omega)) _ | refine Below.alloc ?_ (by first | omega | (simp; done) | (simp; omega)) _ | refine below_drewN ?_ _ | refine Below.drew ?_ | refine Below.trans ?_ (Below.mono (by assumption) (by first | omega | (simp; done) | (simp; omega)))), KT.out.keep (show Below w.heap.size w _ by repeat (first | exact Below.refl _ _ | assumption | refine Below.setCell ?_ (by first | omega | (simp; done) | (simp; omega)) _ | refine Below.alloc ?_ (by first | omega | (simp; done) | (simp; omega)) _ | refine below_drewN ?_ _ | refine Below.drew ?_ | refine Below.trans ?_ (Below.mono (by assumption) (by first | omega | (simp; done) | (simp; omega))))) HB.out, HB.out⟩, BW.new _ _ [_, _] _ (by simp)⟩ (fun W1 hS => ?_)
  have Q1 := Lib.hid hS
  clear hS
  refine (XF.out _ (by have := Q1.out.q.l.size; have := HB.out; omega) Q1.out.q.t).mono ?_
  rintro e w2 ⟨rfl, h⟩
  have Q2 := Lib.hid (Q1.out.step h)
  have hz2 := Lib.hid (show B ≤ w2.heap.size by have := Q2.out.q.l.size; have := HB.out; omega)
  clear h Q1 XF
  go_wp2_with fail
  refine (fawake_any F HC.out _).mono ?_
  rintro e w9 ⟨rfl, h⟩
  have Q9 := Lib.hid (Q2.out.step h)
  clear h
  go_wp2
  go_ret
  exact ⟨rfl, Q9.out.q.l⟩
set_option maxRecDepth 100000 in
set_option maxHeartbeats 4000000 in
theorem fheight_no (F : FieldT) (C : FieldC F) (t : Trk) (x y : Int) (B : Nat) (w : World) (hB : B ≤ w.heap.size) (K : TrkM B w t) (few : fewT t) (k : rightFd t ≠ 0) :
    Calls Try.prog 5 #[.agg #[.int .i64 t.rate, .int .i64 t.cell, .int .i64 t.cols, .int .i64 t.rows, .int .i64 t.cx, .int .i64 t.cy, .slice t.H.a t.H.n t.H.c, .slice t.G.a t.G.n t.G.c, .slice t.ka t.kn t.kc, .slice t.la t.ln t.lc, .slice t.ra t.rn t.rc, .slice t.ga t.gn t.gc, .int .i64 t.sx, .int .i64 t.sy, .int .u32 t.head, .int .i64 t.laps], .agg #[.int .i64 x, .int .i64 y]] w fun e w' => e = .returned (.bool true) ∧ Below w.heap.size w w' := by
  have HC := Lib.hid C
  have HB := Lib.hid hB
  have XF := Lib.hid (fun (W : World) (h : B ≤ W.heap.size) (K : TrkM B W t) => gfew_any t B W h K)
  have XR := Lib.hid (fun (W : World) (h : B ≤ W.heap.size) (K : TrkM B W t) => rFRight_any t B W h K)
  have KT := Lib.hid K
  clear K C
  have E := Lib.hid (decide_eq_true few)
  rw [E.out] at XF
  obtain ⟨er, her⟩ : ∃ er, rightFd t = er := ⟨_, rfl⟩
  rw [her] at XR k
  clear few E her
  go_enter Try.func5, Try.ntmps5
  go_wp2_with fail
  refine calls_gen (S := fun W => HP w W B t x y) ⟨⟨((BW.new w _ (trkL t) _ rfl).alloc _), by repeat (first | exact Below.refl _ _ | assumption | refine Below.setCell ?_ (by first | omega | (simp; done) | (simp; omega)) _ | refine Below.alloc ?_ (by first | omega | (simp; done) | (simp; omega)) _ | refine below_drewN ?_ _ | refine Below.drew ?_ | refine Below.trans ?_ (Below.mono (by assumption) (by first | omega | (simp; done) | (simp; omega)))), KT.out.keep (show Below w.heap.size w _ by repeat (first | exact Below.refl _ _ | assumption | refine Below.setCell ?_ (by first | omega | (simp; done) | (simp; omega)) _ | refine Below.alloc ?_ (by first | omega | (simp; done) | (simp; omega)) _ | refine below_drewN ?_ _ | refine Below.drew ?_ | refine Below.trans ?_ (Below.mono (by assumption) (by first | omega | (simp; done) | (simp; omega))))) HB.out, HB.out⟩, BW.new _ _ [_, _] _ (by simp)⟩ (fun W1 hS => ?_)
  have Q1 := Lib.hid hS
  clear hS
  refine (XF.out _ (by have := Q1.out.q.l.size; have := HB.out; omega) Q1.out.q.t).mono ?_
  rintro e w2 ⟨rfl, h⟩
  have Q2 := Lib.hid (Q1.out.step h)
  have hz2 := Lib.hid (show B ≤ w2.heap.size by have := Q2.out.q.l.size; have := HB.out; omega)
  clear h Q1 XF
  obtain ⟨⟨q0, q1, q2, q3, q4, q5, q6, q7, q8, q9, q10, q11, q12, q13, q14, q15⟩, e0, e1⟩ := bw_hsc Q2.out.q.c Q2.out.e
  go_wp2_with fail
  refine (XR.out _ hz2.out Q2.out.q.t).mono ?_
  rintro e w3 ⟨rfl, h⟩
  have Q3 := Lib.hid (Q2.out.step h)
  clear q0 q1 q2 q3 q4 q5 q6 q7 q8 q9 q10 q11 q12 q13 q14 q15 e0 e1
  clear h XR hz2 Q2
  go_wp2_with fail
  refine (fawake_any F HC.out _).mono ?_
  rintro e w9 ⟨rfl, h⟩
  have Q9 := Lib.hid (Q3.out.step h)
  clear h
  go_wp2
  go_ret
  exact ⟨rfl, Q9.out.q.l⟩
end Go.Proofs.Ytmocmphgbppphaa

/- The walk of FieldHeight, put together. -/
import Derived.Test.YtmocmphgbppphaaEo
namespace Go.Proofs.Ytmocmphgbppphaa
open Go.RowKit
set_option linter.unusedVariables false
set_option linter.unusedSimpArgs false

set_option maxRecDepth 100000 in
set_option maxHeartbeats 4000000 in
theorem fheight_yes (F : FieldT) (C : FieldC F) (t : Trk) (x y : Int) (B : Nat) (w : World) (hB : B ≤ w.heap.size) (K : TrkM B w t) (hx : In64 x) (hy : In64 y) (few : fewT t) (k : rightFd t = 0) :
    Calls Try.prog 5 #[.agg #[.int .i64 t.rate, .int .i64 t.cell, .int .i64 t.cols, .int .i64 t.rows, .int .i64 t.cx, .int .i64 t.cy, .slice t.H.a t.H.n t.H.c, .slice t.G.a t.G.n t.G.c, .slice t.ka t.kn t.kc, .slice t.la t.ln t.lc, .slice t.ra t.rn t.rc, .slice t.ga t.gn t.gc, .int .i64 t.sx, .int .i64 t.sy, .int .u32 t.head, .int .i64 t.laps], .agg #[.int .i64 x, .int .i64 y]] w fun e w' => e = .returned (.bool true) ∧ Below w.heap.size w w' := by
  have HC := Lib.hid C
  have HB := Lib.hid hB
  have XF := Lib.hid (fun (W : World) (h : B ≤ W.heap.size) (K : TrkM B W t) => gfew_any t B W h K)
  have XR := Lib.hid (fun (W : World) (h : B ≤ W.heap.size) (K : TrkM B W t) => rFRight_any t B W h K)
  have KT := Lib.hid K
  clear K C
  have E := Lib.hid (decide_eq_true few)
  rw [E.out] at XF
  rw [k] at XR
  have RI := Lib.hid (right_is k)
  have XN := Lib.hid (fun (W : World) (h : B ≤ W.heap.size) (K : TrkM B W t) => HC.out.yes t 0 B W h K (Nat.zero_le _) (TrkLo.zero t) k)
  clear few E k
  go_enter Try.func5, Try.ntmps5
  go_wp2_with fail
  refine calls_gen (S := fun W => HP w W B t x y) ⟨⟨((BW.new w _ (trkL t) _ rfl).alloc _), by repeat (first | exact Below.refl _ _ | assumption | refine Below.setCell ?_ (by first | omega | (simp; done) | (simp; omega)) _ | refine Below.alloc ?_ (by first | omega | (simp; done) | (simp; omega)) _ | refine below_drewN ?_ _ | refine Below.drew ?_ | refine Below.trans ?_ (Below.mono (by assumption) (by first | omega | (simp; done) | (simp; omega)))), KT.out.keep (show Below w.heap.size w _ by repeat (first | exact Below.refl _ _ | assumption | refine Below.setCell ?_ (by first | omega | (simp; done) | (simp; omega)) _ | refine Below.alloc ?_ (by first | omega | (simp; done) | (simp; omega)) _ | refine below_drewN ?_ _ | refine Below.drew ?_ | refine Below.trans ?_ (Below.mono (by assumption) (by first | omega | (simp; done) | (simp; omega))))) HB.out, HB.out⟩, BW.new _ _ [_, _] _ (by simp)⟩ (fun W1 hS => ?_)
  have Q1 := Lib.hid hS
  clear hS
  refine (XF.out _ (by have := Q1.out.q.l.size; have := HB.out; omega) Q1.out.q.t).mono ?_
  rintro e w2 ⟨rfl, h⟩
  have Q2 := Lib.hid (Q1.out.step h)
  have hz2 := Lib.hid (show B ≤ w2.heap.size by have := Q2.out.q.l.size; have := HB.out; omega)
  clear h Q1 XF
  obtain ⟨⟨q0, q1, q2, q3, q4, q5, q6, q7, q8, q9, q10, q11, q12, q13, q14, q15⟩, e0, e1⟩ := bw_hsc Q2.out.q.c Q2.out.e
  go_wp2_with fail
  refine (XR.out _ hz2.out Q2.out.q.t).mono ?_
  rintro e w3 ⟨rfl, h⟩
  have Q3 := Lib.hid (Q2.out.step h)
  clear q0 q1 q2 q3 q4 q5 q6 q7 q8 q9 q10 q11 q12 q13 q14 q15 e0 e1
  clear h XR hz2 Q2
  have hz3 := Lib.hid (show B ≤ w3.heap.size by have := Q3.out.q.l.size; have := HB.out; omega)
  obtain ⟨⟨q0, q1, q2, q3, q4, q5, q6, q7, q8, q9, q10, q11, q12, q13, q14, q15⟩, e0, e1⟩ := bw_hsc Q3.out.q.c Q3.out.e
  go_wp2_with fail
  refine (XN.out _ hz3.out Q3.out.q.t).mono ?_
  rintro e w4 ⟨⟨f, rfl, hp⟩, h⟩
  have Q4 := Lib.hid (Q3.out.step h)
  have P4 := Lib.hid hp
  clear q0 q1 q2 q3 q4 q5 q6 q7 q8 q9 q10 q11 q12 q13 q14 q15 e0 e1
  clear h hp hz3 Q3 XN
  go_wp2_with fail
  refine wp_gen (S := fun W => HS F w W B w4.heap.size f w4.heap.size (w4.heap.size + 1) false false t x y) ?_ (fun W5 hS => ?_)
  · have b0 := hs_new P4.out Q4.out HB.out (.cells #[.bool false] 53) (.cells #[.bool false] 55) (BW.new w4 w4.heap.size [.bool false] _ rfl) (BW.new _ _ [.bool false] _ (by simp))
    exact b0
  exact fheight_reg F HC.out t x y B w4.heap.size f w W5 hx hy RI.out hS _ (by assumption) _ _ _ _ _ _ _ _ _ _ _ _ _ _ _ _ _ _ _ _ _ _ _ _
theorem fheight_walk (F : FieldT) (C : FieldC F) (t : Trk) (x y : Int) (B : Nat) (w : World) (hB : B ≤ w.heap.size) (K : TrkM B w t) (hx : In64 x) (hy : In64 y) :
    Calls Try.prog 5 #[.agg #[.int .i64 t.rate, .int .i64 t.cell, .int .i64 t.cols, .int .i64 t.rows, .int .i64 t.cx, .int .i64 t.cy, .slice t.H.a t.H.n t.H.c, .slice t.G.a t.G.n t.G.c, .slice t.ka t.kn t.kc, .slice t.la t.ln t.lc, .slice t.ra t.rn t.rc, .slice t.ga t.gn t.gc, .int .i64 t.sx, .int .i64 t.sy, .int .u32 t.head, .int .i64 t.laps], .agg #[.int .i64 x, .int .i64 y]] w fun e w' => e = .returned (.bool true) ∧ Below w.heap.size w w' := by
  by_cases few : fewT t
  · by_cases k : rightFd t = 0
    · exact fheight_yes F C t x y B w hB K hx hy few k
    · exact fheight_no F C t x y B w hB K few k
  · exact fheight_many F C t x y B w hB K few
end Go.Proofs.Ytmocmphgbppphaa

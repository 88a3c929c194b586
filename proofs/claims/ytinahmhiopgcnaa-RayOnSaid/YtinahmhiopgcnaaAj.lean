/- The walk of RayOn. -/
import Derived.Test.YtinahmhiopgcnaaAh
import Derived.Test.YtinahmhiopgcnaaBc
import Derived.Test.YtinahmhiopgcnaaBx
namespace Go.Proofs.Ytinahmhiopgcnaa
open Go.RowKit
set_option linter.unusedVariables false
set_option linter.unusedSimpArgs false

instance (a : Ry) : Decidable a.down := by unfold Ry.down; exact inferInstance
theorem cas_on {t : Trk} (hc : cntP t) (hf : frP t) {a : Ry} (hd : a.down) (h : 0 ≤ casI t a) (h0 : tcS t a (casI t a) ≠ 0) :
    0 < tcS t a (casI t a) ∧ tcS t a (casI t a) ≤ a.long ∧ absF (subF (pntF a.oz a.dz (tcS t a (casI t a))) (heightF t (pntF a.ox a.dx (tcS t a (casI t a))) (pntF a.oy a.dy (tcS t a (casI t a))))) ≤ 4194304 := by
  by_cases hm : a.may
  · have E : casI t a = casU t a (casN t) := by unfold casI; rw [if_pos hm]
    rw [E] at h h0 ⊢
    have lo := casU_lo t a (casN t)
    obtain ⟨m1, -⟩ := casU_yes t a (casN t) h
    have es : tcS t a (casU t a (casN t)) = dsI t a (casU t a (casN t)).toNat := by unfold tcS; rw [if_neg (by omega)]
    rw [es] at h0 ⊢
    exact on_met hc hf hm hd (by omega) m1 h0
  · unfold casI at h
    rw [if_neg hm] at h
    omega
theorem ask_c {W : World} {n : Nat} {a : Ry} (e : BW W n (askL a)) : W.cell? ⟨n, 0, none⟩ = some (.int .i64 a.ox) ∧ W.cell? ⟨n, 1, none⟩ = some (.int .i64 a.oy) ∧ W.cell? ⟨n, 2, none⟩ = some (.int .i64 a.oz) ∧ W.cell? ⟨n, 3, none⟩ = some (.int .i64 a.dx) ∧ W.cell? ⟨n, 4, none⟩ = some (.int .i64 a.dy) ∧ W.cell? ⟨n, 5, none⟩ = some (.int .i64 a.dz) ∧ W.cell? ⟨n, 6, none⟩ = some (.int .i64 a.long) :=
  ⟨e.c 0 _ rfl, e.c 1 _ rfl, e.c 2 _ rfl, e.c 3 _ rfl, e.c 4 _ rfl, e.c 5 _ rfl, e.c 6 _ rfl⟩
set_option maxRecDepth 100000 in
set_option maxHeartbeats 4000000 in
theorem ron_few (F : FieldT) (C : FieldR F) (R : RayC F) (t : Trk) (a : Ry) (B : Nat) (w : World) (hB : B ≤ w.heap.size) (K : TrkM B w t) (few : ¬ rfewT t) :
    Calls Try.prog 5 #[trkV t, .agg #[.int .i64 a.ox, .int .i64 a.oy, .int .i64 a.oz, .int .i64 a.dx, .int .i64 a.dy, .int .i64 a.dz, .int .i64 a.long]] w fun e w' => e = .returned (.bool true) ∧ Below w.heap.size w w' := by
  have Q0 := Lib.hid (show RP w ((w.alloc (.cells #[.int .i64 t.rate, .int .i64 t.cell, .int .i64 t.cols, .int .i64 t.rows, .int .i64 t.cx, .int .i64 t.cy, .slice t.H.a t.H.n t.H.c, .slice t.G.a t.G.n t.G.c, .slice t.ka t.kn t.kc, .slice t.la t.ln t.lc, .slice t.ra t.rn t.rc, .slice t.ga t.gn t.gc, .int .i64 t.sx, .int .i64 t.sy, .int .u32 t.head, .int .i64 t.laps] 45)).alloc (.cells #[.int .i64 a.ox, .int .i64 a.oy, .int .i64 a.oz, .int .i64 a.dx, .int .i64 a.dy, .int .i64 a.dz, .int .i64 a.long] 61)) B t (askL a) from ⟨(PT.new 45 K hB).step ((Below.refl _ _).alloc (Nat.le_refl _) _), BW.new _ _ (askL a) _ (by simp)⟩)
  have XF := Lib.hid (fun (W : World) (Q : PT w W B w.heap.size t) => rfew_any t B W Q.bz Q.t)
  have XW := Lib.hid (fun (W : World) => rawake_any F ⟨C.yes⟩ R W)
  rw [decide_eq_false few] at XF
  clear K few C R
  go_enter Try.func5, Try.ntmps5
  go_wp2_with fail
  refine calls_gen (S := fun W => RP w W B t (askL a)) Q0.out (fun W1 hS => ?_)
  have Q1 := Lib.hid hS
  clear hS Q0
  refine (XF.out _ Q1.out.q).mono ?_
  rintro e w2 ⟨rfl, h⟩
  have Q2 := Lib.hid (Q1.out.step h)
  clear h Q1 XF
  go_wp2_with fail
  refine (XW.out _).mono ?_
  rintro e wz ⟨rfl, h⟩
  have Qz := Lib.hid (Q2.out.step h)
  clear h Q2 XW
  go_wp2
  go_ret
  exact ⟨rfl, Qz.out.q.l⟩
set_option maxRecDepth 100000 in
set_option maxHeartbeats 4000000 in
theorem ron_no (F : FieldT) (C : FieldR F) (R : RayC F) (t : Trk) (a : Ry) (B : Nat) (w : World) (hB : B ≤ w.heap.size) (K : TrkM B w t) (few : rfewT t) (hd : ¬ a.down) :
    Calls Try.prog 5 #[trkV t, .agg #[.int .i64 a.ox, .int .i64 a.oy, .int .i64 a.oz, .int .i64 a.dx, .int .i64 a.dy, .int .i64 a.dz, .int .i64 a.long]] w fun e w' => e = .returned (.bool true) ∧ Below w.heap.size w w' := by
  have Q0 := Lib.hid (show RP w ((w.alloc (.cells #[.int .i64 t.rate, .int .i64 t.cell, .int .i64 t.cols, .int .i64 t.rows, .int .i64 t.cx, .int .i64 t.cy, .slice t.H.a t.H.n t.H.c, .slice t.G.a t.G.n t.G.c, .slice t.ka t.kn t.kc, .slice t.la t.ln t.lc, .slice t.ra t.rn t.rc, .slice t.ga t.gn t.gc, .int .i64 t.sx, .int .i64 t.sy, .int .u32 t.head, .int .i64 t.laps] 45)).alloc (.cells #[.int .i64 a.ox, .int .i64 a.oy, .int .i64 a.oz, .int .i64 a.dx, .int .i64 a.dy, .int .i64 a.dz, .int .i64 a.long] 61)) B t (askL a) from ⟨(PT.new 45 K hB).step ((Below.refl _ _).alloc (Nat.le_refl _) _), BW.new _ _ (askL a) _ (by simp)⟩)
  have XF := Lib.hid (fun (W : World) (Q : PT w W B w.heap.size t) => rfew_any t B W Q.bz Q.t)
  have XW := Lib.hid (fun (W : World) => rawake_any F ⟨C.yes⟩ R W)
  rw [decide_eq_true few] at XF
  have HD := Lib.hid hd
  clear K few C R hd
  go_enter Try.func5, Try.ntmps5
  go_wp2_with fail
  refine calls_gen (S := fun W => RP w W B t (askL a)) Q0.out (fun W1 hS => ?_)
  have Q1 := Lib.hid hS
  clear hS Q0
  refine (XF.out _ Q1.out.q).mono ?_
  rintro e w2 ⟨rfl, h⟩
  have Q2 := Lib.hid (Q1.out.step h)
  clear h Q1 XF
  obtain ⟨f0, f1, f2, f3, f4, f5, f6⟩ := ask_c Q2.out.e
  by_cases c1 : -2147483648 < a.dz
  · skip
    go_wp2_with fail
    refine (XW.out _).mono ?_
    rintro e wz ⟨rfl, h⟩
    have Qz := Lib.hid (Q2.out.step h)
    clear h Q2 XW
    go_wp2
    go_ret
    exact ⟨rfl, Qz.out.q.l⟩
  by_cases c2 : 536870912 < a.dx
  · skip
    go_wp2_with fail
    refine (XW.out _).mono ?_
    rintro e wz ⟨rfl, h⟩
    have Qz := Lib.hid (Q2.out.step h)
    clear h Q2 XW
    go_wp2
    go_ret
    exact ⟨rfl, Qz.out.q.l⟩
  by_cases c3 : a.dx < -536870912
  · skip
    go_wp2_with fail
    refine (XW.out _).mono ?_
    rintro e wz ⟨rfl, h⟩
    have Qz := Lib.hid (Q2.out.step h)
    clear h Q2 XW
    go_wp2
    go_ret
    exact ⟨rfl, Qz.out.q.l⟩
  by_cases c4 : 536870912 < a.dy
  · skip
    go_wp2_with fail
    refine (XW.out _).mono ?_
    rintro e wz ⟨rfl, h⟩
    have Qz := Lib.hid (Q2.out.step h)
    clear h Q2 XW
    go_wp2
    go_ret
    exact ⟨rfl, Qz.out.q.l⟩
  by_cases c5 : a.dy < -536870912
  · skip
    go_wp2_with fail
    refine (XW.out _).mono ?_
    rintro e wz ⟨rfl, h⟩
    have Qz := Lib.hid (Q2.out.step h)
    clear h Q2 XW
    go_wp2
    go_ret
    exact ⟨rfl, Qz.out.q.l⟩
  by_cases c6 : 35184372088832 < a.ox
  · skip
    go_wp2_with fail
    refine (XW.out _).mono ?_
    rintro e wz ⟨rfl, h⟩
    have Qz := Lib.hid (Q2.out.step h)
    clear h Q2 XW
    go_wp2
    go_ret
    exact ⟨rfl, Qz.out.q.l⟩
  by_cases c7 : a.ox < -35184372088832
  · skip
    go_wp2_with fail
    refine (XW.out _).mono ?_
    rintro e wz ⟨rfl, h⟩
    have Qz := Lib.hid (Q2.out.step h)
    clear h Q2 XW
    go_wp2
    go_ret
    exact ⟨rfl, Qz.out.q.l⟩
  by_cases c8 : 35184372088832 < a.oy
  · skip
    go_wp2_with fail
    refine (XW.out _).mono ?_
    rintro e wz ⟨rfl, h⟩
    have Qz := Lib.hid (Q2.out.step h)
    clear h Q2 XW
    go_wp2
    go_ret
    exact ⟨rfl, Qz.out.q.l⟩
  by_cases c9 : a.oy < -35184372088832
  · skip
    go_wp2_with fail
    refine (XW.out _).mono ?_
    rintro e wz ⟨rfl, h⟩
    have Qz := Lib.hid (Q2.out.step h)
    clear h Q2 XW
    go_wp2
    go_ret
    exact ⟨rfl, Qz.out.q.l⟩
  exact absurd (show a.down from ⟨by omega, ⟨by omega, by omega⟩, ⟨by omega, by omega⟩, ⟨by omega, by omega⟩, by omega, by omega⟩) HD.out
set_option maxRecDepth 100000 in
set_option maxHeartbeats 4000000 in
theorem ron_yes (F : FieldT) (C : FieldR F) (R : RayC F) (t : Trk) (a : Ry) (B : Nat) (w : World) (hB : B ≤ w.heap.size) (K : TrkM B w t) (ha : a.ins) (few : rfewT t) (hd : a.down) :
    Calls Try.prog 5 #[trkV t, .agg #[.int .i64 a.ox, .int .i64 a.oy, .int .i64 a.oz, .int .i64 a.dx, .int .i64 a.dy, .int .i64 a.dz, .int .i64 a.long]] w fun e w' => e = .returned (.bool true) ∧ Below w.heap.size w w' := by
  have Q0 := Lib.hid (show RP w ((w.alloc (.cells #[.int .i64 t.rate, .int .i64 t.cell, .int .i64 t.cols, .int .i64 t.rows, .int .i64 t.cx, .int .i64 t.cy, .slice t.H.a t.H.n t.H.c, .slice t.G.a t.G.n t.G.c, .slice t.ka t.kn t.kc, .slice t.la t.ln t.lc, .slice t.ra t.rn t.rc, .slice t.ga t.gn t.gc, .int .i64 t.sx, .int .i64 t.sy, .int .u32 t.head, .int .i64 t.laps] 45)).alloc (.cells #[.int .i64 a.ox, .int .i64 a.oy, .int .i64 a.oz, .int .i64 a.dx, .int .i64 a.dy, .int .i64 a.dz, .int .i64 a.long] 61)) B t (askL a) from ⟨(PT.new 45 K hB).step ((Below.refl _ _).alloc (Nat.le_refl _) _), BW.new _ _ (askL a) _ (by simp)⟩)
  have XF := Lib.hid (fun (W : World) (Q : PT w W B w.heap.size t) => rfew_any t B W Q.bz Q.t)
  have XW := Lib.hid (fun (W : World) => rawake_any F ⟨C.yes⟩ R W)
  rw [decide_eq_true few] at XF
  obtain ⟨-, -, hr⟩ := few
  have ri := right_of' hr
  have ON := Lib.hid (fun h h0 => cas_on ri.1 ri.2 hd h h0)
  have XN := Lib.hid (fun (W : World) (Q : PT w W B w.heap.size t) => C.yes t 0 B W Q.bz Q.t (Nat.zero_le _) (TrkLo.zero t) hr)
  have XC := Lib.hid (fun (top f m : Nat) (o : Bool) (W : World) (S : DSt F w W B top f m o t (askL a)) => R.cast t a m 0 o 0 top f W hr ha S.g.p S.g.e S.g.a)
  have XP := Lib.hid (fun (s : Int) (hs : In64 s) (m : Nat) (o : Bool) (W : World) (M : MAt W m 0 o) => R.point a s m 0 o W ha hs M)
  have XH := Lib.hid (fun (x y : Int) (hx : In64 x) (hy : In64 y) (top f m : Nat) (o : Bool) (W : World) (S : DSt F w W B top f m o t (askL a)) => C.height t x y m 0 o 0 top f W hx hy S.g.p S.g.e S.g.a)
  have HB := Lib.hid hB
  have HL := Lib.hid ha.l
  obtain ⟨g1, ⟨g2, g3⟩, ⟨g4, g5⟩, ⟨g6, g7⟩, g8, g9⟩ := hd
  have c1 : ¬ -2147483648 < a.dz := by omega
  have c2 : ¬ 536870912 < a.dx := by omega
  have c3 : ¬ a.dx < -536870912 := by omega
  have c4 : ¬ 536870912 < a.dy := by omega
  have c5 : ¬ a.dy < -536870912 := by omega
  have c6 : ¬ 35184372088832 < a.ox := by omega
  have c7 : ¬ a.ox < -35184372088832 := by omega
  have c8 : ¬ 35184372088832 < a.oy := by omega
  have c9 : ¬ a.oy < -35184372088832 := by omega
  clear K C R hr ri hB ha g1 g2 g3 g4 g5 g6 g7 g8 g9
  go_enter Try.func5, Try.ntmps5
  go_wp2_with fail
  refine calls_gen (S := fun W => RP w W B t (askL a)) Q0.out (fun W1 hS => ?_)
  have Q1 := Lib.hid hS
  clear hS Q0
  refine (XF.out _ Q1.out.q).mono ?_
  rintro e w2 ⟨rfl, h⟩
  have Q2 := Lib.hid (Q1.out.step h)
  clear h Q1 XF
  obtain ⟨f0, f1, f2, f3, f4, f5, f6⟩ := ask_c Q2.out.e
  obtain ⟨q00, q01, q02, q03, q04, q05, q06, q07, q08, q09, q10, q11, q12, q13, q14, q15⟩ := Q2.out.q.all
  go_wp2_with fail
  refine (XN.out _ Q2.out.q).mono ?_
  rintro e w3 ⟨⟨f, rfl, hp⟩, h⟩
  have Q3 := Lib.hid (Q2.out.step h)
  have S3 := Lib.hid (ds_new hp Q3.out.q.c Q3.out.e Q3.out.q.t Q3.out.q.l HB.out (.cells #[.bool false] 27) (BW.new w3 w3.heap.size [.bool false] _ rfl))
  clear h hp XN Q2 c1 c2 c3 c4 c5 c6 c7 c8 c9 f0 f1 f2 f3 f4 f5 f6 q00 q01 q02 q03 q04 q05 q06 q07 q08 q09 q10 q11 q12 q13 q14 q15
  obtain ⟨f0, f1, f2, f3, f4, f5, f6⟩ := ask_c Q3.out.e
  have fl := Q3.out.e.lt
  go_wp2_with fail
  obtain ⟨m, hm⟩ : ∃ m, w3.heap.size = m := ⟨_, rfl⟩
  rw [hm] at S3 ⊢
  refine calls_gen (S := fun W => DSt F w W B m f m false t (askL a)) S3.out (fun W4 hS => ?_)
  clear S3 hm f0 f1 f2 f3 f4 f5 f6 fl Q3
  have S4 := Lib.hid hS
  clear hS
  refine (XC.out _ _ _ _ _ S4.out).mono ?_
  rintro e w5 ⟨rfl, h⟩
  have S5 := Lib.hid (S4.out.fx h)
  clear h S4 XC
  generalize casI t a = ci at *
  rw [show tcV t a ci = .agg #[.int .i64 (tcS t a ci), .int .i64 (tcX t ci), .int .i64 (tcY t ci), .int .i64 (tcZ t ci), .int .i64 (tcK t ci)] from rfl]
  by_cases hc : 0 ≤ ci
  rotate_left
  · rw [decide_eq_false hc]
    clear ON XP XH
    go_wp2_with fail
    refine (XW.out _).mono ?_
    rintro e w6 ⟨rfl, h⟩
    have S6 := Lib.hid ((S5.out.step ((Below.refl _ _).alloc (Nat.le_refl _) _)).step h)
    clear h S5 XW
    go_wp2
    go_ret
    exact ⟨rfl, S6.out.g.bl⟩
  rw [decide_eq_true hc]
  replace ON := Lib.hid (ON.out hc)
  generalize tcS t a ci = fr at *
  generalize tcX t ci = nx at *
  generalize tcY t ci = ny at *
  generalize tcZ t ci = nz at *
  generalize tcK t ci = kd at *
  by_cases h0 : fr = 0
  · subst h0
    clear ON XP XH
    go_wp2_with fail
    refine (XW.out _).mono ?_
    rintro e w6 ⟨rfl, h⟩
    have S6 := Lib.hid ((S5.out.step ((Below.refl _ _).alloc (Nat.le_refl _) _)).step h)
    clear h S5 XW
    go_wp2
    go_ret
    exact ⟨rfl, S6.out.g.bl⟩
  obtain ⟨o1, o2, o3⟩ := ON.out h0
  have hf0 : (fr == 0) = false := beq_false_of_ne h0
  have is : In64 fr := by have := HL.out; unfold In64 at *; omega
  have PX := Lib.hid (XP.out fr is m)
  have IX := Lib.hid (And.intro (pnt_in a.ox a.dx fr) (And.intro (pnt_in a.oy a.dy fr) (pnt_in a.oz a.dz fr)))
  have O2 := Lib.hid o2
  clear XP is ON HL
  generalize pntO a fr = po at *
  generalize pntF a.ox a.dx fr = px at *
  generalize pntF a.oy a.dy fr = py at *
  generalize pntF a.oz a.dz fr = pz at *
  have HI := Lib.hid (show In64 (heightF t px py) from addF_in _ _)
  have XT := Lib.hid (XH.out px py IX.out.1 IX.out.2.1)
  clear XH
  generalize heightF t px py = H at *
  have O3 := Lib.hid o3
  have O1 := Lib.hid o1
  clear o1 o2 o3
  obtain ⟨f0, f1, f2, f3, f4, f5, f6⟩ := ask_c S5.out.e
  have fl := S5.out.e.lt
  have hmn : m < w5.heap.size := S5.out.g.a.lt
  go_wp2_with fail
  refine calls_gen (S := fun W => DSt F w W B m f m false t (askL a) ∧ BW W w5.heap.size [.int .i64 fr, .int .i64 nx, .int .i64 ny, .int .i64 nz, .int .i64 kd]) ⟨S5.out.step ((Below.refl _ _).alloc (Nat.le_refl _) _), BW.new w5 _ [_, _, _, _, _] _ rfl⟩ (fun W6 hS => ?_)
  have S6 := Lib.hid hS.1
  have T6 := Lib.hid hS.2
  clear hS S5 f0 f1 f2 f3 f4 f5 f6 fl
  obtain ⟨n1, hn1⟩ : ∃ n, w5.heap.size = n := ⟨_, rfl⟩
  rw [hn1] at T6 hmn ⊢
  clear hn1
  have hne : m ≠ n1 := by omega
  refine (PX.out _ _ S6.out.g.a).mono ?_
  rintro e w7 ⟨rfl, h⟩
  rw [Bool.false_or] at h
  have S7 := Lib.hid (S6.out.fx h)
  have T7 := Lib.hid (T6.out.fx h hne)
  clear h S6 T6 PX
  have hmn2 : m < w7.heap.size := S7.out.g.a.lt
  go_wp2_with fail
  refine wp_gen (S := fun W => DSt F w W B m f m po t (askL a) ∧ BW W n1 [.int .i64 fr, .int .i64 nx, .int .i64 ny, .int .i64 nz, .int .i64 kd] ∧ VW W w7.heap.size px py pz) ⟨S7.out.step ((Below.refl _ _).alloc (Nat.le_refl _) _), T7.out.alloc _, VW.new w7 _ px py pz _ rfl⟩ (fun W8 hS => ?_)
  have S8 := Lib.hid (hS.1.step (Below.refl _ _).drew)
  have T8 := Lib.hid hS.2.1.drew
  have P8 := Lib.hid hS.2.2.drew
  clear hS S7 T7
  generalize w7.heap.size = n2 at *
  refine wp_region_held_drew (S := fun W => (W.cell? ⟨n2, 0, none⟩ = some (.int .i64 (px)) ∧ W.cell? ⟨n2, 1, none⟩ = some (.int .i64 (py)) ∧ W.cell? ⟨n2, 2, none⟩ = some (.int .i64 (pz)))) (by kernel_rfl) P8.out.held (fun hHeld => ?_)
  generalize World.drew _ = w8 at *
  refine wpAnyH_takeD 0 105 (v := ?_) (by kernel_rfl) (by kernel_rfl) (by kernel_rfl) (by kernel_rfl) (by rfl) (fun _ _ _ h => h) ?_ hHeld ?_
  rotate_left 1
  (intro o ho W hSw; simp only [List.getElem?_toArray, List.getElem?_cons_succ, List.getElem?_cons_zero, Option.some.injEq] at ho; subst ho; (try dsimp only at hSw); go_simp; try with_reducible rfl)
  (try simp only [Act.put, List.setIfInBounds_toArray, List.set_cons_zero, List.set_cons_succ])
  refine wpAnyH_takeD 1 106 (v := ?_) (by kernel_rfl) (by kernel_rfl) (by kernel_rfl) (by kernel_rfl) (by rfl) (fun _ _ _ h => h) ?_ hHeld ?_
  rotate_left 1
  (intro o ho W hSw; simp only [List.getElem?_toArray, List.getElem?_cons_succ, List.getElem?_cons_zero, Option.some.injEq] at ho; subst ho; (try dsimp only at hSw); go_simp; try with_reducible rfl)
  (try simp only [Act.put, List.setIfInBounds_toArray, List.set_cons_zero, List.set_cons_succ])
  refine wpAnyH_takeD 2 107 (v := ?_) (by kernel_rfl) (by kernel_rfl) (by kernel_rfl) (by kernel_rfl) (by rfl) (fun _ _ _ h => h) ?_ hHeld ?_
  rotate_left 1
  (intro o ho W hSw; simp only [List.getElem?_toArray, List.getElem?_cons_succ, List.getElem?_cons_zero, Option.some.injEq] at ho; subst ho; (try dsimp only at hSw); go_simp; try with_reducible rfl)
  (try simp only [Act.put, List.setIfInBounds_toArray, List.set_cons_zero, List.set_cons_succ])
  refine wpAnyH_takeD 3 108 (v := ?_) (by kernel_rfl) (by kernel_rfl) (by kernel_rfl) (by kernel_rfl) (by rfl) (fun _ _ _ h => h) ?_ hHeld ?_
  rotate_left 1
  (intro o ho W hSw; simp only [List.getElem?_toArray, List.getElem?_cons_succ, List.getElem?_cons_zero, Option.some.injEq] at ho; subst ho; (try dsimp only at hSw); go_simp; try with_reducible rfl)
  (try simp only [Act.put, List.setIfInBounds_toArray, List.set_cons_zero, List.set_cons_succ])
  refine wpAnyH_takeD 4 109 (v := ?_) (by kernel_rfl) (by kernel_rfl) (by kernel_rfl) (by kernel_rfl) (by rfl) (fun _ _ _ h => h) ?_ hHeld ?_
  rotate_left 1
  (intro o ho W hSw; simp only [List.getElem?_toArray, List.getElem?_cons_succ, List.getElem?_cons_zero, Option.some.injEq] at ho; subst ho; (try dsimp only at hSw); go_simp; try with_reducible rfl)
  (try simp only [Act.put, List.setIfInBounds_toArray, List.set_cons_zero, List.set_cons_succ])
  refine wpAnyH_takeD 5 110 (v := ?_) (by kernel_rfl) (by kernel_rfl) (by kernel_rfl) (by kernel_rfl) (by rfl) (fun _ _ _ h => h) ?_ hHeld ?_
  rotate_left 1
  (intro o ho W hSw; simp only [List.getElem?_toArray, List.getElem?_cons_succ, List.getElem?_cons_zero, Option.some.injEq] at ho; subst ho; (try dsimp only at hSw); go_simp; try with_reducible rfl)
  (try simp only [Act.put, List.setIfInBounds_toArray, List.set_cons_zero, List.set_cons_succ])
  refine wpAnyH_takeD 6 111 (v := ?_) (by kernel_rfl) (by kernel_rfl) (by kernel_rfl) (by kernel_rfl) (by rfl) (fun _ _ _ h => h) ?_ hHeld ?_
  rotate_left 1
  (intro o ho W hSw; simp only [List.getElem?_toArray, List.getElem?_cons_succ, List.getElem?_cons_zero, Option.some.injEq] at ho; subst ho; (try dsimp only at hSw); go_simp; try with_reducible rfl)
  (try simp only [Act.put, List.setIfInBounds_toArray, List.set_cons_zero, List.set_cons_succ])
  refine wpAnyH_takeD 7 112 (v := ?_) (by kernel_rfl) (by kernel_rfl) (by kernel_rfl) (by kernel_rfl) (by rfl) (fun _ _ _ h => h) ?_ hHeld ?_
  rotate_left 1
  (intro o ho W hSw; simp only [List.getElem?_toArray, List.getElem?_cons_succ, List.getElem?_cons_zero, Option.some.injEq] at ho; subst ho; (try dsimp only at hSw); go_simp; try with_reducible rfl)
  (try simp only [Act.put, List.setIfInBounds_toArray, List.set_cons_zero, List.set_cons_succ])
  refine wpAnyH_takeD 8 113 (v := ?_) (by kernel_rfl) (by kernel_rfl) (by kernel_rfl) (by kernel_rfl) (by rfl) (fun _ _ _ h => h) ?_ hHeld ?_
  rotate_left 1
  (intro o ho W hSw; simp only [List.getElem?_toArray, List.getElem?_cons_succ, List.getElem?_cons_zero, Option.some.injEq] at ho; subst ho; (try dsimp only at hSw); go_simp; try with_reducible rfl)
  (try simp only [Act.put, List.setIfInBounds_toArray, List.set_cons_zero, List.set_cons_succ])
  refine wpAnyH_onlyD 9 (by kernel_rfl) (fun o ho K hK => ?_) (by kernel_rfl)
  simp only [List.getElem?_toArray, List.getElem?_cons_succ, List.getElem?_cons_zero, Option.some.injEq] at ho
  subst ho
  go_simp
  refine (XT.out _ _ _ _ _ S8.out).mono ?_
  rintro e w9 ⟨rfl, h⟩
  have S9 := Lib.hid (S8.out.fx h)
  have T9 := Lib.hid (T8.out.fx h hne)
  have P9 := Lib.hid (P8.out.fx h (by omega))
  go_wp2_with fail
  refine hK.out _ _ (P9.out.held) ?_
  clear hK K hHeld
  intro hHeld
  clear h S8 T8 P8 XT
  refine wpAnyH_onlyD 10 (by kernel_rfl) (fun o ho K hK => ?_) (by kernel_rfl)
  simp only [List.getElem?_toArray, List.getElem?_cons_succ, List.getElem?_cons_zero, Option.some.injEq] at ho
  subst ho
  go_simp
  refine (fxSub_any pz H m 0 po _ IX.out.2.2.1 IX.out.2.2.2 HI.out.1 HI.out.2 S9.out.g.a).mono ?_
  rintro e w10 ⟨rfl, h⟩
  have S10 := Lib.hid (S9.out.fx h)
  have T10 := Lib.hid (T9.out.fx h hne)
  have P10 := Lib.hid (P9.out.fx h (by omega))
  go_wp2_with fail
  refine hK.out _ _ (P10.out.held) ?_
  clear hK K hHeld
  intro hHeld
  clear h S9 T9 P9
  refine wpAnyH_takeD 11 11 (v := ?_) (by kernel_rfl) (by kernel_rfl) (by kernel_rfl) (by kernel_rfl) (by rfl) (fun _ _ _ h => h) ?_ hHeld ?_
  rotate_left 1
  (intro o ho W hSw; simp only [List.getElem?_toArray, List.getElem?_cons_succ, List.getElem?_cons_zero, Option.some.injEq] at ho; subst ho; (try dsimp only at hSw); go_simp; try with_reducible rfl)
  (try simp only [Act.put, List.setIfInBounds_toArray, List.set_cons_zero, List.set_cons_succ])
  refine wpAnyH_done (by kernel_rfl) ?_ _
  clear hHeld P10
  as_aux_lemma =>
  have ID := Lib.hid (show In64 (subF pz H) from subF_in _ _)
  generalize subF pz H = dd at *
  generalize (po || subO pz H) = q2 at *
  have t0 := T10.out.c 0 _ rfl
  obtain ⟨f0, f1, f2, f3, f4, f5, f6⟩ := ask_c S10.out.e
  have o1 := O1.out
  have o2 := O2.out
  go_wp2_with fail
  refine (fxAbs_any dd m 0 q2 _ ID.out.1 ID.out.2 S10.out.g.a).mono ?_
  rintro e w11 ⟨rfl, h⟩
  have S11 := Lib.hid (S10.out.fx h)
  clear h S10 T10 t0 f0 f1 f2 f3 f4 f5 f6
  have o3 := O3.out
  go_wp2_with fail
  refine (XW.out _).mono ?_
  rintro e w12 ⟨rfl, h⟩
  have S12 := Lib.hid (S11.out.step h)
  clear h S11 XW
  go_wp2
  go_ret
  exact ⟨rfl, S12.out.g.bl⟩
theorem ron_walk (F : FieldT) (C : FieldR F) (R : RayC F) (t : Trk) (a : Ry) (B : Nat) (w : World) (hB : B ≤ w.heap.size) (K : TrkM B w t) (ha : a.ins) :
    Calls Try.prog 5 #[trkV t, .agg #[.int .i64 a.ox, .int .i64 a.oy, .int .i64 a.oz, .int .i64 a.dx, .int .i64 a.dy, .int .i64 a.dz, .int .i64 a.long]] w fun e w' => e = .returned (.bool true) ∧ Below w.heap.size w w' := by
  by_cases few : rfewT t
  · by_cases hd : a.down
    · exact ron_yes F C R t a B w hB K ha few hd
    · exact ron_no F C R t a B w hB K few hd
  · exact ron_few F C R t a B w hB K few
end Go.Proofs.Ytinahmhiopgcnaa

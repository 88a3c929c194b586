/- The walk of RayDown. -/
import Derived.Test.YtinahmhiopgcnaaAf
import Derived.Test.YtinahmhiopgcnaaBc
import Derived.Test.YtinahmhiopgcnaaBx
namespace Go.Proofs.Ytinahmhiopgcnaa
open Go.RowKit
set_option linter.unusedVariables false
set_option linter.unusedSimpArgs false

/-- a track and what else came in, in blocks of their own, the field, one flag -/
structure DSt (F : FieldT) (w W : World) (B top f m : Nat) (o : Bool) (t : Trk) (l : List Value) : Prop where
  g : GS F w W 0 top f m o t
  c : BW W w.heap.size (trkL t)
  e : BW W (w.heap.size + 1) l
  k : TrkM B W t
  hB : B ≤ w.heap.size
  mm : w.heap.size + 1 < m
section
variable {F : FieldT} {w W W' : World} {B top f m : Nat} {o r : Bool} {t : Trk} {l : List Value}
theorem DSt.step (s : DSt F w W B top f m o t l) (h : Below W.heap.size W W') : DSt F w W' B top f m o t l :=
  ⟨s.g.step h, s.c.below h s.c.lt, s.e.below h s.e.lt, s.k.keep h (by have := s.hB; have := s.c.lt; omega), s.hB, s.mm⟩
theorem DSt.fx (s : DSt F w W B top f m o t l) (h : FxW W.heap.size W m 0 r W') : DSt F w W' B top f m r t l :=
  ⟨s.g.fx h, s.c.fx h (by have := s.mm; omega), s.e.fx h (by have := s.mm; omega), s.k.fx h (by have := s.hB; have := s.mm; omega) (by have := s.hB; have := s.c.lt; omega), s.hB, s.mm⟩
theorem ds_new (p : F.P 0 W.heap.size W f t) (c : BW W w.heap.size (trkL t)) (e : BW W (w.heap.size + 1) l) (k : TrkM B W t) (bl : Below w.heap.size w W) (hB : B ≤ w.heap.size) (o1 : Obj) (b1 : BW (W.alloc o1) W.heap.size [.bool false]) : DSt F w (W.alloc o1) B W.heap.size f W.heap.size false t l := by
  have B1 : Below W.heap.size W (W.alloc o1) := (Below.refl W.heap.size W).alloc (Nat.le_refl _) o1
  have hl := e.lt
  exact ⟨⟨F.step p B1, ⟨b1.c 0 _ rfl, b1.f 0, b1.lt⟩, bl.trans (B1.mono bl.size), Or.inr (Nat.le_refl _), bl.size⟩, c.alloc o1, e.alloc o1, k.keep B1 (by have := bl.size; omega), hB, hl⟩
end
theorem dn_c5 {W : World} {n : Nat} {a b c d e : Value} (k : BW W n [a, b, c, d, e]) : W.cell? ⟨n, 0, none⟩ = some a ∧ W.cell? ⟨n, 1, none⟩ = some b ∧ W.cell? ⟨n, 2, none⟩ = some c ∧ W.cell? ⟨n, 3, none⟩ = some d ∧ W.cell? ⟨n, 4, none⟩ = some e := ⟨k.c 0 _ rfl, k.c 1 _ rfl, k.c 2 _ rfl, k.c 3 _ rfl, k.c 4 _ rfl⟩
def ptL (x y z : Int) : List Value := [.int .i64 x, .int .i64 y, .int .i64 z]
theorem may_dn (px py pz : Int) : (⟨px, py, pz, 0, 0, -4294967296, 0⟩ : Ry).may ↔ (dnR px py pz).may := by
  unfold Ry.may dnR
  dsimp only
  constructor
  · rintro ⟨a, b, c, d, e, f, g, h⟩; exact ⟨a, b, c, d, e, f, by omega, by omega⟩
  · rintro ⟨a, b, c, d, e, f, g, h⟩; exact ⟨a, b, c, d, e, f, by omega, by omega⟩
theorem right_of' {t : Trk} (h : rightFd t = 0) : cntP t ∧ frP t := by
  unfold rightFd at h
  split at h
  · rename_i c
    split at h
    · rename_i a; exact ⟨c, a.1⟩
    · omega
  · omega
set_option maxRecDepth 100000 in
set_option maxHeartbeats 4000000 in
theorem rdown_few (F : FieldT) (C : FieldR F) (R : RayC F) (t : Trk) (px py pz : Int) (B : Nat) (w : World) (hB : B ≤ w.heap.size) (K : TrkM B w t) (few : ¬ rfewT t) :
    Calls Try.prog 4 #[trkV t, .agg #[.int .i64 px, .int .i64 py, .int .i64 pz]] w fun e w' => e = .returned (.bool true) ∧ Below w.heap.size w w' := by
  have Q0 := Lib.hid (show RP w ((w.alloc (.cells #[.int .i64 t.rate, .int .i64 t.cell, .int .i64 t.cols, .int .i64 t.rows, .int .i64 t.cx, .int .i64 t.cy, .slice t.H.a t.H.n t.H.c, .slice t.G.a t.G.n t.G.c, .slice t.ka t.kn t.kc, .slice t.la t.ln t.lc, .slice t.ra t.rn t.rc, .slice t.ga t.gn t.gc, .int .i64 t.sx, .int .i64 t.sy, .int .u32 t.head, .int .i64 t.laps] 45)).alloc (.cells #[.int .i64 px, .int .i64 py, .int .i64 pz] 24)) B t (ptL px py pz) from ⟨(PT.new 45 K hB).step ((Below.refl _ _).alloc (Nat.le_refl _) _), BW.new _ _ (ptL px py pz) _ (by simp)⟩)
  have XF := Lib.hid (fun (W : World) (Q : PT w W B w.heap.size t) => rfew_any t B W Q.bz Q.t)
  have XM := Lib.hid (fun (W : World) => by
    have := rRMay_any ⟨px, py, pz, 0, 0, -4294967296, 0⟩ W
    dsimp only [Ry.o, Ry.d] at this
    exact this)
  have XW := Lib.hid (fun (W : World) => rawake_any F ⟨C.yes⟩ R W)
  rw [decide_eq_false few] at XF
  clear K few C R XM
  go_enter Try.func4, Try.ntmps4
  go_wp2_with fail
  refine calls_gen (S := fun W => RP w W B t (ptL px py pz)) Q0.out (fun W1 hS => ?_)
  have Q1 := Lib.hid hS
  clear hS Q0
  refine (XF.out _ Q1.out.q).mono ?_
  rintro e w2 ⟨rfl, h⟩
  have Q2 := Lib.hid (Q1.out.step h)
  clear h Q1 XF
  go_wp2_with fail
  refine (XW.out _).mono ?_
  rintro e wz ⟨rfl, h⟩
  have Qz := Lib.hid (Q2.out.step h)
  clear h Q2 XW
  go_wp2
  go_ret
  exact ⟨rfl, Qz.out.q.l⟩
set_option maxRecDepth 100000 in
set_option maxHeartbeats 4000000 in
theorem rdown_no (F : FieldT) (C : FieldR F) (R : RayC F) (t : Trk) (px py pz : Int) (B : Nat) (w : World) (hB : B ≤ w.heap.size) (K : TrkM B w t) (few : rfewT t) (may : ¬ (dnR px py pz).may) :
    Calls Try.prog 4 #[trkV t, .agg #[.int .i64 px, .int .i64 py, .int .i64 pz]] w fun e w' => e = .returned (.bool true) ∧ Below w.heap.size w w' := by
  have Q0 := Lib.hid (show RP w ((w.alloc (.cells #[.int .i64 t.rate, .int .i64 t.cell, .int .i64 t.cols, .int .i64 t.rows, .int .i64 t.cx, .int .i64 t.cy, .slice t.H.a t.H.n t.H.c, .slice t.G.a t.G.n t.G.c, .slice t.ka t.kn t.kc, .slice t.la t.ln t.lc, .slice t.ra t.rn t.rc, .slice t.ga t.gn t.gc, .int .i64 t.sx, .int .i64 t.sy, .int .u32 t.head, .int .i64 t.laps] 45)).alloc (.cells #[.int .i64 px, .int .i64 py, .int .i64 pz] 24)) B t (ptL px py pz) from ⟨(PT.new 45 K hB).step ((Below.refl _ _).alloc (Nat.le_refl _) _), BW.new _ _ (ptL px py pz) _ (by simp)⟩)
  have XF := Lib.hid (fun (W : World) (Q : PT w W B w.heap.size t) => rfew_any t B W Q.bz Q.t)
  have XM := Lib.hid (fun (W : World) => by
    have := rRMay_any ⟨px, py, pz, 0, 0, -4294967296, 0⟩ W
    dsimp only [Ry.o, Ry.d] at this
    exact this)
  have XW := Lib.hid (fun (W : World) => rawake_any F ⟨C.yes⟩ R W)
  rw [decide_eq_true few] at XF
  rw [decide_eq_false (fun h => may ((may_dn px py pz).mp h))] at XM
  clear K few may C R
  go_enter Try.func4, Try.ntmps4
  go_wp2_with fail
  refine calls_gen (S := fun W => RP w W B t (ptL px py pz)) Q0.out (fun W1 hS => ?_)
  have Q1 := Lib.hid hS
  clear hS Q0
  refine (XF.out _ Q1.out.q).mono ?_
  rintro e w2 ⟨rfl, h⟩
  have Q2 := Lib.hid (Q1.out.step h)
  clear h Q1 XF
  have f0 := Q2.out.e.c 0 _ rfl
  have f1 := Q2.out.e.c 1 _ rfl
  have f2 := Q2.out.e.c 2 _ rfl
  go_wp2_with fail
  refine (XM.out _).mono ?_
  rintro e w3 ⟨rfl, h⟩
  have Q3 := Lib.hid (Q2.out.step h)
  clear h Q2 XM f0 f1 f2
  go_wp2_with fail
  refine (XW.out _).mono ?_
  rintro e wz ⟨rfl, h⟩
  have Qz := Lib.hid (Q3.out.step h)
  clear h Q3 XW
  go_wp2
  go_ret
  exact ⟨rfl, Qz.out.q.l⟩
set_option maxRecDepth 100000 in
set_option maxHeartbeats 4000000 in
theorem rdown_yes (F : FieldT) (C : FieldR F) (R : RayC F) (t : Trk) (px py pz : Int) (B : Nat) (w : World) (hB : B ≤ w.heap.size) (K : TrkM B w t) (few : rfewT t) (may : (dnR px py pz).may) :
    Calls Try.prog 4 #[trkV t, .agg #[.int .i64 px, .int .i64 py, .int .i64 pz]] w fun e w' => e = .returned (.bool true) ∧ Below w.heap.size w w' := by
  have Q0 := Lib.hid (show RP w ((w.alloc (.cells #[.int .i64 t.rate, .int .i64 t.cell, .int .i64 t.cols, .int .i64 t.rows, .int .i64 t.cx, .int .i64 t.cy, .slice t.H.a t.H.n t.H.c, .slice t.G.a t.G.n t.G.c, .slice t.ka t.kn t.kc, .slice t.la t.ln t.lc, .slice t.ra t.rn t.rc, .slice t.ga t.gn t.gc, .int .i64 t.sx, .int .i64 t.sy, .int .u32 t.head, .int .i64 t.laps] 45)).alloc (.cells #[.int .i64 px, .int .i64 py, .int .i64 pz] 24)) B t (ptL px py pz) from ⟨(PT.new 45 K hB).step ((Below.refl _ _).alloc (Nat.le_refl _) _), BW.new _ _ (ptL px py pz) _ (by simp)⟩)
  have XF := Lib.hid (fun (W : World) (Q : PT w W B w.heap.size t) => rfew_any t B W Q.bz Q.t)
  have XM := Lib.hid (fun (W : World) => by
    have := rRMay_any ⟨px, py, pz, 0, 0, -4294967296, 0⟩ W
    dsimp only [Ry.o, Ry.d] at this
    exact this)
  have XW := Lib.hid (fun (W : World) => rawake_any F ⟨C.yes⟩ R W)
  rw [decide_eq_true few] at XF
  rw [decide_eq_true ((may_dn px py pz).mpr may)] at XM
  obtain ⟨-, -, hr⟩ := few
  have ri := right_of' hr
  have ins := dn_ins may
  have fit := dn_fit ri.1 ri.2 may
  have FA := Lib.hid (fun h => dn_far ri.1 may h)
  have NE := Lib.hid (fun h => dn_near ri.1 may h)
  have ix : In64 px := ⟨ins.o.x0, ins.o.x1⟩
  have iy : In64 py := ⟨ins.o.y0, ins.o.y1⟩
  have iz : In64 pz := ⟨ins.o.z0, ins.o.z1⟩
  have XN := Lib.hid (fun (W : World) (Q : PT w W B w.heap.size t) => C.yes t 0 B W Q.bz Q.t (Nat.zero_le _) (TrkLo.zero t) hr)
  have XH := Lib.hid (fun (top f m : Nat) (W : World) (S : DSt F w W B top f m false t (ptL px py pz)) => C.height t px py m 0 false 0 top f W ix iy S.g.p S.g.e S.g.a)
  have XG := Lib.hid (fun (top f m : Nat) (W : World) (S : DSt F w W B top f m false t (ptL px py pz)) => C.normal t px py m 0 false 0 top f W ix iy S.g.p S.g.e S.g.a)
  have XK := Lib.hid (fun (top f m : Nat) (W : World) (S : DSt F w W B top f m false t (ptL px py pz)) => C.kind t px py 0 top f W ix iy S.g.p)
  have XS := Lib.hid (fun (m : Nat) (W : World) (M : MAt W m 0 false) => by
    have := fxSub_any pz (heightF t px py) m 0 false W iz.1 iz.2 fit.2.1 fit.2.2 M
    rw [fit.1, Bool.or_false] at this
    exact this)
  have XC := Lib.hid (fun (top f m : Nat) (W : World) (S : DSt F w W B top f m false t (ptL px py pz)) => show Calls Try.prog 14 #[.pointer (some ⟨m, 0, none⟩), .pointer (some ⟨f, 0, none⟩), .agg #[.int .i64 px, .int .i64 py, .int .i64 pz], .agg #[.int .i64 0, .int .i64 0, .int .i64 (-4294967296)], .int .i64 274877906944] W fun e w' => e = .returned (.tuple #[tcV t (dnR px py pz) (casI t (dnR px py pz)), .bool (decide (0 ≤ casI t (dnR px py pz)))]) ∧ FxW W.heap.size W m 0 false w' from R.cast t (dnR px py pz) m 0 false 0 top f W hr ins S.g.p S.g.e S.g.a)
  have HB := Lib.hid hB
  clear K C R hr ri hB ins fit ix iy iz may
  generalize heightF t px py = H at *
  generalize slpA t px py = sA at *
  generalize slpB t px py = sB at *
  generalize kindFd t px py = kd at *
  go_enter Try.func4, Try.ntmps4
  go_wp2_with fail
  refine calls_gen (S := fun W => RP w W B t (ptL px py pz)) Q0.out (fun W1 hS => ?_)
  have Q1 := Lib.hid hS
  clear hS Q0
  refine (XF.out _ Q1.out.q).mono ?_
  rintro e w2 ⟨rfl, h⟩
  have Q2 := Lib.hid (Q1.out.step h)
  clear h Q1 XF
  have f0 := Q2.out.e.c 0 _ rfl
  have f1 := Q2.out.e.c 1 _ rfl
  have f2 := Q2.out.e.c 2 _ rfl
  go_wp2_with fail
  refine (XM.out _).mono ?_
  rintro e w3 ⟨rfl, h⟩
  have Q3 := Lib.hid (Q2.out.step h)
  clear h Q2 XM f0 f1 f2
  obtain ⟨q00, q01, q02, q03, q04, q05, q06, q07, q08, q09, q10, q11, q12, q13, q14, q15⟩ := Q3.out.q.all
  go_wp2_with fail
  refine (XN.out _ Q3.out.q).mono ?_
  rintro e w4 ⟨⟨f, rfl, hp⟩, h⟩
  have Q4 := Lib.hid (Q3.out.step h)
  have S4 := Lib.hid (ds_new hp Q4.out.q.c Q4.out.e Q4.out.q.t Q4.out.q.l HB.out (.cells #[.bool false] 27) (BW.new w4 w4.heap.size [.bool false] _ rfl))
  clear q00 q01 q02 q03 q04 q05 q06 q07 q08 q09 q10 q11 q12 q13 q14 q15
  clear h hp XN Q3 Q4
  go_wp2_with fail
  obtain ⟨m, hm⟩ : ∃ m, w4.heap.size = m := ⟨_, rfl⟩
  rw [hm] at S4 ⊢
  refine wp_gen (S := fun W => DSt F w W B m f m false t (ptL px py pz)) S4.out (fun W4 hS => ?_)
  clear S4 hm
  have S5 := Lib.hid (hS.step (Below.refl _ _).drew)
  clear hS
  refine wp_region_held_drew (S := fun W => (W.cell? ⟨w.heap.size + 1, 0, none⟩ = some (.int .i64 (px)) ∧ W.cell? ⟨w.heap.size + 1, 1, none⟩ = some (.int .i64 (py)) ∧ W.cell? ⟨w.heap.size + 1, 2, none⟩ = some (.int .i64 (pz)))) (by kernel_rfl) S5.out.e.h3 (fun hHeld => ?_)
  generalize World.drew _ = w5 at *
  refine wpAnyH_takeD 0 28 (v := ?_) (by kernel_rfl) (by kernel_rfl) (by kernel_rfl) (by kernel_rfl) (by rfl) (fun _ _ _ h => h) ?_ hHeld ?_
  rotate_left 1
  (intro o ho W hSw; simp only [List.getElem?_toArray, List.getElem?_cons_succ, List.getElem?_cons_zero, Option.some.injEq] at ho; subst ho; (try dsimp only at hSw); go_simp; try with_reducible rfl)
  (try simp only [Act.put, List.setIfInBounds_toArray, List.set_cons_zero, List.set_cons_succ])
  refine wpAnyH_takeD 1 29 (v := ?_) (by kernel_rfl) (by kernel_rfl) (by kernel_rfl) (by kernel_rfl) (by rfl) (fun _ _ _ h => h) ?_ hHeld ?_
  rotate_left 1
  (intro o ho W hSw; simp only [List.getElem?_toArray, List.getElem?_cons_succ, List.getElem?_cons_zero, Option.some.injEq] at ho; subst ho; (try dsimp only at hSw); go_simp; try with_reducible rfl)
  (try simp only [Act.put, List.setIfInBounds_toArray, List.set_cons_zero, List.set_cons_succ])
  refine wpAnyH_takeD 2 30 (v := ?_) (by kernel_rfl) (by kernel_rfl) (by kernel_rfl) (by kernel_rfl) (by rfl) (fun _ _ _ h => h) ?_ hHeld ?_
  rotate_left 1
  (intro o ho W hSw; simp only [List.getElem?_toArray, List.getElem?_cons_succ, List.getElem?_cons_zero, Option.some.injEq] at ho; subst ho; (try dsimp only at hSw); go_simp; try with_reducible rfl)
  (try simp only [Act.put, List.setIfInBounds_toArray, List.set_cons_zero, List.set_cons_succ])
  refine wpAnyH_takeD 3 31 (v := ?_) (by kernel_rfl) (by kernel_rfl) (by kernel_rfl) (by kernel_rfl) (by rfl) (fun _ _ _ h => h) ?_ hHeld ?_
  rotate_left 1
  (intro o ho W hSw; simp only [List.getElem?_toArray, List.getElem?_cons_succ, List.getElem?_cons_zero, Option.some.injEq] at ho; subst ho; (try dsimp only at hSw); go_simp; try with_reducible rfl)
  (try simp only [Act.put, List.setIfInBounds_toArray, List.set_cons_zero, List.set_cons_succ])
  refine wpAnyH_takeD 4 32 (v := ?_) (by kernel_rfl) (by kernel_rfl) (by kernel_rfl) (by kernel_rfl) (by rfl) (fun _ _ _ h => h) ?_ hHeld ?_
  rotate_left 1
  (intro o ho W hSw; simp only [List.getElem?_toArray, List.getElem?_cons_succ, List.getElem?_cons_zero, Option.some.injEq] at ho; subst ho; (try dsimp only at hSw); go_simp; try with_reducible rfl)
  (try simp only [Act.put, List.setIfInBounds_toArray, List.set_cons_zero, List.set_cons_succ])
  refine wpAnyH_takeD 5 33 (v := ?_) (by kernel_rfl) (by kernel_rfl) (by kernel_rfl) (by kernel_rfl) (by rfl) (fun _ _ _ h => h) ?_ hHeld ?_
  rotate_left 1
  (intro o ho W hSw; simp only [List.getElem?_toArray, List.getElem?_cons_succ, List.getElem?_cons_zero, Option.some.injEq] at ho; subst ho; (try dsimp only at hSw); go_simp; try with_reducible rfl)
  (try simp only [Act.put, List.setIfInBounds_toArray, List.set_cons_zero, List.set_cons_succ])
  refine wpAnyH_takeD 6 34 (v := ?_) (by kernel_rfl) (by kernel_rfl) (by kernel_rfl) (by kernel_rfl) (by rfl) (fun _ _ _ h => h) ?_ hHeld ?_
  rotate_left 1
  (intro o ho W hSw; simp only [List.getElem?_toArray, List.getElem?_cons_succ, List.getElem?_cons_zero, Option.some.injEq] at ho; subst ho; (try dsimp only at hSw); go_simp; try with_reducible rfl)
  (try simp only [Act.put, List.setIfInBounds_toArray, List.set_cons_zero, List.set_cons_succ])
  refine wpAnyH_takeD 7 35 (v := ?_) (by kernel_rfl) (by kernel_rfl) (by kernel_rfl) (by kernel_rfl) (by rfl) (fun _ _ _ h => h) ?_ hHeld ?_
  rotate_left 1
  (intro o ho W hSw; simp only [List.getElem?_toArray, List.getElem?_cons_succ, List.getElem?_cons_zero, Option.some.injEq] at ho; subst ho; (try dsimp only at hSw); go_simp; try with_reducible rfl)
  (try simp only [Act.put, List.setIfInBounds_toArray, List.set_cons_zero, List.set_cons_succ])
  refine wpAnyH_takeD 8 36 (v := ?_) (by kernel_rfl) (by kernel_rfl) (by kernel_rfl) (by kernel_rfl) (by rfl) (fun _ _ _ h => h) ?_ hHeld ?_
  rotate_left 1
  (intro o ho W hSw; simp only [List.getElem?_toArray, List.getElem?_cons_succ, List.getElem?_cons_zero, Option.some.injEq] at ho; subst ho; (try dsimp only at hSw); go_simp; try with_reducible rfl)
  (try simp only [Act.put, List.setIfInBounds_toArray, List.set_cons_zero, List.set_cons_succ])
  refine wpAnyH_onlyD 9 (by kernel_rfl) (fun o ho K hK => ?_) (by kernel_rfl)
  simp only [List.getElem?_toArray, List.getElem?_cons_succ, List.getElem?_cons_zero, Option.some.injEq] at ho
  subst ho
  go_simp
  refine (XH.out _ _ _ _ S5.out).mono ?_
  rintro e w6 ⟨rfl, h⟩
  have S6 := Lib.hid (S5.out.fx h)
  go_wp2_with fail
  refine hK.out _ _ (S6.out.e.h3) ?_
  clear hK K hHeld
  intro hHeld
  clear h S5
  refine wpAnyH_onlyD 10 (by kernel_rfl) (fun o ho K hK => ?_) (by kernel_rfl)
  simp only [List.getElem?_toArray, List.getElem?_cons_succ, List.getElem?_cons_zero, Option.some.injEq] at ho
  subst ho
  go_simp
  refine (XS.out _ _ S6.out.g.a).mono ?_
  rintro e w7 ⟨rfl, h⟩
  have S7 := Lib.hid (S6.out.fx h)
  go_wp2_with fail
  refine hK.out _ _ (S7.out.e.h3) ?_
  clear hK K hHeld
  intro hHeld
  clear h S6
  refine wpAnyH_takeD 11 8 (v := ?_) (by kernel_rfl) (by kernel_rfl) (by kernel_rfl) (by kernel_rfl) (by rfl) (fun _ _ _ h => h) ?_ hHeld ?_
  rotate_left 1
  (intro o ho W hSw; simp only [List.getElem?_toArray, List.getElem?_cons_succ, List.getElem?_cons_zero, Option.some.injEq] at ho; subst ho; (try dsimp only at hSw); go_simp; try with_reducible rfl)
  (try simp only [Act.put, List.setIfInBounds_toArray, List.set_cons_zero, List.set_cons_succ])
  refine wpAnyH_done (by kernel_rfl) ?_ _
  clear hHeld XH XS
  as_aux_lemma =>
  have f0 := S7.out.e.c 0 _ rfl
  have f1 := S7.out.e.c 1 _ rfl
  have f2 := S7.out.e.c 2 _ rfl
  have fl := S7.out.e.lt
  go_wp2_with fail
  refine (XC.out _ _ _ _ S7.out).mono ?_
  rintro e w8 ⟨rfl, h⟩
  have S8 := Lib.hid (S7.out.fx h)
  clear h S7 XC f0 f1 f2 fl
  generalize subF pz H = ov at *
  generalize dnR px py pz = a at *
  generalize casI t a = ci at *
  by_cases hf : 274877906944 < ov
  · have c := FA.out hf
    rw [decide_eq_false (show ¬ 0 ≤ ci by omega)]
    clear FA NE c XG XK
    go_wp2_with fail
    refine (XW.out _).mono ?_
    rintro e w9 ⟨rfl, h⟩
    have S9 := Lib.hid ((S8.out.step ((Below.refl _ _).alloc (Nat.le_refl _) _)).step h)
    clear h S8 XW
    go_wp2
    go_ret
    exact ⟨rfl, S9.out.g.bl⟩
  · obtain ⟨c, cs, ca, cb, ck⟩ := NE.out (by omega)
    rw [decide_eq_true c]
    have cx : tcX t ci = upX sA sB := by unfold tcX; rw [if_neg (by omega), ca, cb]
    have cy : tcY t ci = upY sA sB := by unfold tcY; rw [if_neg (by omega), ca, cb]
    have cz : tcZ t ci = upZ sA sB := by unfold tcZ; rw [if_neg (by omega), ca, cb]
    rw [show tcV t a ci = .agg #[.int .i64 (tcS t a ci), .int .i64 (upX sA sB), .int .i64 (upY sA sB), .int .i64 (upZ sA sB), .int .i64 kd] by unfold tcV; rw [cx, cy, cz, ck]]
    generalize tcS t a ci = fr at *
    generalize upX sA sB = ux at *
    generalize upY sA sB = uy at *
    generalize upZ sA sB = uz at *
    have CS := Lib.hid cs
    clear FA NE c ca cb ck cx cy cz cs
    go_wp2_with fail
    refine wp_gen (S := fun W => DSt F w W B m f m false t (ptL px py pz) ∧ BW W w8.heap.size [.int .i64 fr, .int .i64 ux, .int .i64 uy, .int .i64 uz, .int .i64 kd]) ⟨S8.out.step ((Below.refl _ _).alloc (Nat.le_refl _) _), BW.new w8 _ [_, _, _, _, _] _ rfl⟩ (fun W9 hS => ?_)
    have S9 := Lib.hid (hS.1.step (Below.refl _ _).drew)
    have T9 := Lib.hid hS.2.drew
    have hne : m ≠ w8.heap.size := by have := S8.out.g.a.lt; omega
    clear hS S8
    generalize w8.heap.size = n1 at *
    have m1 : max ov 0 = fr := by rw [CS.out]; split <;> omega
    have m2 : (if ov < 0 then (0 : Int) else ov) = fr := by rw [CS.out]; split <;> split <;> omega
    have m3 : (if 0 < ov then ov else (0 : Int)) = fr := CS.out.symm
    have m4 : (if ov ≤ 0 then (0 : Int) else ov) = fr := by rw [CS.out]; split <;> split <;> omega
    refine wp_region_held_drew (S := fun W => ((W.cell? ⟨w.heap.size + 1, 0, none⟩ = some (.int .i64 (px)) ∧ W.cell? ⟨w.heap.size + 1, 1, none⟩ = some (.int .i64 (py)) ∧ W.cell? ⟨w.heap.size + 1, 2, none⟩ = some (.int .i64 (pz))) ∧ (W.cell? ⟨n1, 0, none⟩ = some (.int .i64 fr) ∧ W.cell? ⟨n1, 1, none⟩ = some (.int .i64 ux) ∧ W.cell? ⟨n1, 2, none⟩ = some (.int .i64 uy) ∧ W.cell? ⟨n1, 3, none⟩ = some (.int .i64 uz) ∧ W.cell? ⟨n1, 4, none⟩ = some (.int .i64 kd))) ∧ W.cell? ⟨m, 0, none⟩ = some (.bool false)) (by kernel_rfl) ⟨⟨S9.out.e.h3, dn_c5 T9.out⟩, S9.out.g.a.c⟩ (fun hHeld => ?_)
    generalize World.drew _ = w9 at *
    refine wpAnyH_takeD 0 54 (v := ?_) (by kernel_rfl) (by kernel_rfl) (by kernel_rfl) (by kernel_rfl) (by rfl) (fun _ _ _ h => h) ?_ hHeld ?_
    rotate_left 1
    (intro o ho W hSw; simp only [List.getElem?_toArray, List.getElem?_cons_succ, List.getElem?_cons_zero, Option.some.injEq] at ho; subst ho; (try dsimp only at hSw); go_simp; try with_reducible rfl)
    (try simp only [Act.put, List.setIfInBounds_toArray, List.set_cons_zero, List.set_cons_succ])
    refine wpAnyH_takeD 1 55 (v := ?_) (by kernel_rfl) (by kernel_rfl) (by kernel_rfl) (by kernel_rfl) (by rfl) (fun _ _ _ h => h) ?_ hHeld ?_
    rotate_left 1
    (intro o ho W hSw; simp only [List.getElem?_toArray, List.getElem?_cons_succ, List.getElem?_cons_zero, Option.some.injEq] at ho; subst ho; (try dsimp only at hSw); go_simp; try with_reducible rfl)
    (try simp only [Act.put, List.setIfInBounds_toArray, List.set_cons_zero, List.set_cons_succ])
    refine wpAnyH_takeD 2 56 (v := ?_) (by kernel_rfl) (by kernel_rfl) (by kernel_rfl) (by kernel_rfl) (by rfl) (fun _ _ _ h => h) ?_ hHeld ?_
    rotate_left 1
    (intro o ho W hSw; simp only [List.getElem?_toArray, List.getElem?_cons_succ, List.getElem?_cons_zero, Option.some.injEq] at ho; subst ho; (try dsimp only at hSw); go_simp; try with_reducible rfl)
    (try simp only [Act.put, List.setIfInBounds_toArray, List.set_cons_zero, List.set_cons_succ])
    refine wpAnyH_takeD 3 57 (v := ?_) (by kernel_rfl) (by kernel_rfl) (by kernel_rfl) (by kernel_rfl) (by rfl) (fun _ _ _ h => h) ?_ hHeld ?_
    rotate_left 1
    (intro o ho W hSw; simp only [List.getElem?_toArray, List.getElem?_cons_succ, List.getElem?_cons_zero, Option.some.injEq] at ho; subst ho; (try dsimp only at hSw); go_simp; try with_reducible rfl)
    (try simp only [Act.put, List.setIfInBounds_toArray, List.set_cons_zero, List.set_cons_succ])
    refine wpAnyH_takeD 4 58 (v := ?_) (by kernel_rfl) (by kernel_rfl) (by kernel_rfl) (by kernel_rfl) (by rfl) (fun _ _ _ h => h) ?_ hHeld ?_
    rotate_left 1
    (intro o ho W hSw; simp only [List.getElem?_toArray, List.getElem?_cons_succ, List.getElem?_cons_zero, Option.some.injEq] at ho; subst ho; (try dsimp only at hSw); go_simp; try with_reducible rfl)
    (try simp only [Act.put, List.setIfInBounds_toArray, List.set_cons_zero, List.set_cons_succ])
    refine wpAnyH_takeD 5 59 (v := ?_) (by kernel_rfl) (by kernel_rfl) (by kernel_rfl) (by kernel_rfl) (by rfl) (fun _ _ _ h => h) ?_ hHeld ?_
    rotate_left 1
    (intro o ho W hSw; simp only [List.getElem?_toArray, List.getElem?_cons_succ, List.getElem?_cons_zero, Option.some.injEq] at ho; subst ho; (try dsimp only at hSw); go_simp; try with_reducible rfl)
    (try simp only [Act.put, List.setIfInBounds_toArray, List.set_cons_zero, List.set_cons_succ])
    clear m1 m2 m3 m4 CS
    refine wpAnyH_takeD 6 60 (v := ?_) (by kernel_rfl) (by kernel_rfl) (by kernel_rfl) (by kernel_rfl) (by rfl) (fun _ _ _ h => h) ?_ hHeld ?_
    rotate_left 1
    (intro o ho W hSw; simp only [List.getElem?_toArray, List.getElem?_cons_succ, List.getElem?_cons_zero, Option.some.injEq] at ho; subst ho; (try dsimp only at hSw); go_simp; try with_reducible rfl)
    (try simp only [Act.put, List.setIfInBounds_toArray, List.set_cons_zero, List.set_cons_succ])
    refine wpAnyH_takeD 7 61 (v := ?_) (by kernel_rfl) (by kernel_rfl) (by kernel_rfl) (by kernel_rfl) (by rfl) (fun _ _ _ h => h) ?_ hHeld ?_
    rotate_left 1
    (intro o ho W hSw; simp only [List.getElem?_toArray, List.getElem?_cons_succ, List.getElem?_cons_zero, Option.some.injEq] at ho; subst ho; (try dsimp only at hSw); go_simp; try with_reducible rfl)
    (try simp only [Act.put, List.setIfInBounds_toArray, List.set_cons_zero, List.set_cons_succ])
    refine wpAnyH_takeD 8 62 (v := ?_) (by kernel_rfl) (by kernel_rfl) (by kernel_rfl) (by kernel_rfl) (by rfl) (fun _ _ _ h => h) ?_ hHeld ?_
    rotate_left 1
    (intro o ho W hSw; simp only [List.getElem?_toArray, List.getElem?_cons_succ, List.getElem?_cons_zero, Option.some.injEq] at ho; subst ho; (try dsimp only at hSw); go_simp; try with_reducible rfl)
    (try simp only [Act.put, List.setIfInBounds_toArray, List.set_cons_zero, List.set_cons_succ])
    refine wpAnyH_takeD 9 63 (v := ?_) (by kernel_rfl) (by kernel_rfl) (by kernel_rfl) (by kernel_rfl) (by rfl) (fun _ _ _ h => h) ?_ hHeld ?_
    rotate_left 1
    (intro o ho W hSw; simp only [List.getElem?_toArray, List.getElem?_cons_succ, List.getElem?_cons_zero, Option.some.injEq] at ho; subst ho; (try dsimp only at hSw); go_simp; try with_reducible rfl)
    (try simp only [Act.put, List.setIfInBounds_toArray, List.set_cons_zero, List.set_cons_succ])
    refine wpAnyH_takeD 10 64 (v := ?_) (by kernel_rfl) (by kernel_rfl) (by kernel_rfl) (by kernel_rfl) (by rfl) (fun _ _ _ h => h) ?_ hHeld ?_
    rotate_left 1
    (intro o ho W hSw; simp only [List.getElem?_toArray, List.getElem?_cons_succ, List.getElem?_cons_zero, Option.some.injEq] at ho; subst ho; (try dsimp only at hSw); go_simp; try with_reducible rfl)
    (try simp only [Act.put, List.setIfInBounds_toArray, List.set_cons_zero, List.set_cons_succ])
    refine wpAnyH_takeD 11 65 (v := ?_) (by kernel_rfl) (by kernel_rfl) (by kernel_rfl) (by kernel_rfl) (by rfl) (fun _ _ _ h => h) ?_ hHeld ?_
    rotate_left 1
    (intro o ho W hSw; simp only [List.getElem?_toArray, List.getElem?_cons_succ, List.getElem?_cons_zero, Option.some.injEq] at ho; subst ho; (try dsimp only at hSw); go_simp; try with_reducible rfl)
    (try simp only [Act.put, List.setIfInBounds_toArray, List.set_cons_zero, List.set_cons_succ])
    refine wpAnyH_takeD 12 66 (v := ?_) (by kernel_rfl) (by kernel_rfl) (by kernel_rfl) (by kernel_rfl) (by rfl) (fun _ _ _ h => h) ?_ hHeld ?_
    rotate_left 1
    (intro o ho W hSw; simp only [List.getElem?_toArray, List.getElem?_cons_succ, List.getElem?_cons_zero, Option.some.injEq] at ho; subst ho; (try dsimp only at hSw); go_simp; try with_reducible rfl)
    (try simp only [Act.put, List.setIfInBounds_toArray, List.set_cons_zero, List.set_cons_succ])
    refine wpAnyH_takeD 13 67 (v := ?_) (by kernel_rfl) (by kernel_rfl) (by kernel_rfl) (by kernel_rfl) (by rfl) (fun _ _ _ h => h) ?_ hHeld ?_
    rotate_left 1
    (intro o ho W hSw; simp only [List.getElem?_toArray, List.getElem?_cons_succ, List.getElem?_cons_zero, Option.some.injEq] at ho; subst ho; (try dsimp only at hSw); go_simp; try with_reducible rfl)
    (try simp only [Act.put, List.setIfInBounds_toArray, List.set_cons_zero, List.set_cons_succ])
    refine wpAnyH_takeD 14 68 (v := ?_) (by kernel_rfl) (by kernel_rfl) (by kernel_rfl) (by kernel_rfl) (by rfl) (fun _ _ _ h => h) ?_ hHeld ?_
    rotate_left 1
    (intro o ho W hSw; simp only [List.getElem?_toArray, List.getElem?_cons_succ, List.getElem?_cons_zero, Option.some.injEq] at ho; subst ho; (try dsimp only at hSw); go_simp; try with_reducible rfl)
    (try simp only [Act.put, List.setIfInBounds_toArray, List.set_cons_zero, List.set_cons_succ])
    refine wpAnyH_takeD 15 69 (v := ?_) (by kernel_rfl) (by kernel_rfl) (by kernel_rfl) (by kernel_rfl) (by rfl) (fun _ _ _ h => h) ?_ hHeld ?_
    rotate_left 1
    (intro o ho W hSw; simp only [List.getElem?_toArray, List.getElem?_cons_succ, List.getElem?_cons_zero, Option.some.injEq] at ho; subst ho; (try dsimp only at hSw); go_simp; try with_reducible rfl)
    (try simp only [Act.put, List.setIfInBounds_toArray, List.set_cons_zero, List.set_cons_succ])
    refine wpAnyH_takeD 16 70 (v := ?_) (by kernel_rfl) (by kernel_rfl) (by kernel_rfl) (by kernel_rfl) (by rfl) (fun _ _ _ h => h) ?_ hHeld ?_
    rotate_left 1
    (intro o ho W hSw; simp only [List.getElem?_toArray, List.getElem?_cons_succ, List.getElem?_cons_zero, Option.some.injEq] at ho; subst ho; (try dsimp only at hSw); go_simp; try with_reducible rfl)
    (try simp only [Act.put, List.setIfInBounds_toArray, List.set_cons_zero, List.set_cons_succ])
    refine wpAnyH_onlyD 17 (by kernel_rfl) (fun o ho K hK => ?_) (by kernel_rfl)
    simp only [List.getElem?_toArray, List.getElem?_cons_succ, List.getElem?_cons_zero, Option.some.injEq] at ho
    subst ho
    go_simp
    refine (XG.out _ _ _ _ S9.out).mono ?_
    rintro e w10 ⟨rfl, h⟩
    have S10 := Lib.hid (S9.out.fx h)
    have T10 := Lib.hid (T9.out.fx h hne)
    go_wp2_with fail
    refine hK.out _ _ (⟨⟨S10.out.e.h3, dn_c5 T10.out⟩, S10.out.g.a.c⟩) ?_
    clear hK K hHeld
    intro hHeld
    clear h S9 T9
    refine wpAnyH_takeD 18 72 (v := ?_) (by kernel_rfl) (by kernel_rfl) (by kernel_rfl) (by kernel_rfl) (by rfl) (fun _ _ _ h => h) ?_ hHeld ?_
    rotate_left 1
    (intro o ho W hSw; simp only [List.getElem?_toArray, List.getElem?_cons_succ, List.getElem?_cons_zero, Option.some.injEq] at ho; subst ho; (try dsimp only at hSw); go_simp; try with_reducible rfl)
    (try simp only [Act.put, List.setIfInBounds_toArray, List.set_cons_zero, List.set_cons_succ])
    refine wpAnyH_takeD 19 73 (v := ?_) (by kernel_rfl) (by kernel_rfl) (by kernel_rfl) (by kernel_rfl) (by rfl) (fun _ _ _ h => h) ?_ hHeld ?_
    rotate_left 1
    (intro o ho W hSw; simp only [List.getElem?_toArray, List.getElem?_cons_succ, List.getElem?_cons_zero, Option.some.injEq] at ho; subst ho; (try dsimp only at hSw); go_simp; try with_reducible rfl)
    (try simp only [Act.put, List.setIfInBounds_toArray, List.set_cons_zero, List.set_cons_succ])
    refine wpAnyH_takeD 20 74 (v := ?_) (by kernel_rfl) (by kernel_rfl) (by kernel_rfl) (by kernel_rfl) (by rfl) (fun _ _ _ h => h) ?_ hHeld ?_
    rotate_left 1
    (intro o ho W hSw; simp only [List.getElem?_toArray, List.getElem?_cons_succ, List.getElem?_cons_zero, Option.some.injEq] at ho; subst ho; (try dsimp only at hSw); go_simp; try with_reducible rfl)
    (try simp only [Act.put, List.setIfInBounds_toArray, List.set_cons_zero, List.set_cons_succ])
    refine wpAnyH_takeD 21 75 (v := ?_) (by kernel_rfl) (by kernel_rfl) (by kernel_rfl) (by kernel_rfl) (by rfl) (fun _ _ _ h => h) ?_ hHeld ?_
    rotate_left 1
    (intro o ho W hSw; simp only [List.getElem?_toArray, List.getElem?_cons_succ, List.getElem?_cons_zero, Option.some.injEq] at ho; subst ho; (try dsimp only at hSw); go_simp; try with_reducible rfl)
    (try simp only [Act.put, List.setIfInBounds_toArray, List.set_cons_zero, List.set_cons_succ])
    refine wpAnyH_takeD 22 76 (v := ?_) (by kernel_rfl) (by kernel_rfl) (by kernel_rfl) (by kernel_rfl) (by rfl) (fun _ _ _ h => h) ?_ hHeld ?_
    rotate_left 1
    (intro o ho W hSw; simp only [List.getElem?_toArray, List.getElem?_cons_succ, List.getElem?_cons_zero, Option.some.injEq] at ho; subst ho; (try dsimp only at hSw); go_simp; try with_reducible rfl)
    (try simp only [Act.put, List.setIfInBounds_toArray, List.set_cons_zero, List.set_cons_succ])
    refine wpAnyH_takeD 23 77 (v := ?_) (by kernel_rfl) (by kernel_rfl) (by kernel_rfl) (by kernel_rfl) (by rfl) (fun _ _ _ h => h) ?_ hHeld ?_
    rotate_left 1
    (intro o ho W hSw; simp only [List.getElem?_toArray, List.getElem?_cons_succ, List.getElem?_cons_zero, Option.some.injEq] at ho; subst ho; (try dsimp only at hSw); go_simp; try with_reducible rfl)
    (try simp only [Act.put, List.setIfInBounds_toArray, List.set_cons_zero, List.set_cons_succ])
    refine wpAnyH_takeD 24 78 (v := ?_) (by kernel_rfl) (by kernel_rfl) (by kernel_rfl) (by kernel_rfl) (by rfl) (fun _ _ _ h => h) ?_ hHeld ?_
    rotate_left 1
    (intro o ho W hSw; simp only [List.getElem?_toArray, List.getElem?_cons_succ, List.getElem?_cons_zero, Option.some.injEq] at ho; subst ho; (try dsimp only at hSw); go_simp; try with_reducible rfl)
    (try simp only [Act.put, List.setIfInBounds_toArray, List.set_cons_zero, List.set_cons_succ])
    refine wpAnyH_takeD 25 79 (v := ?_) (by kernel_rfl) (by kernel_rfl) (by kernel_rfl) (by kernel_rfl) (by rfl) (fun _ _ _ h => h) ?_ hHeld ?_
    rotate_left 1
    (intro o ho W hSw; simp only [List.getElem?_toArray, List.getElem?_cons_succ, List.getElem?_cons_zero, Option.some.injEq] at ho; subst ho; (try dsimp only at hSw); go_simp; try with_reducible rfl)
    (try simp only [Act.put, List.setIfInBounds_toArray, List.set_cons_zero, List.set_cons_succ])
    refine wpAnyH_takeD 26 80 (v := ?_) (by kernel_rfl) (by kernel_rfl) (by kernel_rfl) (by kernel_rfl) (by rfl) (fun _ _ _ h => h) ?_ hHeld ?_
    rotate_left 1
    (intro o ho W hSw; simp only [List.getElem?_toArray, List.getElem?_cons_succ, List.getElem?_cons_zero, Option.some.injEq] at ho; subst ho; (try dsimp only at hSw); go_simp; try with_reducible rfl)
    (try simp only [Act.put, List.setIfInBounds_toArray, List.set_cons_zero, List.set_cons_succ])
    refine wpAnyH_takeD 27 81 (v := ?_) (by kernel_rfl) (by kernel_rfl) (by kernel_rfl) (by kernel_rfl) (by rfl) (fun _ _ _ h => h) ?_ hHeld ?_
    rotate_left 1
    (intro o ho W hSw; simp only [List.getElem?_toArray, List.getElem?_cons_succ, List.getElem?_cons_zero, Option.some.injEq] at ho; subst ho; (try dsimp only at hSw); go_simp; try with_reducible rfl)
    (try simp only [Act.put, List.setIfInBounds_toArray, List.set_cons_zero, List.set_cons_succ])
    refine wpAnyH_onlyD 28 (by kernel_rfl) (fun o ho K hK => ?_) (by kernel_rfl)
    simp only [List.getElem?_toArray, List.getElem?_cons_succ, List.getElem?_cons_zero, Option.some.injEq] at ho
    subst ho
    go_simp
    refine (XK.out _ _ _ _ S10.out).mono ?_
    rintro e w11 ⟨rfl, h⟩
    have S11 := Lib.hid (S10.out.step h)
    have T11 := Lib.hid (T10.out.below h T10.out.lt)
    go_wp2_with fail
    refine hK.out _ _ (⟨⟨S11.out.e.h3, dn_c5 T11.out⟩, S11.out.g.a.c⟩) ?_
    clear hK K hHeld
    intro hHeld
    clear h S10 T10
    refine wpAnyH_takeD 29 83 (v := ?_) (by kernel_rfl) (by kernel_rfl) (by kernel_rfl) (by kernel_rfl) (by rfl) (fun _ _ _ h => h) ?_ hHeld ?_
    rotate_left 1
    (intro o ho W hSw; simp only [List.getElem?_toArray, List.getElem?_cons_succ, List.getElem?_cons_zero, Option.some.injEq] at ho; subst ho; (try dsimp only at hSw); go_simp; try with_reducible rfl)
    (try simp only [Act.put, List.setIfInBounds_toArray, List.set_cons_zero, List.set_cons_succ])
    refine wpAnyH_takeD 30 84 (v := ?_) (by kernel_rfl) (by kernel_rfl) (by kernel_rfl) (by kernel_rfl) (by rfl) (fun _ _ _ h => h) ?_ hHeld ?_
    rotate_left 1
    (intro o ho W hSw; simp only [List.getElem?_toArray, List.getElem?_cons_succ, List.getElem?_cons_zero, Option.some.injEq] at ho; subst ho; (try dsimp only at hSw); go_simp; try with_reducible rfl)
    (try simp only [Act.put, List.setIfInBounds_toArray, List.set_cons_zero, List.set_cons_succ])
    refine wpAnyH_takeD 31 85 (v := ?_) (by kernel_rfl) (by kernel_rfl) (by kernel_rfl) (by kernel_rfl) (by rfl) (fun _ _ _ h => h) ?_ hHeld ?_
    rotate_left 1
    (intro o ho W hSw; simp only [List.getElem?_toArray, List.getElem?_cons_succ, List.getElem?_cons_zero, Option.some.injEq] at ho; subst ho; (try dsimp only at hSw); go_simp; try with_reducible rfl)
    (try simp only [Act.put, List.setIfInBounds_toArray, List.set_cons_zero, List.set_cons_succ])
    refine wpAnyH_takeD 32 86 (v := ?_) (by kernel_rfl) (by kernel_rfl) (by kernel_rfl) (by kernel_rfl) (by rfl) (fun _ _ _ h => h) ?_ hHeld ?_
    rotate_left 1
    (intro o ho W hSw; simp only [List.getElem?_toArray, List.getElem?_cons_succ, List.getElem?_cons_zero, Option.some.injEq] at ho; subst ho; (try dsimp only at hSw); go_simp; try with_reducible rfl)
    (try simp only [Act.put, List.setIfInBounds_toArray, List.set_cons_zero, List.set_cons_succ])
    refine wpAnyH_takeD 33 87 (v := ?_) (by kernel_rfl) (by kernel_rfl) (by kernel_rfl) (by kernel_rfl) (by rfl) (fun _ _ _ h => h) ?_ hHeld ?_
    rotate_left 1
    (intro o ho W hSw; simp only [List.getElem?_toArray, List.getElem?_cons_succ, List.getElem?_cons_zero, Option.some.injEq] at ho; subst ho; (try dsimp only at hSw); go_simp; try with_reducible rfl)
    (try simp only [Act.put, List.setIfInBounds_toArray, List.set_cons_zero, List.set_cons_succ])
    refine wpAnyH_takeD 34 88 (v := ?_) (by kernel_rfl) (by kernel_rfl) (by kernel_rfl) (by kernel_rfl) (by rfl) (fun _ _ _ h => h) ?_ hHeld ?_
    rotate_left 1
    (intro o ho W hSw; simp only [List.getElem?_toArray, List.getElem?_cons_succ, List.getElem?_cons_zero, Option.some.injEq] at ho; subst ho; (try dsimp only at hSw); go_simp; try with_reducible rfl)
    (try simp only [Act.put, List.setIfInBounds_toArray, List.set_cons_zero, List.set_cons_succ])
    refine wpAnyH_takeD 35 89 (v := ?_) (by kernel_rfl) (by kernel_rfl) (by kernel_rfl) (by kernel_rfl) (by rfl) (fun _ _ _ h => h) ?_ hHeld ?_
    rotate_left 1
    (intro o ho W hSw; simp only [List.getElem?_toArray, List.getElem?_cons_succ, List.getElem?_cons_zero, Option.some.injEq] at ho; subst ho; (try dsimp only at hSw); go_simp; try with_reducible rfl)
    (try simp only [Act.put, List.setIfInBounds_toArray, List.set_cons_zero, List.set_cons_succ])
    refine wpAnyH_takeD 36 90 (v := ?_) (by kernel_rfl) (by kernel_rfl) (by kernel_rfl) (by kernel_rfl) (by rfl) (fun _ _ _ h => h) ?_ hHeld ?_
    rotate_left 1
    (intro o ho W hSw; simp only [List.getElem?_toArray, List.getElem?_cons_succ, List.getElem?_cons_zero, Option.some.injEq] at ho; subst ho; (try dsimp only at hSw); go_simp; try with_reducible rfl)
    (try simp only [Act.put, List.setIfInBounds_toArray, List.set_cons_zero, List.set_cons_succ])
    refine wpAnyH_takeD 37 91 (v := ?_) (by kernel_rfl) (by kernel_rfl) (by kernel_rfl) (by kernel_rfl) (by rfl) (fun _ _ _ h => h) ?_ hHeld ?_
    rotate_left 1
    (intro o ho W hSw; simp only [List.getElem?_toArray, List.getElem?_cons_succ, List.getElem?_cons_zero, Option.some.injEq] at ho; subst ho; (try dsimp only at hSw); go_simp; try with_reducible rfl)
    (try simp only [Act.put, List.setIfInBounds_toArray, List.set_cons_zero, List.set_cons_succ])
    refine wpAnyH_takeD 38 92 (v := ?_) (by kernel_rfl) (by kernel_rfl) (by kernel_rfl) (by kernel_rfl) (by rfl) (fun _ _ _ h => h) ?_ hHeld ?_
    rotate_left 1
    (intro o ho W hSw; simp only [List.getElem?_toArray, List.getElem?_cons_succ, List.getElem?_cons_zero, Option.some.injEq] at ho; subst ho; (try dsimp only at hSw); go_simp; try with_reducible rfl)
    (try simp only [Act.put, List.setIfInBounds_toArray, List.set_cons_zero, List.set_cons_succ])
    refine wpAnyH_onlyD 39 (by kernel_rfl) (fun o ho K hK => ?_) (by kernel_rfl)
    simp only [List.getElem?_toArray, List.getElem?_cons_succ, List.getElem?_cons_zero, Option.some.injEq] at ho
    subst ho
    go_simp
    refine (XW.out _).mono ?_
    rintro e w12 ⟨rfl, h⟩
    have S12 := Lib.hid (S11.out.step h)
    have T12 := Lib.hid (T11.out.below h T11.out.lt)
    go_wp2_with fail
    refine hK.out _ _ (⟨⟨S12.out.e.h3, dn_c5 T12.out⟩, S12.out.g.a.c⟩) ?_
    clear hK K hHeld
    intro hHeld
    clear h S11 T11
    refine wpAnyH_takeD 40 94 (v := ?_) (by kernel_rfl) (by kernel_rfl) (by kernel_rfl) (by kernel_rfl) (by rfl) (fun _ _ _ h => h) ?_ hHeld ?_
    rotate_left 1
    (intro o ho W hSw; simp only [List.getElem?_toArray, List.getElem?_cons_succ, List.getElem?_cons_zero, Option.some.injEq] at ho; subst ho; (try dsimp only at hSw); go_simp; try with_reducible rfl)
    (try simp only [Act.put, List.setIfInBounds_toArray, List.set_cons_zero, List.set_cons_succ])
    refine wpAnyH_takeD 41 4 (v := ?_) (by kernel_rfl) (by kernel_rfl) (by kernel_rfl) (by kernel_rfl) (by rfl) (fun _ _ _ h => h) ?_ hHeld ?_
    rotate_left 1
    (intro o ho W hSw; simp only [List.getElem?_toArray, List.getElem?_cons_succ, List.getElem?_cons_zero, Option.some.injEq] at ho; subst ho; (try dsimp only at hSw); go_simp; try with_reducible rfl)
    (try simp only [Act.put, List.setIfInBounds_toArray, List.set_cons_zero, List.set_cons_succ])
    refine wpAnyH_done (by kernel_rfl) ?_ _
    clear hHeld
    go_wp2
    go_ret
    exact ⟨rfl, S12.out.g.bl⟩
theorem rdown_walk (F : FieldT) (C : FieldR F) (R : RayC F) (t : Trk) (px py pz : Int) (B : Nat) (w : World) (hB : B ≤ w.heap.size) (K : TrkM B w t) :
    Calls Try.prog 4 #[trkV t, .agg #[.int .i64 px, .int .i64 py, .int .i64 pz]] w fun e w' => e = .returned (.bool true) ∧ Below w.heap.size w w' := by
  by_cases few : rfewT t
  · by_cases may : (dnR px py pz).may
    · exact rdown_yes F C R t px py pz B w hB K few may
    · exact rdown_no F C R t px py pz B w hB K few may
  · exact rdown_few F C R t px py pz B w hB K few
end Go.Proofs.Ytinahmhiopgcnaa

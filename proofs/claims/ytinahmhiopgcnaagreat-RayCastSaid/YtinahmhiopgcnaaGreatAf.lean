/- The walks of RayPoint and RayCast. -/
import Derived.Test.YtinahmhiopgcnaaGreatBb
import Derived.Test.YtinahmhiopgcnaaGreatAe
import Derived.Test.YtinahmhiopgcnaaGreatEm
namespace Go.Proofs.YtinahmhiopgcnaaGreat
open Go.RowKit
set_option linter.unusedVariables false
set_option linter.unusedSimpArgs false

theorem mat_bw {W : World} {n : Nat} {o : Bool} (b : BW W n [.bool o]) : MAt W n 0 o := ⟨b.c 0 _ rfl, b.f 0, b.lt⟩
/-- a ray's place and way in blocks of their own, both flags -/
structure PSt (w W : World) (m d : Nat) (o q : Bool) (a : Ry) : Prop where
  vo : VW W w.heap.size a.ox a.oy a.oz
  vd : VW W (w.heap.size + 1) a.dx a.dy a.dz
  A : MAt W m 0 o
  D : MAt W d 0 q
  bl : Below w.heap.size w W
  nm : w.heap.size + 1 < m
  nd : w.heap.size + 1 < d
  md : m ≠ d
theorem PSt.step {w W W' : World} {m d : Nat} {o q : Bool} {a : Ry} (s : PSt w W m d o q a) (h : Below W.heap.size W W') : PSt w W' m d o q a :=
  ⟨s.vo.below h s.vo.lt, s.vd.below h s.vd.lt, s.A.below h s.A.lt, s.D.below h s.D.lt, s.bl.trans (h.mono s.bl.size), s.nm, s.nd, s.md⟩
theorem PSt.fx {w W W' : World} {m d : Nat} {o q r : Bool} {a : Ry} (s : PSt w W m d o q a) (h : FxW W.heap.size W m 0 r W') : PSt w W' m d r q a :=
  ⟨s.vo.fx h (by have := s.nm; omega), s.vd.fx h (by have := s.nm; omega), h.at s.A s.A.lt, s.D.far' h s.md, s.bl.trans (h.below s.bl.size (by have := s.nm; omega)), s.nm, s.nd, s.md⟩
theorem PSt.dx {w W W' : World} {m d : Nat} {o q r : Bool} {a : Ry} (s : PSt w W m d o q a) (h : FxW W.heap.size W d 0 r W') : PSt w W' m d o r a :=
  ⟨s.vo.fx h (by have := s.nd; omega), s.vd.fx h (by have := s.nd; omega), s.A.far' h (fun e => s.md e.symm), h.at s.D s.D.lt, s.bl.trans (h.below s.bl.size (by have := s.nd; omega)), s.nm, s.nd, s.md⟩
theorem PSt.cs {w W : World} {m d : Nat} {o q : Bool} {a : Ry} (s : PSt w W m d o q a) : (W.cell? ⟨w.heap.size, 0, none⟩ = some (.int .i64 (a.ox)) ∧ W.cell? ⟨w.heap.size, 1, none⟩ = some (.int .i64 (a.oy)) ∧ W.cell? ⟨w.heap.size, 2, none⟩ = some (.int .i64 (a.oz))) ∧ (W.cell? ⟨w.heap.size + 1, 0, none⟩ = some (.int .i64 (a.dx)) ∧ W.cell? ⟨w.heap.size + 1, 1, none⟩ = some (.int .i64 (a.dy)) ∧ W.cell? ⟨w.heap.size + 1, 2, none⟩ = some (.int .i64 (a.dz))) := ⟨s.vo.held, s.vd.held⟩
theorem PSt.cf {w W : World} {m d : Nat} {o q : Bool} {a : Ry} (s : PSt w W m d o q a) : ((W.cell? ⟨w.heap.size, 0, none⟩ = some (.int .i64 (a.ox)) ∧ W.cell? ⟨w.heap.size, 1, none⟩ = some (.int .i64 (a.oy)) ∧ W.cell? ⟨w.heap.size, 2, none⟩ = some (.int .i64 (a.oz))) ∧ (W.cell? ⟨w.heap.size + 1, 0, none⟩ = some (.int .i64 (a.dx)) ∧ W.cell? ⟨w.heap.size + 1, 1, none⟩ = some (.int .i64 (a.dy)) ∧ W.cell? ⟨w.heap.size + 1, 2, none⟩ = some (.int .i64 (a.dz)))) ∧ W.cell? ⟨m, 0, none⟩ = some (.bool o) ∧ W.cell? ⟨d, 0, none⟩ = some (.bool q) := ⟨s.cs, s.A.c, s.D.c⟩
/-- a track and what else came in, in blocks of their own, the field, both flags -/
structure RSt (F : FieldT) (w W : World) (B top f m d : Nat) (o q : Bool) (t : Trk) (l : List Value) : Prop where
  g : GD F w W 0 top f m d o q t
  c : BW W w.heap.size (trkL t)
  e : BW W (w.heap.size + 1) l
  k : TrkM B W t
  hB : B ≤ w.heap.size
  mm : w.heap.size + 1 < m
  dd : w.heap.size + 1 < d
section
variable {F : FieldT} {w W W' : World} {B top f m d : Nat} {o q r : Bool} {t : Trk} {l : List Value}
theorem RSt.step (s : RSt F w W B top f m d o q t l) (h : Below W.heap.size W W') : RSt F w W' B top f m d o q t l :=
  ⟨s.g.step h, s.c.below h s.c.lt, s.e.below h s.e.lt, s.k.keep h (by have := s.hB; have := s.c.lt; omega), s.hB, s.mm, s.dd⟩
theorem RSt.fx (s : RSt F w W B top f m d o q t l) (h : FxW W.heap.size W m 0 r W') : RSt F w W' B top f m d r q t l :=
  ⟨s.g.fx h, s.c.fx h (by have := s.mm; omega), s.e.fx h (by have := s.mm; omega), s.k.fx h (by have := s.hB; have := s.mm; omega) (by have := s.hB; have := s.c.lt; omega), s.hB, s.mm, s.dd⟩
theorem RSt.dx (s : RSt F w W B top f m d o q t l) (h : FxW W.heap.size W d 0 r W') : RSt F w W' B top f m d o r t l :=
  ⟨s.g.dx h, s.c.fx h (by have := s.dd; omega), s.e.fx h (by have := s.dd; omega), s.k.fx h (by have := s.hB; have := s.dd; omega) (by have := s.hB; have := s.c.lt; omega), s.hB, s.mm, s.dd⟩
theorem rs_new (p : F.P 0 W.heap.size W f t) (c : BW W w.heap.size (trkL t)) (e : BW W (w.heap.size + 1) l) (k : TrkM B W t) (bl : Below w.heap.size w W) (hB : B ≤ w.heap.size) (o1 o2 : Obj) (b1 : BW (W.alloc o1) W.heap.size [.bool false]) (b2 : BW ((W.alloc o1).alloc o2) (W.heap.size + 1) [.bool false]) : RSt F w ((W.alloc o1).alloc o2) B W.heap.size f W.heap.size (W.heap.size + 1) false false t l := by
  have B1 : Below W.heap.size W ((W.alloc o1).alloc o2) := ((Below.refl W.heap.size W).alloc (Nat.le_refl _) o1).alloc (by simp) o2
  have b1' := b1.alloc o2
  have hl := e.lt
  exact ⟨⟨⟨F.step p B1, ⟨b1'.c 0 _ rfl, b1'.f 0, b1'.lt⟩, bl.trans (B1.mono bl.size), Or.inr (Nat.le_refl _), bl.size⟩, ⟨b2.c 0 _ rfl, b2.f 0, b2.lt⟩, Or.inr (by omega), by have := bl.size; omega, by omega⟩, (c.alloc o1).alloc o2, (e.alloc o1).alloc o2, k.keep B1 (by have := bl.size; omega), hB, hl, by omega⟩
end
/-- a ray that came in -/
def askL (a : Ry) : List Value := [.int .i64 a.ox, .int .i64 a.oy, .int .i64 a.oz, .int .i64 a.dx, .int .i64 a.dy, .int .i64 a.dz, .int .i64 a.long]
/-- a track's copy, and what else came in, before there is a field -/
structure RP (w W : World) (B : Nat) (t : Trk) (l : List Value) : Prop where
  q : PT w W B w.heap.size t
  e : BW W (w.heap.size + 1) l
theorem RP.step {w W W' : World} {B : Nat} {t : Trk} {l : List Value} (s : RP w W B t l) (h : Below W.heap.size W W') : RP w W' B t l := ⟨s.q.step h, s.e.below h s.e.lt⟩
/-- the cells of a track's copy and of a ray that came in -/
def RKc (n : Nat) (t : Trk) (a : Ry) (W : World) : Prop :=
  (W.cell? ⟨n, 0, none⟩ = some (.int .i64 t.rate) ∧ W.cell? ⟨n, 1, none⟩ = some (.int .i64 t.cell) ∧ W.cell? ⟨n, 2, none⟩ = some (.int .i64 t.cols) ∧ W.cell? ⟨n, 3, none⟩ = some (.int .i64 t.rows) ∧ W.cell? ⟨n, 4, none⟩ = some (.int .i64 t.cx) ∧ W.cell? ⟨n, 5, none⟩ = some (.int .i64 t.cy) ∧ W.cell? ⟨n, 6, none⟩ = some (.slice t.H.a t.H.n t.H.c) ∧ W.cell? ⟨n, 7, none⟩ = some (.slice t.G.a t.G.n t.G.c) ∧ W.cell? ⟨n, 8, none⟩ = some (.slice t.ka t.kn t.kc) ∧ W.cell? ⟨n, 9, none⟩ = some (.slice t.la t.ln t.lc) ∧ W.cell? ⟨n, 10, none⟩ = some (.slice t.ra t.rn t.rc) ∧ W.cell? ⟨n, 11, none⟩ = some (.slice t.ga t.gn t.gc) ∧ W.cell? ⟨n, 12, none⟩ = some (.int .i64 t.sx) ∧ W.cell? ⟨n, 13, none⟩ = some (.int .i64 t.sy) ∧ W.cell? ⟨n, 14, none⟩ = some (.int .u32 t.head) ∧ W.cell? ⟨n, 15, none⟩ = some (.int .i64 t.laps)) ∧
  (W.cell? ⟨n + 1, 0, none⟩ = some (.int .i64 a.ox) ∧ W.cell? ⟨n + 1, 1, none⟩ = some (.int .i64 a.oy) ∧ W.cell? ⟨n + 1, 2, none⟩ = some (.int .i64 a.oz) ∧ W.cell? ⟨n + 1, 3, none⟩ = some (.int .i64 a.dx) ∧ W.cell? ⟨n + 1, 4, none⟩ = some (.int .i64 a.dy) ∧ W.cell? ⟨n + 1, 5, none⟩ = some (.int .i64 a.dz) ∧ W.cell? ⟨n + 1, 6, none⟩ = some (.int .i64 a.long))
theorem rk_of {W : World} {n : Nat} {t : Trk} {a : Ry} (c : BW W n (trkL t)) (e : BW W (n + 1) (askL a)) : RKc n t a W :=
  ⟨⟨c.c 0 _ rfl, c.c 1 _ rfl, c.c 2 _ rfl, c.c 3 _ rfl, c.c 4 _ rfl, c.c 5 _ rfl, c.c 6 _ rfl, c.c 7 _ rfl, c.c 8 _ rfl, c.c 9 _ rfl, c.c 10 _ rfl, c.c 11 _ rfl, c.c 12 _ rfl, c.c 13 _ rfl, c.c 14 _ rfl, c.c 15 _ rfl⟩, e.c 0 _ rfl, e.c 1 _ rfl, e.c 2 _ rfl, e.c 3 _ rfl, e.c 4 _ rfl, e.c 5 _ rfl, e.c 6 _ rfl⟩
/-- a touch in a block of its own -/
noncomputable def tcC (n : Nat) (t : Trk) (a : Ry) (i : Int) (W : World) : Prop := W.cell? ⟨n, 0, none⟩ = some (.int .i64 (tcS t a i)) ∧ W.cell? ⟨n, 1, none⟩ = some (.int .i64 (tcX t i)) ∧ W.cell? ⟨n, 2, none⟩ = some (.int .i64 (tcY t i)) ∧ W.cell? ⟨n, 3, none⟩ = some (.int .i64 (tcZ t i)) ∧ W.cell? ⟨n, 4, none⟩ = some (.int .i64 (tcK t i))
theorem tc_cells {W : World} {n : Nat} {t : Trk} {a : Ry} {i : Int} (k : BW W n (tcL t a i)) : tcC n t a i W := ⟨k.c 0 _ rfl, k.c 1 _ rfl, k.c 2 _ rfl, k.c 3 _ rfl, k.c 4 _ rfl⟩
set_option maxRecDepth 100000 in
set_option maxHeartbeats 4000000 in
theorem rcast_no (F : FieldT) (C : FieldY F) (R : RayC F) (t : Trk) (a : Ry) (B : Nat) (w : World) (hB : B ≤ w.heap.size) (K : TrkM B w t) (few : ¬ rfewT t) :
    Calls Tryz.prog 3 #[trkV t, .agg #[.int .i64 a.ox, .int .i64 a.oy, .int .i64 a.oz, .int .i64 a.dx, .int .i64 a.dy, .int .i64 a.dz, .int .i64 a.long]] w fun e w' => e = .returned (.bool true) ∧ Below w.heap.size w w' := by
  have Q0 := Lib.hid (show RP w ((w.alloc (.cells #[.int .i64 t.rate, .int .i64 t.cell, .int .i64 t.cols, .int .i64 t.rows, .int .i64 t.cx, .int .i64 t.cy, .slice t.H.a t.H.n t.H.c, .slice t.G.a t.G.n t.G.c, .slice t.ka t.kn t.kc, .slice t.la t.ln t.lc, .slice t.ra t.rn t.rc, .slice t.ga t.gn t.gc, .int .i64 t.sx, .int .i64 t.sy, .int .u32 t.head, .int .i64 t.laps] 34)).alloc (.cells #[.int .i64 a.ox, .int .i64 a.oy, .int .i64 a.oz, .int .i64 a.dx, .int .i64 a.dy, .int .i64 a.dz, .int .i64 a.long] 38)) B t (askL a) from ⟨(PT.new 34 K hB).step ((Below.refl _ _).alloc (Nat.le_refl _) _), BW.new _ _ (askL a) _ (by simp)⟩)
  have XF := Lib.hid (fun (W : World) (Q : PT w W B w.heap.size t) => rfew_any t B W Q.bz Q.t)
  rw [decide_eq_false few] at XF
  have XW := Lib.hid (fun (W : World) => rawake_any F C R W)
  clear K few C R
  go_enter Tryz.func3, Tryz.ntmps3
  go_wp2_with fail
  refine calls_gen (S := fun W => RP w W B t (askL a)) Q0.out (fun W1 hS => ?_)
  have Q1 := Lib.hid hS
  clear hS Q0
  refine (XF.out _ Q1.out.q).mono ?_
  rintro e w2 ⟨rfl, h⟩
  have Q2 := Lib.hid (Q1.out.step h)
  clear h Q1 XF
  go_wp2_with fail
  refine (XW.out _).mono ?_
  rintro e w3 ⟨rfl, h⟩
  have Q3 := Lib.hid (Q2.out.step h)
  clear h Q2 XW
  go_wp2
  go_ret
  exact ⟨rfl, Q3.out.q.l⟩
set_option maxRecDepth 100000 in
set_option maxHeartbeats 4000000 in
theorem rcast_yes (F : FieldT) (C : FieldY F) (R : RayC F) (t : Trk) (a : Ry) (B : Nat) (w : World) (hB : B ≤ w.heap.size) (K : TrkM B w t) (ha : a.ins) (few : rfewT t) :
    Calls Tryz.prog 3 #[trkV t, .agg #[.int .i64 a.ox, .int .i64 a.oy, .int .i64 a.oz, .int .i64 a.dx, .int .i64 a.dy, .int .i64 a.dz, .int .i64 a.long]] w fun e w' => e = .returned (.bool true) ∧ Below w.heap.size w w' := by
  have Q0 := Lib.hid (show RP w ((w.alloc (.cells #[.int .i64 t.rate, .int .i64 t.cell, .int .i64 t.cols, .int .i64 t.rows, .int .i64 t.cx, .int .i64 t.cy, .slice t.H.a t.H.n t.H.c, .slice t.G.a t.G.n t.G.c, .slice t.ka t.kn t.kc, .slice t.la t.ln t.lc, .slice t.ra t.rn t.rc, .slice t.ga t.gn t.gc, .int .i64 t.sx, .int .i64 t.sy, .int .u32 t.head, .int .i64 t.laps] 34)).alloc (.cells #[.int .i64 a.ox, .int .i64 a.oy, .int .i64 a.oz, .int .i64 a.dx, .int .i64 a.dy, .int .i64 a.dz, .int .i64 a.long] 38)) B t (askL a) from ⟨(PT.new 34 K hB).step ((Below.refl _ _).alloc (Nat.le_refl _) _), BW.new _ _ (askL a) _ (by simp)⟩)
  have XF := Lib.hid (fun (W : World) (Q : PT w W B w.heap.size t) => rfew_any t B W Q.bz Q.t)
  rw [decide_eq_true few] at XF
  have XW := Lib.hid (fun (W : World) => rawake_any F C R W)
  obtain ⟨-, -, hr⟩ := few
  have ri : cntP t ∧ frP t := by
    unfold rightFd at hr
    split at hr
    · rename_i c
      split at hr
      · rename_i p; exact ⟨c, p.1⟩
      · omega
    · omega
  have XN := Lib.hid (fun (W : World) (Q : PT w W B w.heap.size t) => C.yes t 0 B W Q.bz Q.t (Nat.zero_le _) (TrkLo.zero t) hr)
  have XC := Lib.hid (fun (top f m d : Nat) (o q : Bool) (W : World) (S : RSt F w W B top f m d o q t (askL a)) => R.cast t a m 0 o 0 top f W hr ha S.g.g.p S.g.g.e S.g.g.a)
  have XD := Lib.hid (fun (top f m d : Nat) (o q : Bool) (W : World) (S : RSt F w W B top f m d o q t (askL a)) => rRCast_any t a d 0 q B W (by have := S.hB; have := S.dd; omega) ri.1 ri.2 ha S.k S.g.a)
  have HB := Lib.hid hB
  clear K C R hr ri hB
  go_enter Tryz.func3, Tryz.ntmps3
  go_wp2_with fail
  refine calls_gen (S := fun W => RP w W B t (askL a)) Q0.out (fun W1 hS => ?_)
  have Q1 := Lib.hid hS
  clear hS Q0
  refine (XF.out _ Q1.out.q).mono ?_
  rintro e w2 ⟨rfl, h⟩
  have Q2 := Lib.hid (Q1.out.step h)
  clear h Q1 XF
  obtain ⟨q00, q01, q02, q03, q04, q05, q06, q07, q08, q09, q10, q11, q12, q13, q14, q15⟩ := Q2.out.q.all
  go_wp2_with fail
  refine (XN.out _ Q2.out.q).mono ?_
  rintro e w3 ⟨⟨f, rfl, hp⟩, h⟩
  have Q3 := Lib.hid (Q2.out.step h)
  have S3 := Lib.hid (rs_new hp Q3.out.q.c Q3.out.e Q3.out.q.t Q3.out.q.l HB.out (.cells #[.bool false] 47) (.cells #[.bool false] 49) (BW.new w3 w3.heap.size [.bool false] _ rfl) (BW.new _ _ [.bool false] _ (by simp)))
  clear q00 q01 q02 q03 q04 q05 q06 q07 q08 q09 q10 q11 q12 q13 q14 q15
  have f0 := Q3.out.e.c 0 _ rfl
  have f1 := Q3.out.e.c 1 _ rfl
  have f2 := Q3.out.e.c 2 _ rfl
  have f3 := Q3.out.e.c 3 _ rfl
  have f4 := Q3.out.e.c 4 _ rfl
  have f5 := Q3.out.e.c 5 _ rfl
  have f6 := Q3.out.e.c 6 _ rfl
  have fl := Q3.out.e.lt
  have fl1 : w.heap.size + 1 < w3.heap.size + 1 := by omega
  have fl0 : w.heap.size < w3.heap.size := by omega
  clear h hp XN Q2
  go_wp2_with fail
  obtain ⟨m, hm⟩ : ∃ m, w3.heap.size = m := ⟨_, rfl⟩
  rw [hm] at S3 ⊢
  refine calls_gen (S := fun W => RSt F w W B m f m (m + 1) false false t (askL a)) S3.out (fun W4 hS => ?_)
  clear S3 f0 f1 f2 f3 f4 f5 f6 fl fl0 fl1 Q3 hm
  have S4 := Lib.hid hS
  clear hS
  obtain ⟨d, hd⟩ : ∃ d, m + 1 = d := ⟨_, rfl⟩
  rw [hd] at S4 ⊢
  clear hd
  refine (XC.out _ _ _ _ _ _ _ S4.out).mono ?_
  rintro e w5 ⟨rfl, h⟩
  have S5 := Lib.hid (S4.out.fx h)
  clear h S4 XC
  obtain ⟨ci, hci⟩ : ∃ ci, casI t a = ci := ⟨_, rfl⟩
  rw [hci] at XD ⊢
  clear hci
  have k5 := rk_of S5.out.c S5.out.e
  unfold RKc at k5
  obtain ⟨⟨q00, q01, q02, q03, q04, q05, q06, q07, q08, q09, q10, q11, q12, q13, q14, q15⟩, f0, f1, f2, f3, f4, f5, f6⟩ := k5
  have l0 := S5.out.c.lt
  have l1 := S5.out.e.lt
  have ld := S5.out.g.a.lt
  go_wp2_with fail
  refine calls_gen (S := fun W => RSt F w W B m f m d false false t (askL a) ∧ BW W w5.heap.size (tcL t a ci)) ⟨S5.out.step ((Below.refl _ _).alloc (Nat.le_refl _) _), BW.new w5 _ (tcL t a ci) _ rfl⟩ (fun W6 hS => ?_)
  have S6 := Lib.hid hS.1
  have T6 := Lib.hid hS.2
  clear hS S5 l0 l1 f0 f1 f2 f3 f4 f5 f6
  clear q00 q01 q02 q03 q04 q05 q06 q07 q08 q09 q10 q11 q12 q13 q14 q15
  obtain ⟨n1, hn1⟩ : ∃ n, w5.heap.size = n := ⟨_, rfl⟩
  rw [hn1] at T6 ld ⊢
  clear hn1
  refine (XD.out _ _ _ _ _ _ _ S6.out).mono ?_
  rintro e w7 ⟨rfl, h⟩
  have S7 := Lib.hid (S6.out.dx h)
  have T7 := Lib.hid (T6.out.fx h (by omega))
  clear h S6 T6 XD ld
  have lt1 := T7.out.lt
  go_wp2_with fail
  refine wp_gen (S := fun W => RSt F w W B m f m d false false t (askL a) ∧ BW W n1 (tcL t a ci) ∧ BW W w7.heap.size (tcL t a ci)) ⟨S7.out.step ((Below.refl _ _).alloc (Nat.le_refl _) _), T7.out.alloc _, BW.new w7 _ (tcL t a ci) _ rfl⟩ (fun W8 hS => ?_)
  have S8 := Lib.hid (hS.1.step (Below.refl _ _).drew)
  have T8 := Lib.hid hS.2.1.drew
  have U8 := Lib.hid hS.2.2.drew
  clear hS S7 T7 lt1
  generalize w7.heap.size = n2 at *
  refine wp_region_held_drew (S := fun W => (tcC n1 t a ci W ∧ tcC n2 t a ci W) ∧ W.cell? ⟨m, 0, none⟩ = some (.bool false) ∧ W.cell? ⟨d, 0, none⟩ = some (.bool false)) (by kernel_rfl) ⟨⟨tc_cells T8.out, tc_cells U8.out⟩, S8.out.g.g.a.c, S8.out.g.a.c⟩ (fun hHeld => ?_)
  generalize World.drew _ = w8 at *
  unfold tcC at *
  refine wpAnyH_takeD 0 50 (v := ?_) (by kernel_rfl) (by kernel_rfl) (by kernel_rfl) (by kernel_rfl) (by rfl) (fun _ _ _ h => h) ?_ hHeld ?_
  rotate_left 1
  (intro o ho W hSw; simp only [List.getElem?_toArray, List.getElem?_cons_succ, List.getElem?_cons_zero, Option.some.injEq] at ho; subst ho; (try dsimp only at hSw); go_simp; try with_reducible rfl)
  (try simp only [Act.put, List.setIfInBounds_toArray, List.set_cons_zero, List.set_cons_succ])
  refine wpAnyH_takeD 1 51 (v := ?_) (by kernel_rfl) (by kernel_rfl) (by kernel_rfl) (by kernel_rfl) (by rfl) (fun _ _ _ h => h) ?_ hHeld ?_
  rotate_left 1
  (intro o ho W hSw; simp only [List.getElem?_toArray, List.getElem?_cons_succ, List.getElem?_cons_zero, Option.some.injEq] at ho; subst ho; (try dsimp only at hSw); go_simp; try with_reducible rfl)
  (try simp only [Act.put, List.setIfInBounds_toArray, List.set_cons_zero, List.set_cons_succ])
  refine wpAnyH_takeD 2 52 (v := ?_) (by kernel_rfl) (by kernel_rfl) (by kernel_rfl) (by kernel_rfl) (by rfl) (fun _ _ _ h => h) ?_ hHeld ?_
  rotate_left 1
  (intro o ho W hSw; simp only [List.getElem?_toArray, List.getElem?_cons_succ, List.getElem?_cons_zero, Option.some.injEq] at ho; subst ho; (try dsimp only at hSw); go_simp; try with_reducible rfl)
  (try simp only [Act.put, List.setIfInBounds_toArray, List.set_cons_zero, List.set_cons_succ])
  refine wpAnyH_takeD 3 53 (v := ?_) (by kernel_rfl) (by kernel_rfl) (by kernel_rfl) (by kernel_rfl) (by rfl) (fun _ _ _ h => h) ?_ hHeld ?_
  rotate_left 1
  (intro o ho W hSw; simp only [List.getElem?_toArray, List.getElem?_cons_succ, List.getElem?_cons_zero, Option.some.injEq] at ho; subst ho; (try dsimp only at hSw); go_simp; try with_reducible rfl)
  (try simp only [Act.put, List.setIfInBounds_toArray, List.set_cons_zero, List.set_cons_succ])
  refine wpAnyH_takeD 4 54 (v := ?_) (by kernel_rfl) (by kernel_rfl) (by kernel_rfl) (by kernel_rfl) (by rfl) (fun _ _ _ h => h) ?_ hHeld ?_
  rotate_left 1
  (intro o ho W hSw; simp only [List.getElem?_toArray, List.getElem?_cons_succ, List.getElem?_cons_zero, Option.some.injEq] at ho; subst ho; (try dsimp only at hSw); go_simp; try with_reducible rfl)
  (try simp only [Act.put, List.setIfInBounds_toArray, List.set_cons_zero, List.set_cons_succ])
  refine wpAnyH_takeD 5 55 (v := ?_) (by kernel_rfl) (by kernel_rfl) (by kernel_rfl) (by kernel_rfl) (by rfl) (fun _ _ _ h => h) ?_ hHeld ?_
  rotate_left 1
  (intro o ho W hSw; simp only [List.getElem?_toArray, List.getElem?_cons_succ, List.getElem?_cons_zero, Option.some.injEq] at ho; subst ho; (try dsimp only at hSw); go_simp; try with_reducible rfl)
  (try simp only [Act.put, List.setIfInBounds_toArray, List.set_cons_zero, List.set_cons_succ])
  refine wpAnyH_takeD 6 56 (v := ?_) (by kernel_rfl) (by kernel_rfl) (by kernel_rfl) (by kernel_rfl) (by rfl) (fun _ _ _ h => h) ?_ hHeld ?_
  rotate_left 1
  (intro o ho W hSw; simp only [List.getElem?_toArray, List.getElem?_cons_succ, List.getElem?_cons_zero, Option.some.injEq] at ho; subst ho; (try dsimp only at hSw); go_simp; try with_reducible rfl)
  (try simp only [Act.put, List.setIfInBounds_toArray, List.set_cons_zero, List.set_cons_succ])
  refine wpAnyH_takeD 7 57 (v := ?_) (by kernel_rfl) (by kernel_rfl) (by kernel_rfl) (by kernel_rfl) (by rfl) (fun _ _ _ h => h) ?_ hHeld ?_
  rotate_left 1
  (intro o ho W hSw; simp only [List.getElem?_toArray, List.getElem?_cons_succ, List.getElem?_cons_zero, Option.some.injEq] at ho; subst ho; (try dsimp only at hSw); go_simp; try with_reducible rfl)
  (try simp only [Act.put, List.setIfInBounds_toArray, List.set_cons_zero, List.set_cons_succ])
  refine wpAnyH_takeD 8 58 (v := ?_) (by kernel_rfl) (by kernel_rfl) (by kernel_rfl) (by kernel_rfl) (by rfl) (fun _ _ _ h => h) ?_ hHeld ?_
  rotate_left 1
  (intro o ho W hSw; simp only [List.getElem?_toArray, List.getElem?_cons_succ, List.getElem?_cons_zero, Option.some.injEq] at ho; subst ho; (try dsimp only at hSw); go_simp; try with_reducible rfl)
  (try simp only [Act.put, List.setIfInBounds_toArray, List.set_cons_zero, List.set_cons_succ])
  refine wpAnyH_takeD 9 59 (v := ?_) (by kernel_rfl) (by kernel_rfl) (by kernel_rfl) (by kernel_rfl) (by rfl) (fun _ _ _ h => h) ?_ hHeld ?_
  rotate_left 1
  (intro o ho W hSw; simp only [List.getElem?_toArray, List.getElem?_cons_succ, List.getElem?_cons_zero, Option.some.injEq] at ho; subst ho; (try dsimp only at hSw); go_simp; try with_reducible rfl)
  (try simp only [Act.put, List.setIfInBounds_toArray, List.set_cons_zero, List.set_cons_succ])
  refine wpAnyH_takeD 10 60 (v := ?_) (by kernel_rfl) (by kernel_rfl) (by kernel_rfl) (by kernel_rfl) (by rfl) (fun _ _ _ h => h) ?_ hHeld ?_
  rotate_left 1
  (intro o ho W hSw; simp only [List.getElem?_toArray, List.getElem?_cons_succ, List.getElem?_cons_zero, Option.some.injEq] at ho; subst ho; (try dsimp only at hSw); go_simp; try with_reducible rfl)
  (try simp only [Act.put, List.setIfInBounds_toArray, List.set_cons_zero, List.set_cons_succ])
  refine wpAnyH_takeD 11 61 (v := ?_) (by kernel_rfl) (by kernel_rfl) (by kernel_rfl) (by kernel_rfl) (by rfl) (fun _ _ _ h => h) ?_ hHeld ?_
  rotate_left 1
  (intro o ho W hSw; simp only [List.getElem?_toArray, List.getElem?_cons_succ, List.getElem?_cons_zero, Option.some.injEq] at ho; subst ho; (try dsimp only at hSw); go_simp; try with_reducible rfl)
  (try simp only [Act.put, List.setIfInBounds_toArray, List.set_cons_zero, List.set_cons_succ])
  refine wpAnyH_takeD 12 62 (v := ?_) (by kernel_rfl) (by kernel_rfl) (by kernel_rfl) (by kernel_rfl) (by rfl) (fun _ _ _ h => h) ?_ hHeld ?_
  rotate_left 1
  (intro o ho W hSw; simp only [List.getElem?_toArray, List.getElem?_cons_succ, List.getElem?_cons_zero, Option.some.injEq] at ho; subst ho; (try dsimp only at hSw); go_simp; try with_reducible rfl)
  (try simp only [Act.put, List.setIfInBounds_toArray, List.set_cons_zero, List.set_cons_succ])
  refine wpAnyH_takeD 13 63 (v := ?_) (by kernel_rfl) (by kernel_rfl) (by kernel_rfl) (by kernel_rfl) (by rfl) (fun _ _ _ h => h) ?_ hHeld ?_
  rotate_left 1
  (intro o ho W hSw; simp only [List.getElem?_toArray, List.getElem?_cons_succ, List.getElem?_cons_zero, Option.some.injEq] at ho; subst ho; (try dsimp only at hSw); go_simp; try with_reducible rfl)
  (try simp only [Act.put, List.setIfInBounds_toArray, List.set_cons_zero, List.set_cons_succ])
  refine wpAnyH_takeD 14 64 (v := ?_) (by kernel_rfl) (by kernel_rfl) (by kernel_rfl) (by kernel_rfl) (by rfl) (fun _ _ _ h => h) ?_ hHeld ?_
  rotate_left 1
  (intro o ho W hSw; simp only [List.getElem?_toArray, List.getElem?_cons_succ, List.getElem?_cons_zero, Option.some.injEq] at ho; subst ho; (try dsimp only at hSw); go_simp; try with_reducible rfl)
  (try simp only [Act.put, List.setIfInBounds_toArray, List.set_cons_zero, List.set_cons_succ])
  refine wpAnyH_takeD 15 65 (v := ?_) (by kernel_rfl) (by kernel_rfl) (by kernel_rfl) (by kernel_rfl) (by rfl) (fun _ _ _ h => h) ?_ hHeld ?_
  rotate_left 1
  (intro o ho W hSw; simp only [List.getElem?_toArray, List.getElem?_cons_succ, List.getElem?_cons_zero, Option.some.injEq] at ho; subst ho; (try dsimp only at hSw); go_simp; try with_reducible rfl)
  (try simp only [Act.put, List.setIfInBounds_toArray, List.set_cons_zero, List.set_cons_succ])
  refine wpAnyH_takeD 16 66 (v := ?_) (by kernel_rfl) (by kernel_rfl) (by kernel_rfl) (by kernel_rfl) (by rfl) (fun _ _ _ h => h) ?_ hHeld ?_
  rotate_left 1
  (intro o ho W hSw; simp only [List.getElem?_toArray, List.getElem?_cons_succ, List.getElem?_cons_zero, Option.some.injEq] at ho; subst ho; (try dsimp only at hSw); go_simp; try with_reducible rfl)
  (try simp only [Act.put, List.setIfInBounds_toArray, List.set_cons_zero, List.set_cons_succ])
  refine wpAnyH_takeD 17 67 (v := ?_) (by kernel_rfl) (by kernel_rfl) (by kernel_rfl) (by kernel_rfl) (by rfl) (fun _ _ _ h => h) ?_ hHeld ?_
  rotate_left 1
  (intro o ho W hSw; simp only [List.getElem?_toArray, List.getElem?_cons_succ, List.getElem?_cons_zero, Option.some.injEq] at ho; subst ho; (try dsimp only at hSw); go_simp; try with_reducible rfl)
  (try simp only [Act.put, List.setIfInBounds_toArray, List.set_cons_zero, List.set_cons_succ])
  refine wpAnyH_takeD 18 68 (v := ?_) (by kernel_rfl) (by kernel_rfl) (by kernel_rfl) (by kernel_rfl) (by rfl) (fun _ _ _ h => h) ?_ hHeld ?_
  rotate_left 1
  (intro o ho W hSw; simp only [List.getElem?_toArray, List.getElem?_cons_succ, List.getElem?_cons_zero, Option.some.injEq] at ho; subst ho; (try dsimp only at hSw); go_simp; try with_reducible rfl)
  (try simp only [Act.put, List.setIfInBounds_toArray, List.set_cons_zero, List.set_cons_succ])
  refine wpAnyH_takeD 19 69 (v := ?_) (by kernel_rfl) (by kernel_rfl) (by kernel_rfl) (by kernel_rfl) (by rfl) (fun _ _ _ h => h) ?_ hHeld ?_
  rotate_left 1
  (intro o ho W hSw; simp only [List.getElem?_toArray, List.getElem?_cons_succ, List.getElem?_cons_zero, Option.some.injEq] at ho; subst ho; (try dsimp only at hSw); go_simp; try with_reducible rfl)
  (try simp only [Act.put, List.setIfInBounds_toArray, List.set_cons_zero, List.set_cons_succ])
  refine wpAnyH_onlyD 20 (by kernel_rfl) (fun o ho K hK => ?_) (by kernel_rfl)
  simp only [List.getElem?_toArray, List.getElem?_cons_succ, List.getElem?_cons_zero, Option.some.injEq] at ho
  subst ho
  go_simp
  refine (XW.out _).mono ?_
  rintro e w9 ⟨rfl, h⟩
  have S9 := Lib.hid (S8.out.step h)
  have T9 := Lib.hid (T8.out.below h T8.out.lt)
  have U9 := Lib.hid (U8.out.below h U8.out.lt)
  go_wp2_with fail
  refine hK.out _ _ (⟨⟨tc_cells T9.out, tc_cells U9.out⟩, S9.out.g.g.a.c, S9.out.g.a.c⟩) ?_
  clear hK K hHeld
  intro hHeld
  clear h S8 T8 U8
  refine wpAnyH_takeD 21 71 (v := ?_) (by kernel_rfl) (by kernel_rfl) (by kernel_rfl) (by kernel_rfl) (by rfl) (fun _ _ _ h => h) ?_ hHeld ?_
  rotate_left 1
  (intro o ho W hSw; simp only [List.getElem?_toArray, List.getElem?_cons_succ, List.getElem?_cons_zero, Option.some.injEq] at ho; subst ho; (try dsimp only at hSw); go_simp; try with_reducible rfl)
  (try simp only [Act.put, List.setIfInBounds_toArray, List.set_cons_zero, List.set_cons_succ])
  refine wpAnyH_takeD 22 4 (v := ?_) (by kernel_rfl) (by kernel_rfl) (by kernel_rfl) (by kernel_rfl) (by rfl) (fun _ _ _ h => h) ?_ hHeld ?_
  rotate_left 1
  (intro o ho W hSw; simp only [List.getElem?_toArray, List.getElem?_cons_succ, List.getElem?_cons_zero, Option.some.injEq] at ho; subst ho; (try dsimp only at hSw); go_simp; try with_reducible rfl)
  (try simp only [Act.put, List.setIfInBounds_toArray, List.set_cons_zero, List.set_cons_succ])
  refine wpAnyH_done (by kernel_rfl) ?_ _
  clear hHeld
  go_wp2
  go_ret
  exact ⟨rfl, S9.out.g.g.bl⟩
theorem rcast_walk (F : FieldT) (C : FieldY F) (R : RayC F) (t : Trk) (a : Ry) (B : Nat) (w : World) (hB : B ≤ w.heap.size) (K : TrkM B w t) (ha : a.ins) :
    Calls Tryz.prog 3 #[trkV t, .agg #[.int .i64 a.ox, .int .i64 a.oy, .int .i64 a.oz, .int .i64 a.dx, .int .i64 a.dy, .int .i64 a.dz, .int .i64 a.long]] w fun e w' => e = .returned (.bool true) ∧ Below w.heap.size w w' := by
  by_cases few : rfewT t
  · exact rcast_yes F C R t a B w hB K ha few
  · exact rcast_no F C R t a B w hB K few
end Go.Proofs.YtinahmhiopgcnaaGreat

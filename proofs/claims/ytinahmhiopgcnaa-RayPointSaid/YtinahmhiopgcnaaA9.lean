/- The program's ray: Cast; what it tells. -/
import Derived.Test.YtinahmhiopgcnaaA7
import Derived.Test.YtinahmhiopgcnaaAe
namespace Go.Proofs.Ytinahmhiopgcnaa
open Go.RowKit
set_option linter.unusedVariables false
set_option linter.unusedSimpArgs false
attribute [local go_sem] st_cx

theorem tcV_no (t : Trk) (a : Ry) : tcV t a (-1) = .agg #[.int .i64 0, .int .i64 0, .int .i64 0, .int .i64 0, .int .i64 0] := by
  unfold tcV tcS tcX tcY tcZ tcK
  rw [if_pos (by omega), if_pos (by omega), if_pos (by omega), if_pos (by omega), if_pos (by omega)]
theorem tcV_yes {t : Trk} {a : Ry} {i : Int} (h : 0 ≤ i) : tcV t a i = .agg #[.int .i64 (tcS t a i), .int .i64 (upX (tcA t i) (tcB t i)), .int .i64 (upY (tcA t i) (tcB t i)), .int .i64 (upZ (tcA t i) (tcB t i)), .int .i64 (tcK t i)] := by
  unfold tcV tcX tcY tcZ
  rw [if_neg (by omega), if_neg (by omega), if_neg (by omega)]
/-- the walk of Cast: the field, the flag, a ray's place and way, what is told -/
structure CStt (w W : World) (lo top f hb gb hc gc b k : Nat) (o : Bool) (t : Trk) (a : Ry) : Prop where
  s : FS w lo top W f hb gb hc gc t
  g : Flag w W b k o
  A : VW W w.heap.size a.ox a.oy a.oz
  D : VW W (w.heap.size + 1) a.dx a.dy a.dz
  z : BW W (w.heap.size + 1 + 1) [.int .i64 0, .int .i64 0, .int .i64 0, .int .i64 0, .int .i64 0]
theorem CStt.step {w W W' : World} {lo top f hb gb hc gc b k : Nat} {o : Bool} {t : Trk} {a : Ry} (Q : CStt w W lo top f hb gb hc gc b k o t a) (h : Below W.heap.size W W') : CStt w W' lo top f hb gb hc gc b k o t a :=
  ⟨Q.s.step h, Q.g.more h, Q.A.below h Q.A.lt, Q.D.below h Q.D.lt, Q.z.below h Q.z.lt⟩
theorem flag_put5 {w W : World} {b k r : Nat} {o : Bool} (t : Flag w W b k o) (h : w.heap.size ≤ r) (u0 u1 u2 u3 u4 : Value) : FxW w.heap.size w b k o (((((W.setCell ⟨r, 0, none⟩ u0).setCell ⟨r, 1, none⟩ u1).setCell ⟨r, 2, none⟩ u2).setCell ⟨r, 3, none⟩ u3).setCell ⟨r, 4, none⟩ u4) :=
  Flag.set (Flag.set (Flag.set (Flag.set (Flag.set t.f h 0 u0) h 1 u1) h 2 u2) h 3 u3) h 4 u4
set_option maxRecDepth 100000 in
set_option maxHeartbeats 8000000 in
theorem yCast_any (t : Trk) (a : Ry) (b k : Nat) (o : Bool) (lo top f hb gb hc gc : Nat) (w : World) (P : FX lo top w f hb gb hc gc t) (hi : a.ins) (m : MAt w b k o) :
    Calls Try.prog 14 #[.pointer (some ⟨b, k, none⟩), .pointer (some ⟨f, 0, none⟩), a.o, a.d, .int .i64 a.long] w fun e w' => e = .returned (.tuple #[tcV t a (casI t a), .bool (decide (0 ≤ casI t a))]) ∧ FxW w.heap.size w b k o w' := by
  have S0 := Lib.hid (FS.mk (w := w) P (Below.refl _ _))
  have HM := Lib.hid m
  obtain ⟨hcn, hf⟩ := P.r
  have VD := Lib.hid (fun (W : World) (Q : FX lo top W f hb gb hc gc t) => fSide_any t lo top f hb gb hc gc W Q)
  have VV := Lib.hid (fun (W : World) => yValid_any a W)
  have zc : ¬ t.cell = 0 := by have := hf.1; omega
  have zc1 : (t.cell == 0) = false := by simp; exact zc
  obtain ⟨tv, htv⟩ : ∃ v, tcV t a (casI t a) = v := ⟨_, rfl⟩
  obtain ⟨kk, hkk⟩ : ∃ v, decide (0 ≤ casI t a) = v := ⟨_, rfl⟩
  have CN := Lib.hid (fun (h : casI t a = -1) => (show (.agg #[.int .i64 0, .int .i64 0, .int .i64 0, .int .i64 0, .int .i64 0] : Value) = tv ∧ false = kk from ⟨by rw [← htv, h, tcV_no], by rw [← hkk, h]; rfl⟩))
  have CY := Lib.hid (fun (h : 0 ≤ casI t a) => (show (.agg #[.int .i64 (tcS t a (casI t a)), .int .i64 (upX (tcA t (casI t a)) (tcB t (casI t a))), .int .i64 (upY (tcA t (casI t a)) (tcB t (casI t a))), .int .i64 (upZ (tcA t (casI t a)) (tcB t (casI t a))), .int .i64 (tcK t (casI t a))] : Value) = tv ∧ true = kk from ⟨by rw [← htv, tcV_yes h], by rw [← hkk]; exact (decide_eq_true h).symm⟩))
  rw [htv, hkk]
  clear m P htv hkk
  by_cases hm : a.may
  rotate_left
  · have E := Lib.hid (CN.out (by unfold casI; rw [if_neg hm]))
    rw [decide_eq_false hm] at VV
    clear hcn hf hi hm CN CY
    go_enter Try.func14, Try.ntmps14
    go_wp2_with fail
    refine calls_gen (S := fun W => CStt w W lo top f hb gb hc gc b k o t a) ⟨S0.out.step (by repeat (first | exact Below.refl _ _ | assumption | refine Below.setCell ?_ (by first | omega | (simp; done) | (simp; omega)) _ | refine Below.alloc ?_ (by first | omega | (simp; done) | (simp; omega)) _ | refine below_drewN ?_ _ | refine Below.drew ?_ | refine Below.trans ?_ (Below.mono (by assumption) (by first | omega | (simp; done) | (simp; omega))))), Flag.start HM.out (by repeat (first | exact Below.refl _ _ | assumption | refine Below.setCell ?_ (by first | omega | (simp; done) | (simp; omega)) _ | refine Below.alloc ?_ (by first | omega | (simp; done) | (simp; omega)) _ | refine below_drewN ?_ _ | refine Below.drew ?_ | refine Below.trans ?_ (Below.mono (by assumption) (by first | omega | (simp; done) | (simp; omega))))), ((VW.new w w.heap.size a.ox a.oy a.oz _ rfl).alloc _).alloc _, (VW.new _ _ a.dx a.dy a.dz _ (by simp)).alloc _, BW.new _ _ [_, _, _, _, _] _ (by simp)⟩ (fun W1 hS => ?_)
    have Q1 := Lib.hid hS
    clear hS S0 HM
    refine (VD.out _ Q1.out.s.p).mono ?_
    rintro e w2 ⟨rfl, h⟩
    have Q2 := Lib.hid (Q1.out.step h)
    clear h Q1 VD
    obtain ⟨a0, a1, a2⟩ := Q2.out.A.held
    obtain ⟨d0, d1, d2⟩ := Q2.out.D.held
    go_wp2_with fail
    refine (VV.out _).mono ?_
    rintro e w3 ⟨rfl, h⟩
    have Q3 := Lib.hid (Q2.out.step h)
    clear h Q2 VV a0 a1 a2 d0 d1 d2 zc zc1
    have r0 := Q3.out.z.c 0 _ rfl
    have r1 := Q3.out.z.c 1 _ rfl
    have r2 := Q3.out.z.c 2 _ rfl
    have r3 := Q3.out.z.c 3 _ rfl
    have r4 := Q3.out.z.c 4 _ rfl
    have rf := Q3.out.z.f
    go_wp2
    exact bodyPost_ret (v := .tuple #[.agg #[.int .i64 0, .int .i64 0, .int .i64 0, .int .i64 0, .int .i64 0], .bool false]) (by simp [results, Try.results14, go_sem, r0, r1, r2, r3, r4]) rfl ⟨by rw [← E.out.1, ← E.out.2], flag_put5 Q3.out.g (by omega) _ _ _ _ _⟩
  rw [decide_eq_true hm] at VV
  have NB := Lib.hid (fun (W : World) (Q : FX lo top W f hb gb hc gc t) => yBeam_any t a lo top f hb gb hc gc W Q)
  have NR := Lib.hid (fun (W : World) (Q : FX lo top W f hb gb hc gc t) => yNear_any t a lo top f hb gb hc gc W Q hm hi)
  have DN := Lib.hid (fun (L : Int) (N : Near t a _ L) => Near.done (V := Vr (min (whK t a.ox) (whK t (pntF a.ox a.dx a.long))) (max (whK t a.ox) (whK t (pntF a.ox a.dx a.long))) (min (whR t a.oy) (whR t (pntF a.oy a.dy a.long))) (max (whR t a.oy) (whR t (pntF a.oy a.dy a.long)) + 1)) N hcn hf hi hm (fun c r up h1 h2 => ⟨h1, h2.1, by omega⟩))
  have NN := Lib.hid (fun (V : Nat → Nat → Bool → Prop) (L : Int) (N : Near t a V L) => (show 0 ≤ L ∧ L ≤ 274877906945 from ⟨N.nn, by have := N.le; have := hm.2.2.2.2.2.2.2; omega⟩))
  have PN := Lib.hid (fun (s : Int) (hs : In64 s) (W : World) => yPoint_nil a s W hi hs)
  have NO := Lib.hid (fun (x y : Int) (W : World) (Q : FX lo top W f hb gb hc gc t) => fNormal_nil t x y lo top f hb gb hc gc W Q)
  have KI := Lib.hid (fun (x y : Int) (W : World) (Q : FX lo top W f hb gb hc gc t) => fKind_any t x y lo top f hb gb hc gc W Q)
  generalize fz (whK t a.ox) = H at *
  generalize fz (whR t a.oy) = V at *
  generalize whX t a.ox = p at *
  generalize whY t a.oy = q at *
  clear hcn hf hi hm
  go_enter Try.func14, Try.ntmps14
  go_wp2_with fail
  refine calls_gen (S := fun W => CStt w W lo top f hb gb hc gc b k o t a) ⟨S0.out.step (by repeat (first | exact Below.refl _ _ | assumption | refine Below.setCell ?_ (by first | omega | (simp; done) | (simp; omega)) _ | refine Below.alloc ?_ (by first | omega | (simp; done) | (simp; omega)) _ | refine below_drewN ?_ _ | refine Below.drew ?_ | refine Below.trans ?_ (Below.mono (by assumption) (by first | omega | (simp; done) | (simp; omega))))), Flag.start HM.out (by repeat (first | exact Below.refl _ _ | assumption | refine Below.setCell ?_ (by first | omega | (simp; done) | (simp; omega)) _ | refine Below.alloc ?_ (by first | omega | (simp; done) | (simp; omega)) _ | refine below_drewN ?_ _ | refine Below.drew ?_ | refine Below.trans ?_ (Below.mono (by assumption) (by first | omega | (simp; done) | (simp; omega))))), ((VW.new w w.heap.size a.ox a.oy a.oz _ rfl).alloc _).alloc _, (VW.new _ _ a.dx a.dy a.dz _ (by simp)).alloc _, BW.new _ _ [_, _, _, _, _] _ (by simp)⟩ (fun W1 hS => ?_)
  have Q1 := Lib.hid hS
  clear hS S0 HM
  refine (VD.out _ Q1.out.s.p).mono ?_
  rintro e w2 ⟨rfl, h⟩
  have Q2 := Lib.hid (Q1.out.step h)
  clear h Q1 VD
  obtain ⟨a0, a1, a2⟩ := Q2.out.A.held
  obtain ⟨d0, d1, d2⟩ := Q2.out.D.held
  go_wp2_with fail
  refine (VV.out _).mono ?_
  rintro e w3 ⟨rfl, h⟩
  have Q3 := Lib.hid (Q2.out.step h)
  clear h Q2 VV a0 a1 a2 d0 d1 d2 zc zc1
  obtain ⟨a0, a1, a2⟩ := Q3.out.A.held
  obtain ⟨d0, d1, d2⟩ := Q3.out.D.held
  go_wp2_with fail
  refine (NB.out _ Q3.out.s.p).mono ?_
  rintro e w4 ⟨rfl, h⟩
  have Q4 := Lib.hid (Q3.out.step h)
  clear h Q3 NB a0 a1 a2 d0 d1 d2
  go_wp2_with fail
  refine calls_gen (S := fun W => CStt w W lo top f hb gb hc gc b k o t a) (Q4.out.step ((Below.refl _ _).alloc (Nat.le_refl _) _)) (fun W5 hS => ?_)
  have Q5 := Lib.hid hS
  clear hS Q4
  refine (NR.out _ Q5.out.s.p).mono ?_
  rintro e w6 ⟨⟨L, rfl, hN⟩, h⟩
  have Q6 := Lib.hid (Q5.out.step h)
  have LL := NN.out _ L hN
  have D := DN.out L hN
  clear h Q5 NR DN NN hN
  rcases D with ⟨e1, e2⟩ | ⟨e1, e2, e3, e4, e5, e6⟩
  · have E := Lib.hid (CN.out e1)
    have g : a.long < L := by omega
    clear e1 e2 LL PN NO KI CN CY
    have r0 := Q6.out.z.c 0 _ rfl
    have r1 := Q6.out.z.c 1 _ rfl
    have r2 := Q6.out.z.c 2 _ rfl
    have r3 := Q6.out.z.c 3 _ rfl
    have r4 := Q6.out.z.c 4 _ rfl
    have rf := Q6.out.z.f
    go_wp2
    exact bodyPost_ret (v := .tuple #[.agg #[.int .i64 0, .int .i64 0, .int .i64 0, .int .i64 0, .int .i64 0], .bool false]) (by simp [results, Try.results14, go_sem, r0, r1, r2, r3, r4]) rfl ⟨by rw [← E.out.1, ← E.out.2], flag_put5 Q6.out.g (by omega) _ _ _ _ _⟩
  have E' := CY.out e1
  rw [e3, ← e4, ← e5, ← e6] at E'
  have E := Lib.hid E'
  have P7 := Lib.hid (fun (W : World) => PN.out L (by unfold In64; omega) W)
  have N7 := Lib.hid (fun (W : World) (Q : FX lo top W f hb gb hc gc t) => NO.out (pntF a.ox a.dx L) (pntF a.oy a.dy L) W Q)
  have K7 := Lib.hid (fun (W : World) (Q : FX lo top W f hb gb hc gc t) => KI.out (pntF a.ox a.dx L) (pntF a.oy a.dy L) W Q)
  have g : ¬ a.long < L := by omega
  clear e1 e2 e3 e4 e5 e6 E' LL PN NO KI CN CY
  generalize upX (slpA t (pntF a.ox a.dx L) (pntF a.oy a.dy L)) (slpB t (pntF a.ox a.dx L) (pntF a.oy a.dy L)) = n1 at *
  generalize upY (slpA t (pntF a.ox a.dx L) (pntF a.oy a.dy L)) (slpB t (pntF a.ox a.dx L) (pntF a.oy a.dy L)) = n2 at *
  generalize upZ (slpA t (pntF a.ox a.dx L) (pntF a.oy a.dy L)) (slpB t (pntF a.ox a.dx L) (pntF a.oy a.dy L)) = n3 at *
  generalize kindFd t (pntF a.ox a.dx L) (pntF a.oy a.dy L) = n4 at *
  generalize pntF a.ox a.dx L = X at *
  generalize pntF a.oy a.dy L = Y at *
  generalize pntF a.oz a.dz L = Z at *
  obtain ⟨a0, a1, a2⟩ := Q6.out.A.held
  obtain ⟨d0, d1, d2⟩ := Q6.out.D.held
  go_wp2_with fail
  refine (P7.out _).mono ?_
  rintro e w7 ⟨rfl, h⟩
  have Q7 := Lib.hid (Q6.out.step h)
  clear h Q6 P7 a0 a1 a2 d0 d1 d2 g
  go_wp2_with fail
  refine wp_gen (S := fun W => CStt w W lo top f hb gb hc gc b k o t a ∧ VW W w7.heap.size X Y Z) ⟨Q7.out.step ((Below.refl _ _).alloc (Nat.le_refl _) _), VW.new _ _ X Y Z _ rfl⟩ (fun W8 hS => ?_)
  have Q8 := Lib.hid (hS.1.step (Below.refl _ _).drew)
  have X8 := Lib.hid hS.2.drew
  have hne : w.heap.size + 1 + 1 < w7.heap.size := Q7.out.z.lt
  generalize w7.heap.size = nb at *
  clear hS Q7
  refine wp_region_held_drew (S := fun W => (W.cell? ⟨nb, 0, none⟩ = some (.int .i64 (X)) ∧ W.cell? ⟨nb, 1, none⟩ = some (.int .i64 (Y)) ∧ W.cell? ⟨nb, 2, none⟩ = some (.int .i64 (Z)))) (by kernel_rfl) X8.out.held (fun hHeld => ?_)
  generalize W8.drew = w8 at *
  refine wpAnyH_takeD 0 41 (v := ?_) (by kernel_rfl) (by kernel_rfl) (by kernel_rfl) (by kernel_rfl) (by rfl) (fun _ _ _ h => h) ?_ hHeld ?_
  rotate_left 1
  (intro o ho W hSw; simp only [List.getElem?_toArray, List.getElem?_cons_succ, List.getElem?_cons_zero, Option.some.injEq] at ho; subst ho; (try dsimp only at hSw); go_simp; try with_reducible rfl)
  (try simp only [Act.put, List.setIfInBounds_toArray, List.set_cons_zero, List.set_cons_succ])
  refine wpAnyH_takeD 1 42 (v := ?_) (by kernel_rfl) (by kernel_rfl) (by kernel_rfl) (by kernel_rfl) (by rfl) (fun _ _ _ h => h) ?_ hHeld ?_
  rotate_left 1
  (intro o ho W hSw; simp only [List.getElem?_toArray, List.getElem?_cons_succ, List.getElem?_cons_zero, Option.some.injEq] at ho; subst ho; (try dsimp only at hSw); go_simp; try with_reducible rfl)
  (try simp only [Act.put, List.setIfInBounds_toArray, List.set_cons_zero, List.set_cons_succ])
  refine wpAnyH_takeD 2 43 (v := ?_) (by kernel_rfl) (by kernel_rfl) (by kernel_rfl) (by kernel_rfl) (by rfl) (fun _ _ _ h => h) ?_ hHeld ?_
  rotate_left 1
  (intro o ho W hSw; simp only [List.getElem?_toArray, List.getElem?_cons_succ, List.getElem?_cons_zero, Option.some.injEq] at ho; subst ho; (try dsimp only at hSw); go_simp; try with_reducible rfl)
  (try simp only [Act.put, List.setIfInBounds_toArray, List.set_cons_zero, List.set_cons_succ])
  refine wpAnyH_takeD 3 44 (v := ?_) (by kernel_rfl) (by kernel_rfl) (by kernel_rfl) (by kernel_rfl) (by rfl) (fun _ _ _ h => h) ?_ hHeld ?_
  rotate_left 1
  (intro o ho W hSw; simp only [List.getElem?_toArray, List.getElem?_cons_succ, List.getElem?_cons_zero, Option.some.injEq] at ho; subst ho; (try dsimp only at hSw); go_simp; try with_reducible rfl)
  (try simp only [Act.put, List.setIfInBounds_toArray, List.set_cons_zero, List.set_cons_succ])
  refine wpAnyH_takeD 4 45 (v := ?_) (by kernel_rfl) (by kernel_rfl) (by kernel_rfl) (by kernel_rfl) (by rfl) (fun _ _ _ h => h) ?_ hHeld ?_
  rotate_left 1
  (intro o ho W hSw; simp only [List.getElem?_toArray, List.getElem?_cons_succ, List.getElem?_cons_zero, Option.some.injEq] at ho; subst ho; (try dsimp only at hSw); go_simp; try with_reducible rfl)
  (try simp only [Act.put, List.setIfInBounds_toArray, List.set_cons_zero, List.set_cons_succ])
  refine wpAnyH_takeD 5 46 (v := ?_) (by kernel_rfl) (by kernel_rfl) (by kernel_rfl) (by kernel_rfl) (by rfl) (fun _ _ _ h => h) ?_ hHeld ?_
  rotate_left 1
  (intro o ho W hSw; simp only [List.getElem?_toArray, List.getElem?_cons_succ, List.getElem?_cons_zero, Option.some.injEq] at ho; subst ho; (try dsimp only at hSw); go_simp; try with_reducible rfl)
  (try simp only [Act.put, List.setIfInBounds_toArray, List.set_cons_zero, List.set_cons_succ])
  refine wpAnyH_takeD 7 48 (v := ?_) (by kernel_rfl) (by kernel_rfl) (by kernel_rfl) (by kernel_rfl) (by rfl) (fun _ _ _ h => h) ?_ hHeld ?_
  rotate_left 1
  (intro o ho W hSw; simp only [List.getElem?_toArray, List.getElem?_cons_succ, List.getElem?_cons_zero, Option.some.injEq] at ho; subst ho; (try dsimp only at hSw); go_simp; try with_reducible rfl)
  (try simp only [Act.put, List.setIfInBounds_toArray, List.set_cons_zero, List.set_cons_succ])
  refine wpAnyH_takeD 8 49 (v := ?_) (by kernel_rfl) (by kernel_rfl) (by kernel_rfl) (by kernel_rfl) (by rfl) (fun _ _ _ h => h) ?_ hHeld ?_
  rotate_left 1
  (intro o ho W hSw; simp only [List.getElem?_toArray, List.getElem?_cons_succ, List.getElem?_cons_zero, Option.some.injEq] at ho; subst ho; (try dsimp only at hSw); go_simp; try with_reducible rfl)
  (try simp only [Act.put, List.setIfInBounds_toArray, List.set_cons_zero, List.set_cons_succ])
  refine wpAnyH_takeD 9 50 (v := ?_) (by kernel_rfl) (by kernel_rfl) (by kernel_rfl) (by kernel_rfl) (by rfl) (fun _ _ _ h => h) ?_ hHeld ?_
  rotate_left 1
  (intro o ho W hSw; simp only [List.getElem?_toArray, List.getElem?_cons_succ, List.getElem?_cons_zero, Option.some.injEq] at ho; subst ho; (try dsimp only at hSw); go_simp; try with_reducible rfl)
  (try simp only [Act.put, List.setIfInBounds_toArray, List.set_cons_zero, List.set_cons_succ])
  refine wpAnyH_takeD 10 51 (v := ?_) (by kernel_rfl) (by kernel_rfl) (by kernel_rfl) (by kernel_rfl) (by rfl) (fun _ _ _ h => h) ?_ hHeld ?_
  rotate_left 1
  (intro o ho W hSw; simp only [List.getElem?_toArray, List.getElem?_cons_succ, List.getElem?_cons_zero, Option.some.injEq] at ho; subst ho; (try dsimp only at hSw); go_simp; try with_reducible rfl)
  (try simp only [Act.put, List.setIfInBounds_toArray, List.set_cons_zero, List.set_cons_succ])
  refine wpAnyH_takeD 11 52 (v := ?_) (by kernel_rfl) (by kernel_rfl) (by kernel_rfl) (by kernel_rfl) (by rfl) (fun _ _ _ h => h) ?_ hHeld ?_
  rotate_left 1
  (intro o ho W hSw; simp only [List.getElem?_toArray, List.getElem?_cons_succ, List.getElem?_cons_zero, Option.some.injEq] at ho; subst ho; (try dsimp only at hSw); go_simp; try with_reducible rfl)
  (try simp only [Act.put, List.setIfInBounds_toArray, List.set_cons_zero, List.set_cons_succ])
  refine wpAnyH_onlyD 6 (by kernel_rfl) (fun o ho K hK => ?_) (by kernel_rfl)
  simp only [List.getElem?_toArray, List.getElem?_cons_succ, List.getElem?_cons_zero, Option.some.injEq] at ho
  subst ho
  go_simp
  refine (N7.out _ Q8.out.s.p).mono ?_
  rintro e w9 ⟨rfl, h⟩
  have Q9 := Lib.hid (Q8.out.step h)
  have X9 := Lib.hid (X8.out.below h X8.out.lt)
  go_wp2_with fail
  refine hK.out _ _ (X9.out.held) ?_
  clear hK K hHeld
  intro hHeld
  clear h Q8 X8 N7
  refine wpAnyH_onlyD 12 (by kernel_rfl) (fun o ho K hK => ?_) (by kernel_rfl)
  simp only [List.getElem?_toArray, List.getElem?_cons_succ, List.getElem?_cons_zero, Option.some.injEq] at ho
  subst ho
  go_simp
  refine (K7.out _ Q9.out.s.p).mono ?_
  rintro e w10 ⟨rfl, h⟩
  have Q10 := Lib.hid (Q9.out.step h)
  have X10 := Lib.hid (X9.out.below h X9.out.lt)
  go_wp2_with fail
  refine hK.out _ _ (X10.out.held) ?_
  clear hK K hHeld
  intro hHeld
  clear h Q9 X9 K7
  refine wpAnyH_takeD 13 54 (v := ?_) (by kernel_rfl) (by kernel_rfl) (by kernel_rfl) (by kernel_rfl) (by rfl) (fun _ _ _ h => h) ?_ hHeld ?_
  rotate_left 1
  (intro o ho W hSw; simp only [List.getElem?_toArray, List.getElem?_cons_succ, List.getElem?_cons_zero, Option.some.injEq] at ho; subst ho; (try dsimp only at hSw); go_simp; try with_reducible rfl)
  (try simp only [Act.put, List.setIfInBounds_toArray, List.set_cons_zero, List.set_cons_succ])
  have r0 := Q10.out.z.c 0 _ rfl
  have r1 := Q10.out.z.c 1 _ rfl
  have r2 := Q10.out.z.c 2 _ rfl
  have r3 := Q10.out.z.c 3 _ rfl
  have r4 := Q10.out.z.c 4 _ rfl
  have rf := Q10.out.z.f
  refine wpAnyH_onlyD 14 (by kernel_rfl) (fun o ho K hK => ?_) (by kernel_rfl)
  simp only [List.getElem?_toArray, List.getElem?_cons_succ, List.getElem?_cons_zero, Option.some.injEq] at ho
  subst ho
  go_simp
  refine hK.out _ _ ((vw_far5 X10.out (by omega) _ _ _ _ _).held) ?_
  clear hK K hHeld
  intro hHeld
  refine wpAnyH_takeD 15 11 (v := ?_) (by kernel_rfl) (by kernel_rfl) (by kernel_rfl) (by kernel_rfl) (by rfl) (fun _ _ _ h => h) ?_ hHeld ?_
  rotate_left 1
  (intro o ho W hSw; simp only [List.getElem?_toArray, List.getElem?_cons_succ, List.getElem?_cons_zero, Option.some.injEq] at ho; subst ho; (try dsimp only at hSw); go_simp; try with_reducible rfl)
  (try simp only [Act.put, List.setIfInBounds_toArray, List.set_cons_zero, List.set_cons_succ])
  refine wpAnyH_done (by kernel_rfl) ?_ _
  clear hHeld
  go_wp2
  exact bodyPost_ret (v := .tuple #[.agg #[.int .i64 L, .int .i64 n1, .int .i64 n2, .int .i64 n3, .int .i64 n4], .bool true]) (by simp [results, Try.results14, go_sem, r0, r1, r2, r3, r4]) rfl ⟨by rw [← E.out.1, ← E.out.2], flag_put5 Q10.out.g (by omega) _ _ _ _ _⟩
/-- what the program's ray tells -/
theorem rayC : RayC fieldT where
  point := fun a s b k o w ha hs m => yPoint_any a s b k o w ha hs m
  cast := fun t a b k o lo top f w _ hi ⟨hb, gb, hc, gc, P⟩ _ m => yCast_any t a b k o lo top f hb gb hc gc w P hi m
end Go.Proofs.Ytinahmhiopgcnaa

/- The walks of RootParts and RootOne. -/
import Derived.Test.YtmdcfnifbkpedaaRf
import Derived.Test.YtmdcfnifbkpedaaRg
namespace Go.Proofs.Ytmdcfnifbkpedaa
open Go.RowKit

/-- a vector that came in lies in the first block, a receiver in the second -/
structure V3M (w W : World) (x y z : Int) (o : Bool) : Prop where
  v : (W.cell? ⟨w.heap.size, 0, none⟩ = some (.int .i64 (x)) ∧ W.cell? ⟨w.heap.size, 1, none⟩ = some (.int .i64 (y)) ∧ W.cell? ⟨w.heap.size, 2, none⟩ = some (.int .i64 (z)))
  m : MAt W (w.heap.size + 1) 0 o
  bl : Below w.heap.size w W
theorem V3M.lt {w W : World} {x y z : Int} {o : Bool} (t : V3M w W x y z o) : w.heap.size < W.heap.size := by have := t.m.lt; omega
theorem V3M.new (w : World) (x y z : Int) (s t : TypeId) : V3M w ((w.alloc (.cells #[.int .i64 x, .int .i64 y, .int .i64 z] s)).alloc (.cells #[.bool false] t)) x y z false := by
  have b := (Below.refl w.heap.size w).alloc (Nat.le_refl _) (.cells #[.int .i64 x, .int .i64 y, .int .i64 z] s)
  have b2 := (Below.refl (w.alloc (.cells #[.int .i64 x, .int .i64 y, .int .i64 z] s)).heap.size (w.alloc (.cells #[.int .i64 x, .int .i64 y, .int .i64 z] s))).alloc (Nat.le_refl _) (.cells #[.bool false] t)
  have hz : w.heap.size < (w.alloc (.cells #[.int .i64 x, .int .i64 y, .int .i64 z] s)).heap.size := by simp
  refine ⟨⟨?_, ?_, ?_⟩, ?_, b.alloc (by simp) _⟩
  · exact (b2.cell (p := ⟨w.heap.size, 0, none⟩) hz).trans (World.cell?_alloc_new w _ s 0)
  · exact (b2.cell (p := ⟨w.heap.size, 1, none⟩) hz).trans (World.cell?_alloc_new w _ s 1)
  · exact (b2.cell (p := ⟨w.heap.size, 2, none⟩) hz).trans (World.cell?_alloc_new w _ s 2)
  · have k := MAt.new (w.alloc (.cells #[.int .i64 x, .int .i64 y, .int .i64 z] s)) false t
    simpa using k
theorem V3M.fx {w W W' : World} {x y z : Int} {o q : Bool} (t : V3M w W x y z o) (h : FxW W.heap.size W (w.heap.size + 1) 0 q W') : V3M w W' x y z q :=
  ⟨⟨(h.cell t.lt (by omega)).trans t.v.1, (h.cell t.lt (by omega)).trans t.v.2.1, (h.cell t.lt (by omega)).trans t.v.2.2⟩, h.at t.m t.m.lt, t.bl.trans (h.below t.bl.size (by omega))⟩
theorem V3M.more {w W W' : World} {x y z : Int} {o : Bool} (t : V3M w W x y z o) (h : Below W.heap.size W W') : V3M w W' x y z o :=
  ⟨⟨(h.cell (p := ⟨w.heap.size, 0, none⟩) t.lt).trans t.v.1, (h.cell (p := ⟨w.heap.size, 1, none⟩) t.lt).trans t.v.2.1, (h.cell (p := ⟨w.heap.size, 2, none⟩) t.lt).trans t.v.2.2⟩, t.m.below h t.m.lt, t.bl.trans (h.mono t.bl.size)⟩

set_option maxHeartbeats 4000000 in
theorem parts_walk (x y z : Int) (w : World) (x0 : -9223372036854775808 ≤ x) (x1 : x ≤ 9223372036854775807) (y0 : -9223372036854775808 ≤ y) (y1 : y ≤ 9223372036854775807) (z0 : -9223372036854775808 ≤ z) (z1 : z ≤ 9223372036854775807) :
    Calls Try.prog 8 #[.agg #[.int .i64 x, .int .i64 y, .int .i64 z]] w fun e w' => e = .returned (.bool true) ∧ Below w.heap.size w w' := by
  by_cases p1 : 1152921504606846976 < x
  · skip
    go_enter Try.func8, Try.ntmps8
    go_wp2
    go_ret
    exact ⟨rfl, by repeat (first | exact Below.refl _ _ | assumption | refine Below.setCell ?_ (by first | omega | (simp; done) | (simp; omega)) _ | refine Below.alloc ?_ (by first | omega | (simp; done) | (simp; omega)) _ | refine below_drewN ?_ _ | refine Below.drew ?_ | refine Below.trans ?_ (Below.mono (by assumption) (by first | omega | (simp; done) | (simp; omega))))⟩
  by_cases p2 : x < -1152921504606846976
  · skip
    go_enter Try.func8, Try.ntmps8
    go_wp2
    go_ret
    exact ⟨rfl, by repeat (first | exact Below.refl _ _ | assumption | refine Below.setCell ?_ (by first | omega | (simp; done) | (simp; omega)) _ | refine Below.alloc ?_ (by first | omega | (simp; done) | (simp; omega)) _ | refine below_drewN ?_ _ | refine Below.drew ?_ | refine Below.trans ?_ (Below.mono (by assumption) (by first | omega | (simp; done) | (simp; omega))))⟩
  by_cases p3 : 1152921504606846976 < y
  · skip
    go_enter Try.func8, Try.ntmps8
    go_wp2
    go_ret
    exact ⟨rfl, by repeat (first | exact Below.refl _ _ | assumption | refine Below.setCell ?_ (by first | omega | (simp; done) | (simp; omega)) _ | refine Below.alloc ?_ (by first | omega | (simp; done) | (simp; omega)) _ | refine below_drewN ?_ _ | refine Below.drew ?_ | refine Below.trans ?_ (Below.mono (by assumption) (by first | omega | (simp; done) | (simp; omega))))⟩
  by_cases p4 : y < -1152921504606846976
  · skip
    go_enter Try.func8, Try.ntmps8
    go_wp2
    go_ret
    exact ⟨rfl, by repeat (first | exact Below.refl _ _ | assumption | refine Below.setCell ?_ (by first | omega | (simp; done) | (simp; omega)) _ | refine Below.alloc ?_ (by first | omega | (simp; done) | (simp; omega)) _ | refine below_drewN ?_ _ | refine Below.drew ?_ | refine Below.trans ?_ (Below.mono (by assumption) (by first | omega | (simp; done) | (simp; omega))))⟩
  by_cases p5 : 1152921504606846976 < z
  · skip
    go_enter Try.func8, Try.ntmps8
    go_wp2
    go_ret
    exact ⟨rfl, by repeat (first | exact Below.refl _ _ | assumption | refine Below.setCell ?_ (by first | omega | (simp; done) | (simp; omega)) _ | refine Below.alloc ?_ (by first | omega | (simp; done) | (simp; omega)) _ | refine below_drewN ?_ _ | refine Below.drew ?_ | refine Below.trans ?_ (Below.mono (by assumption) (by first | omega | (simp; done) | (simp; omega))))⟩
  by_cases p6 : z < -1152921504606846976
  · skip
    go_enter Try.func8, Try.ntmps8
    go_wp2
    go_ret
    exact ⟨rfl, by repeat (first | exact Below.refl _ _ | assumption | refine Below.setCell ?_ (by first | omega | (simp; done) | (simp; omega)) _ | refine Below.alloc ?_ (by first | omega | (simp; done) | (simp; omega)) _ | refine below_drewN ?_ _ | refine Below.drew ?_ | refine Below.trans ?_ (Below.mono (by assumption) (by first | omega | (simp; done) | (simp; omega))))⟩
  have P := parts_of (x := x) (y := y) (z := z) (by omega) (by omega) (by omega) (by omega) (by omega) (by omega)
  have AX := abs_nat (x := x) (by omega) (by omega)
  have AY := abs_nat (x := y) (by omega) (by omega)
  have AZ := abs_nat (x := z) (by omega) (by omega)
  obtain ⟨n, hn⟩ : ∃ n, lenF (x * x + y * y + z * z) = n := ⟨_, rfl⟩
  have L3 := Lib.hid (And.intro hn P.ok)
  obtain ⟨k, hk⟩ : ∃ k, lenF (x * x + y * y) = k := ⟨_, rfl⟩
  have L2 := Lib.hid (And.intro hk P.ok2)
  have k1 := P.fit2
  have n1 := P.px
  have n2 := P.py
  have n3 := P.pz
  have n4 := P.sum
  rw [hn] at k1 n1 n2 n3 n4
  rw [hk] at k1
  have X1 : (x.natAbs : Int) ≤ 1152921504606846976 := by omega
  have Y1 : (y.natAbs : Int) ≤ 1152921504606846976 := by omega
  have Z1 : (z.natAbs : Int) ≤ 1152921504606846976 := by omega
  have X0 : (0 : Int) ≤ x.natAbs := by omega
  have Y0 : (0 : Int) ≤ y.natAbs := by omega
  have Z0 : (0 : Int) ≤ z.natAbs := by omega
  have HAX := Lib.hid AX
  have HAY := Lib.hid AY
  have HAZ := Lib.hid AZ
  generalize (x.natAbs : Int) = X at *
  generalize (y.natAbs : Int) = Y at *
  generalize (z.natAbs : Int) = Z at *
  clear P hn hk AX AY AZ
  go_enter Try.func8, Try.ntmps8
  go_wp2_with fail
  have T0 := Lib.hid (V3M.new w x y z 38 41)
  refine (Len3_any x y z (w.heap.size + 1) 0 false _ x0 x1 y0 y1 z0 z1 T0.out.m).mono ?_
  rw [L3.out.1, L3.out.2, Bool.or_false]
  rintro e w1 ⟨rfl, h1⟩
  have T1 := Lib.hid (T0.out.fx h1)
  have a0 := T1.out.v.1
  have a1 := T1.out.v.2.1
  have a2 := T1.out.v.2.2
  have ac := T1.out.m.c
  clear h1 T0
  go_wp2_with fail
  refine (fxAbs_any x (w.heap.size + 1) 0 false _ x0 x1 T1.out.m).mono ?_
  rw [HAX.out.1, HAX.out.2, Bool.or_false]
  rintro e w2 ⟨rfl, h2⟩
  have T2 := Lib.hid (T1.out.fx h2)
  clear h2 T1 a0 a1 a2 ac
  have a0 := T2.out.v.1
  have a1 := T2.out.v.2.1
  have a2 := T2.out.v.2.2
  have ac := T2.out.m.c
  go_wp2_with fail
  refine (fxAbs_any y (w.heap.size + 1) 0 false _ y0 y1 T2.out.m).mono ?_
  rw [HAY.out.1, HAY.out.2, Bool.or_false]
  rintro e w3 ⟨rfl, h3⟩
  have T3 := Lib.hid (T2.out.fx h3)
  clear h3 T2 a0 a1 a2 ac
  have a0 := T3.out.v.1
  have a1 := T3.out.v.2.1
  have a2 := T3.out.v.2.2
  have ac := T3.out.m.c
  go_wp2_with fail
  refine (fxAbs_any z (w.heap.size + 1) 0 false _ z0 z1 T3.out.m).mono ?_
  rw [HAZ.out.1, HAZ.out.2, Bool.or_false]
  rintro e w4 ⟨rfl, h4⟩
  have T4 := Lib.hid (T3.out.fx h4)
  clear h4 T3 a0 a1 a2 ac
  have a0 := T4.out.v.1
  have a1 := T4.out.v.2.1
  have a2 := T4.out.v.2.2
  have ac := T4.out.m.c
  go_wp2_with fail
  refine (Len2_any x y (w.heap.size + 1) 0 false _ x0 x1 y0 y1 T4.out.m).mono ?_
  rw [L2.out.1, L2.out.2, Bool.or_false]
  rintro e w5 ⟨rfl, h5⟩
  have T5 := Lib.hid (T4.out.fx h5)
  clear h5 T4 a0 a1 a2 ac
  go_wp2_with fail
  refine (rootAwake_any _).mono ?_
  rintro e w6 ⟨rfl, h6⟩
  have B6 := Lib.hid (T5.out.bl.trans (h6.mono T5.out.bl.size))
  clear h6 T5
  go_wp2
  go_ret
  exact ⟨rfl, B6.out⟩
theorem parts_law (x y z : Int) (wx : (Lit.int .i64 x).wf = true) (wy : (Lit.int .i64 y).wf = true) (wz : (Lit.int .i64 z).wf = true) (w : World) :
    Calls Try.prog 8 #[.agg #[.int .i64 x, .int .i64 y, .int .i64 z]] w fun e w' => e = .returned (.bool true) ∧ Below w.heap.size w w' := by
  have A := bounds_i64 wx
  have B := bounds_i64 wy
  have C := bounds_i64 wz
  exact parts_walk x y z w A.1 A.2 B.1 B.2 C.1 C.2
set_option maxHeartbeats 4000000 in
theorem one_walk (x y z : Int) (w : World) (x0 : -9223372036854775808 ≤ x) (x1 : x ≤ 9223372036854775807) (y0 : -9223372036854775808 ≤ y) (y1 : y ≤ 9223372036854775807) (z0 : -9223372036854775808 ≤ z) (z1 : z ≤ 9223372036854775807) :
    Calls Try.prog 9 #[.agg #[.int .i64 x, .int .i64 y, .int .i64 z]] w fun e w' => e = .returned (.bool true) ∧ Below w.heap.size w w' := by
  by_cases p1 : 1152921504606846976 < x
  · skip
    go_enter Try.func9, Try.ntmps9
    go_wp2
    go_ret
    exact ⟨rfl, by repeat (first | exact Below.refl _ _ | assumption | refine Below.setCell ?_ (by first | omega | (simp; done) | (simp; omega)) _ | refine Below.alloc ?_ (by first | omega | (simp; done) | (simp; omega)) _ | refine below_drewN ?_ _ | refine Below.drew ?_ | refine Below.trans ?_ (Below.mono (by assumption) (by first | omega | (simp; done) | (simp; omega))))⟩
  by_cases p2 : x < -1152921504606846976
  · skip
    go_enter Try.func9, Try.ntmps9
    go_wp2
    go_ret
    exact ⟨rfl, by repeat (first | exact Below.refl _ _ | assumption | refine Below.setCell ?_ (by first | omega | (simp; done) | (simp; omega)) _ | refine Below.alloc ?_ (by first | omega | (simp; done) | (simp; omega)) _ | refine below_drewN ?_ _ | refine Below.drew ?_ | refine Below.trans ?_ (Below.mono (by assumption) (by first | omega | (simp; done) | (simp; omega))))⟩
  by_cases p3 : 1152921504606846976 < y
  · skip
    go_enter Try.func9, Try.ntmps9
    go_wp2
    go_ret
    exact ⟨rfl, by repeat (first | exact Below.refl _ _ | assumption | refine Below.setCell ?_ (by first | omega | (simp; done) | (simp; omega)) _ | refine Below.alloc ?_ (by first | omega | (simp; done) | (simp; omega)) _ | refine below_drewN ?_ _ | refine Below.drew ?_ | refine Below.trans ?_ (Below.mono (by assumption) (by first | omega | (simp; done) | (simp; omega))))⟩
  by_cases p4 : y < -1152921504606846976
  · skip
    go_enter Try.func9, Try.ntmps9
    go_wp2
    go_ret
    exact ⟨rfl, by repeat (first | exact Below.refl _ _ | assumption | refine Below.setCell ?_ (by first | omega | (simp; done) | (simp; omega)) _ | refine Below.alloc ?_ (by first | omega | (simp; done) | (simp; omega)) _ | refine below_drewN ?_ _ | refine Below.drew ?_ | refine Below.trans ?_ (Below.mono (by assumption) (by first | omega | (simp; done) | (simp; omega))))⟩
  by_cases p5 : 1152921504606846976 < z
  · skip
    go_enter Try.func9, Try.ntmps9
    go_wp2
    go_ret
    exact ⟨rfl, by repeat (first | exact Below.refl _ _ | assumption | refine Below.setCell ?_ (by first | omega | (simp; done) | (simp; omega)) _ | refine Below.alloc ?_ (by first | omega | (simp; done) | (simp; omega)) _ | refine below_drewN ?_ _ | refine Below.drew ?_ | refine Below.trans ?_ (Below.mono (by assumption) (by first | omega | (simp; done) | (simp; omega))))⟩
  by_cases p6 : z < -1152921504606846976
  · skip
    go_enter Try.func9, Try.ntmps9
    go_wp2
    go_ret
    exact ⟨rfl, by repeat (first | exact Below.refl _ _ | assumption | refine Below.setCell ?_ (by first | omega | (simp; done) | (simp; omega)) _ | refine Below.alloc ?_ (by first | omega | (simp; done) | (simp; omega)) _ | refine below_drewN ?_ _ | refine Below.drew ?_ | refine Below.trans ?_ (Below.mono (by assumption) (by first | omega | (simp; done) | (simp; omega))))⟩
  have P := parts_of (x := x) (y := y) (z := z) (by omega) (by omega) (by omega) (by omega) (by omega) (by omega)
  obtain ⟨n, hn⟩ : ∃ n, lenF (x * x + y * y + z * z) = n := ⟨_, rfl⟩
  have L3 := Lib.hid (And.intro hn P.ok)
  rw [hn] at P
  by_cases c : n < 4294967296
  · clear P hn
    go_enter Try.func9, Try.ntmps9
    go_wp2_with fail
    have T0 := Lib.hid (V3M.new w x y z 38 41)
    refine (Len3_any x y z (w.heap.size + 1) 0 false _ x0 x1 y0 y1 z0 z1 T0.out.m).mono ?_
    rw [L3.out.1, L3.out.2, Bool.or_false]
    rintro e w1 ⟨rfl, h1⟩
    have T1 := Lib.hid (T0.out.fx h1)
    clear h1 T0
    go_wp2_with fail
    refine (rootAwake_any _).mono ?_
    rintro e w6 ⟨rfl, h6⟩
    have B6 := Lib.hid (T1.out.bl.trans (h6.mono T1.out.bl.size))
    clear h6 T1
    go_wp2
    go_ret
    exact ⟨rfl, B6.out⟩
  · have O := one_of P (by omega)
    have n0 : n ≠ 0 := by omega
    have IX := divF_in x n
    have IY := divF_in y n
    have IZ := divF_in z n
    have FL := Lib.hid (And.intro O.ox (And.intro O.oy O.oz))
    have U := Lib.hid (fun (W : World) (m : MAt W (w.heap.size + 1) 0 false) => Unit3_any x y z n (w.heap.size + 1) 0 false W hn x0 x1 y0 y1 z0 z1 m)
    rw [if_neg n0, if_neg n0, L3.out.2, FL.out.1, FL.out.2.1, FL.out.2.2] at U
    obtain ⟨X, hX⟩ : ∃ X, divF x n = X := ⟨_, rfl⟩
    obtain ⟨Y, hY⟩ : ∃ Y, divF y n = Y := ⟨_, rfl⟩
    obtain ⟨Z, hZ⟩ : ∃ Z, divF z n = Z := ⟨_, rfl⟩
    rw [hX, hY, hZ] at O U
    rw [hX] at IX
    rw [hY] at IY
    rw [hZ] at IZ
    obtain ⟨l, hl⟩ : ∃ l, lenF (X * X + Y * Y + Z * Z) = l := ⟨_, rfl⟩
    have L9 := Lib.hid (And.intro hl O.ok)
    have l0 := O.lo
    have l1 := O.hi
    rw [hl] at l0 l1
    have HIX := Lib.hid IX
    have HIY := Lib.hid IY
    have HIZ := Lib.hid IZ
    clear P hn O hX hY hZ hl IX IY IZ
    go_enter Try.func9, Try.ntmps9
    go_wp2_with fail
    have T0 := Lib.hid (V3M.new w x y z 38 41)
    refine (Len3_any x y z (w.heap.size + 1) 0 false _ x0 x1 y0 y1 z0 z1 T0.out.m).mono ?_
    rw [L3.out.1, L3.out.2, Bool.or_false]
    rintro e w1 ⟨rfl, h1⟩
    have T1 := Lib.hid (T0.out.fx h1)
    have a0 := T1.out.v.1
    have a1 := T1.out.v.2.1
    have a2 := T1.out.v.2.2
    have ac := T1.out.m.c
    clear h1 T0
    go_wp2_with fail
    refine (U.out _ T1.out.m).mono ?_
    rintro e w2 ⟨rfl, h2⟩
    have T2 := Lib.hid (T1.out.fx h2)
    clear h2 T1 a0 a1 a2 ac U
    have a0 := T2.out.v.1
    have a1 := T2.out.v.2.1
    have a2 := T2.out.v.2.2
    have ac := T2.out.m.c
    go_wp2_with fail
    refine (Len3_any X Y Z (w.heap.size + 1) 0 _ _ HIX.out.1 HIX.out.2 HIY.out.1 HIY.out.2 HIZ.out.1 HIZ.out.2 T2.out.m).mono ?_
    rw [L9.out.1, L9.out.2]
    rintro e w3 ⟨rfl, h3⟩
    have T3 := Lib.hid (T2.out.fx h3)
    clear h3 T2 a0 a1 a2 ac
    have ac : w3.cell? ⟨w.heap.size + 1, 0, none⟩ = some (.bool false) := T3.out.m.c
    go_wp2_with fail
    refine (rootAwake_any _).mono ?_
    rintro e w6 ⟨rfl, h6⟩
    have B6 := Lib.hid (T3.out.bl.trans (h6.mono T3.out.bl.size))
    clear h6 T3
    go_wp2
    go_ret
    exact ⟨rfl, B6.out⟩
theorem one_law (x y z : Int) (wx : (Lit.int .i64 x).wf = true) (wy : (Lit.int .i64 y).wf = true) (wz : (Lit.int .i64 z).wf = true) (w : World) :
    Calls Try.prog 9 #[.agg #[.int .i64 x, .int .i64 y, .int .i64 z]] w fun e w' => e = .returned (.bool true) ∧ Below w.heap.size w w' := by
  have A := bounds_i64 wx
  have B := bounds_i64 wy
  have C := bounds_i64 wz
  exact one_walk x y z w A.1 A.2 B.1 B.2 C.1 C.2
end Go.Proofs.Ytmdcfnifbkpedaa

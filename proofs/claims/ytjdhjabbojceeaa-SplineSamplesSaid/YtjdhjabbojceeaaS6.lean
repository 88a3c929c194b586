/- The program's spline: squares of distances; Nearest. -/
import Derived.Test.YtjdhjabbojceeaaS2
import Derived.Test.YtjdhjabbojceeaaSf
import Derived.Test.YtjdhjabbojceeaaBv
namespace Go.Proofs.Ytjdhjabbojceeaa
open Go.RowKit
set_option linter.unusedVariables false
set_option linter.unusedSimpArgs false

theorem st_new3 {w W : World} {n0 n1 n2 : Nat} {l0 l1 l2 : List Value} (a : BW W n0 l0) (b : BW W n1 l1) (c : BW W n2 l2) (h : Below w.heap.size w W) : St w W [(n0, l0), (n1, l1), (n2, l2)] := St.cons a (St.cons b (St.cons c (St.nil h)))
set_option maxHeartbeats 1000000 in
theorem spSquare_any (px py qx qy s : Int) (w : World) (hp : Rg px ∧ Rg py) (hq : Rg qx ∧ Rg qy) (hs : (qx - px) * (qx - px) + (qy - py) * (qy - py) = s) :
    Calls Try.prog 36 #[.agg #[.int .i64 px, .int .i64 py], .agg #[.int .i64 qx, .int .i64 qy]] w fun e w' => e = .returned (.agg #[.int .i64 (hiW s), .int .u64 (loW s)]) ∧ Below w.heap.size w w' := by
  unfold Rg at hp hq
  have SF := sq_fit (x := qx - px) (y := qy - py) (by omega) (by omega)
  obtain ⟨u1, v1⟩ := wrap_in (n := qx - px) (by unfold In64; omega)
  obtain ⟨u2, v2⟩ := wrap_in (n := qy - py) (by unfold In64; omega)
  have I1 : In64 (qx - px) := by unfold In64; omega
  have I2 : In64 (qy - py) := by unfold In64; omega
  rw [hs] at SF
  obtain ⟨x, hx⟩ : ∃ x, qx - px = x := ⟨_, rfl⟩
  obtain ⟨y, hy⟩ : ∃ y, qy - py = y := ⟨_, rfl⟩
  replace u1 := u1.trans hx
  replace v1 := v1.trans hx
  replace u2 := u2.trans hy
  replace v2 := v2.trans hy
  rw [hx] at SF I1 hs
  rw [hy] at SF I2 hs
  have X1 := Lib.hid (fun (W : World) => Mul_n x x (x * x) W rfl I1.1 I1.2 I1.1 I1.2)
  have X2 := Lib.hid (fun (W : World) => Mul_n y y (y * y) W rfl I2.1 I2.2 I2.1 I2.2)
  have X3 := Lib.hid (fun (W : World) => Add_yes (x * x) (y * y) s W SF.1 SF.2.1 hs SF.2.2.2)
  generalize x * x = a at *
  generalize y * y = b at *
  have WX := Lib.hid (And.intro u1 u2)
  have WY := Lib.hid (And.intro v1 v2)
  clear SF I1 I2 u1 v1 u2 v2 hx hy hs hp hq
  go_enter Try.func36, Try.ntmps36
  go_wp2_with fail
  refine wp_gen (S := fun W => St w W [(w.heap.size, [.int .i64 px, .int .i64 py]), (w.heap.size + 1, [.int .i64 qx, .int .i64 qy]), (w.heap.size + 1 + 1, [.int .i64 0, .int .u64 0])]) (st_new3 (((BW.new w w.heap.size [_, _] _ rfl).alloc _).alloc _) ((BW.new _ _ [_, _] _ (by simp)).alloc _) (BW.new _ _ [_, _] _ (by simp)) (by repeat (first | exact Below.refl _ _ | assumption | refine Below.setCell ?_ (by first | omega | (simp; done) | (simp; omega)) _ | refine Below.alloc ?_ (by first | omega | (simp; done) | (simp; omega)) _ | refine below_drewN ?_ _ | refine Below.drew ?_ | refine Below.trans ?_ (Below.mono (by assumption) (by first | omega | (simp; done) | (simp; omega)))))) (fun W0 hS => ?_)
  have K0 := Lib.hid hS
  obtain ⟨a0, a1⟩ := (hS.b w.heap.size [.int .i64 px, .int .i64 py] (by simp)).h2''
  obtain ⟨b0, b1⟩ := (hS.b (w.heap.size + 1) [.int .i64 qx, .int .i64 qy] (by simp)).h2''
  clear hS
  obtain ⟨u1, u2⟩ := WX.out
  obtain ⟨v1, v2⟩ := WY.out
  go_quiet (fail)
  clear a0 a1 b0 b1
  go_wp2_with fail
  (try simp only [v1, v2])
  refine calls_gen (S := fun W => St w W [(w.heap.size, [.int .i64 px, .int .i64 py]), (w.heap.size + 1, [.int .i64 qx, .int .i64 qy]), (w.heap.size + 1 + 1, [.int .i64 0, .int .u64 0])]) (K0.out.step (by first | exact below_drewN (below_drewN (Below.refl _ _) _) _ | exact below_drewN (Below.refl _ _) _)) (fun W1 hS => ?_)
  have K1 := Lib.hid hS
  clear hS K0 u1 u2 v1 v2
  refine (X1.out _).mono ?_
  rintro e w2 ⟨rfl, h⟩
  have K2 := Lib.hid (K1.out.step h)
  clear h K1
  go_wp2_with fail
  refine (X2.out _).mono ?_
  rintro e w3 ⟨rfl, h⟩
  have K3 := Lib.hid (K2.out.step h)
  clear h K2
  go_wp2_with fail
  refine (X3.out _).mono ?_
  rintro e w4 ⟨rfl, h⟩
  have K4 := Lib.hid (K3.out.step h)
  clear h K3
  have K5 := (K4.out.b (w.heap.size + 1 + 1) [.int .i64 0, .int .u64 0] (by simp))
  have r0 := K5.c 0 _ rfl
  have r1 := K5.c 1 _ rfl
  have rf := K5.f
  have hl := K5.lt
  have Z := (sp_put2 K5 (.int .i64 (hiW s)) (.int .u64 (loW s))).alloc (.cells #[.int .i64 (hiW s), .int .u64 (loW s)] 52)
  have z0 := Z.c 0 _ rfl
  have z1 := Z.c 1 _ rfl
  clear K5 Z
  go_wp2
  exact bodyPost_ret (v := .agg #[.int .i64 (hiW s), .int .u64 (loW s)]) (by simp [results, Try.results36, go_sem, z0, z1]) rfl ⟨rfl, (sp_bel2 K4.out.l (by omega) _ _).alloc (by simp only [set_size]; omega) _⟩
/-- a round of Nearest: the samples, the place in block p, the least in block q -/
structure NrP (w W : World) (a : Option Addr) (n c : Nat) (X Y : Nat → Int) (p q : Nat) (px py bst : Int) : Prop where
  d : Dots W a n c X Y
  P : BW W p [.int .i64 px, .int .i64 py]
  Q : BW W q [.int .i64 (hiW bst), .int .u64 (loW bst)]
  l : Below w.heap.size w W
  z : w.heap.size ≤ q
  e : p ≠ q
  s : 0 < n → ∀ r, a = some r → r.block < w.heap.size
theorem NrP.step {w W W' : World} {a : Option Addr} {n c : Nat} {X Y : Nat → Int} {p q : Nat} {px py bst : Int} (K : NrP w W a n c X Y p q px py bst) (h : Below W.heap.size W W') : NrP w W' a n c X Y p q px py bst :=
  ⟨K.d.below h (Nat.le_refl _), K.P.below h K.P.lt, K.Q.below h K.Q.lt, K.l.trans (h.mono K.l.size), K.z, K.e, K.s⟩
theorem NrP.put {w W : World} {a : Option Addr} {n c : Nat} {X Y : Nat → Int} {p q : Nat} {px py bst : Int} (K : NrP w W a n c X Y p q px py bst) (A : Int) :
    NrP w ((W.setCell ⟨q, 0, none⟩ (.int .i64 (hiW A))).setCell ⟨q, 1, none⟩ (.int .u64 (loW A))) a n c X Y p q px py A := by
  have F : Below w.heap.size W ((W.setCell ⟨q, 0, none⟩ (.int .i64 (hiW A))).setCell ⟨q, 1, none⟩ (.int .u64 (loW A))) := ((Below.refl w.heap.size W).setCell (p := ⟨q, 0, none⟩) K.z _).setCell (p := ⟨q, 1, none⟩) K.z _
  refine ⟨⟨K.d.hm, K.d.hl, K.d.wf, fun h0 => ?_⟩, (K.P.far (fun e => K.e e.symm) 0 _).far (fun e => K.e e.symm) 1 _, (K.Q.put (i := 0) _ _ rfl).put (i := 1) _ _ rfl, K.l.trans F, K.z, K.e, K.s⟩
  obtain ⟨m, off, e, hm, hc⟩ := K.d.at' h0
  have hb : m < w.heap.size := K.s h0 _ e
  exact ⟨m, off, e, by have := F.size; omega, fun i hi => ⟨(F.cell (p := ⟨m, _, none⟩) hb).trans (hc i hi).1, (F.cell (p := ⟨m, _, none⟩) hb).trans (hc i hi).2⟩⟩
theorem hl_zero : hiW 0 = 0 ∧ loW 0 = 0 := by decide
set_option maxRecDepth 100000 in
set_option maxHeartbeats 8000000 in
theorem spNearest_any (a : Option Addr) (n c : Nat) (X Y : Nat → Int) (px py : Int) (w : World) (hmax : n ≤ 1000) (D : Dots w a n c X Y) (hx : In64 px) (hy : In64 py) :
    Calls Try.prog 20 #[.slice a n c, .agg #[.int .i64 px, .int .i64 py]] w fun e w' => e = .returned (.int .i64 (nearestI n X Y px py)) ∧ Below w.heap.size w w' := by
  obtain ⟨r, hr⟩ : ∃ r, nearestI n X Y px py = r := ⟨_, rfl⟩
  rw [hr]
  have HR := Lib.hid hr
  have V1 := Lib.hid (fun (W : World) (D : Dots W a n c X Y) => spWithin_any a n c X Y W hmax D)
  have V2 := Lib.hid (fun (m : Nat) (W : World) (B : BW W m [.int .i64 px, .int .i64 py]) => spWithin_any (some ⟨m, 0, none⟩) 1 1 (fun _ => px) (fun _ => py) W (by omega) (dots1 B hx hy))
  rw [near1] at V2
  have HD := Lib.hid D
  have HS := Lib.hid (fun (h0 : 0 < n) (q : Addr) (e : a = some q) => show q.block < w.heap.size by obtain ⟨m, off, e2, hm, _⟩ := D.at' h0; rw [e2] at e; cases e; exact hm)
  clear D hr
  by_cases h2 : Rg px ∧ Rg py
  rotate_left
  · rw [decide_eq_false h2] at V2
    have E := Lib.hid (show -1 = r by rw [← HR.out]; unfold nearestI; rw [if_neg (fun k => h2 k.2)])
    clear HR h2 V1
    go_enter Try.func20, Try.ntmps20
    go_wp2_with fail
    refine calls_gen (S := fun W => BW W (w.heap.size + 1) [.int .i64 px, .int .i64 py] ∧ Below w.heap.size w W) ⟨BW.new _ _ [_, _] _ (by simp), by repeat (first | exact Below.refl _ _ | assumption | refine Below.setCell ?_ (by first | omega | (simp; done) | (simp; omega)) _ | refine Below.alloc ?_ (by first | omega | (simp; done) | (simp; omega)) _ | refine below_drewN ?_ _ | refine Below.drew ?_ | refine Below.trans ?_ (Below.mono (by assumption) (by first | omega | (simp; done) | (simp; omega))))⟩ (fun W0 hS => ?_)
    have B0 := Lib.hid hS.2
    refine (V2.out _ _ hS.1).mono ?_
    rintro e w1 ⟨rfl, h⟩
    have B1 := Lib.hid (B0.out.trans (h.mono B0.out.size))
    clear h hS B0
    go_wp2
    go_ret
    exact ⟨retI E.out, B1.out⟩
  rw [decide_eq_true h2] at V2
  by_cases h1 : nearN n X Y
  rotate_left
  · rw [decide_eq_false h1] at V1
    have E := Lib.hid (show -1 = r by rw [← HR.out]; unfold nearestI; rw [if_neg (fun k => h1 k.1)])
    clear HR h1 h2
    go_enter Try.func20, Try.ntmps20
    go_wp2_with fail
    refine calls_gen (S := fun W => BW W (w.heap.size + 1) [.int .i64 px, .int .i64 py] ∧ Below w.heap.size w W) ⟨BW.new _ _ [_, _] _ (by simp), by repeat (first | exact Below.refl _ _ | assumption | refine Below.setCell ?_ (by first | omega | (simp; done) | (simp; omega)) _ | refine Below.alloc ?_ (by first | omega | (simp; done) | (simp; omega)) _ | refine below_drewN ?_ _ | refine Below.drew ?_ | refine Below.trans ?_ (Below.mono (by assumption) (by first | omega | (simp; done) | (simp; omega))))⟩ (fun W0 hS => ?_)
    have B0 := Lib.hid hS.2
    refine (V2.out _ _ hS.1).mono ?_
    rintro e w1 ⟨rfl, h⟩
    have B1 := Lib.hid (B0.out.trans (h.mono B0.out.size))
    clear h hS B0
    go_wp2_with fail
    refine (V1.out _ (HD.out.below (B1.out) (Nat.le_refl _))).mono ?_
    rintro e w2 ⟨rfl, h⟩
    have B2 := Lib.hid (B1.out.trans (h.mono B1.out.size))
    clear h B1
    go_wp2
    go_ret
    exact ⟨retI E.out, B2.out⟩
  rw [decide_eq_true h1] at V1
  have E := Lib.hid (show nrU X Y px py n = r by rw [← HR.out]; unfold nearestI; rw [if_pos ⟨h1, h2⟩])
  have N1 := Lib.hid h1
  have N2 := Lib.hid h2
  clear HR h1 h2
  go_enter Try.func20, Try.ntmps20
  go_wp2_with fail
  refine calls_gen (S := fun W => (BW W (w.heap.size + 1) [.int .i64 px, .int .i64 py] ∧ BW W w.heap.size [.int .i64 px, .int .i64 py]) ∧ Below w.heap.size w W) ⟨⟨BW.new _ _ [_, _] _ (by simp), (BW.new w w.heap.size [_, _] _ rfl).alloc _⟩, by repeat (first | exact Below.refl _ _ | assumption | refine Below.setCell ?_ (by first | omega | (simp; done) | (simp; omega)) _ | refine Below.alloc ?_ (by first | omega | (simp; done) | (simp; omega)) _ | refine below_drewN ?_ _ | refine Below.drew ?_ | refine Below.trans ?_ (Below.mono (by assumption) (by first | omega | (simp; done) | (simp; omega))))⟩ (fun W0 hS => ?_)
  have B0 := Lib.hid hS.2
  have P0 := Lib.hid hS.1.2
  refine (V2.out _ _ hS.1.1).mono ?_
  rintro e w1 ⟨rfl, h⟩
  have B1 := Lib.hid (B0.out.trans (h.mono B0.out.size))
  have P1 := Lib.hid (P0.out.below h P0.out.lt)
  clear h hS B0 P0
  go_wp2_with fail
  refine (V1.out _ (HD.out.below (B1.out) (Nat.le_refl _))).mono ?_
  rintro e w2 ⟨rfl, h⟩
  have B2 := Lib.hid (B1.out.trans (h.mono B1.out.size))
  have P2 := Lib.hid (P1.out.below h P1.out.lt)
  clear h B1 P1 V1 V2
  have K0 := Lib.hid (show NrP w (w2.alloc (.cells #[.int .i64 0, .int .u64 0] 52)) a n c X Y w.heap.size w2.heap.size px py (bstU X Y px py 0) from
    ⟨HD.out.below (B2.out.alloc B2.out.size _) (Nat.le_refl _), P2.out.alloc _, by rw [show bstU X Y px py 0 = 0 from rfl, hl_zero.1, hl_zero.2]; exact BW.new _ _ [_, _] _ rfl, B2.out.alloc B2.out.size _, B2.out.size, by have := P2.out.lt; omega, HS.out⟩)
  clear B2 P2 HD HS
  go_wp2_with fail
  generalize hW3 : w2.alloc (.cells #[.int .i64 0, .int .u64 0] 52) = W3 at *
  clear hW3
  generalize w2.heap.size = nb at *
  go_loopw [5, 22] (fun v i wr => ∃ j : Nat, j ≤ n ∧ i = .int .i64 j ∧ v = .int .i64 (nrU X Y px py j) ∧ NrP w wr a n c X Y w.heap.size nb px py (bstU X Y px py j)) (fun _ i _ => n - (intOf i).toNat)
  case atStart => exact ⟨0, by omega, rfl, rfl, K0.out⟩
  case round =>
    obtain ⟨j, hj, rfl, rfl, hK⟩ := hrel
    have K1 := Lib.hid hK
    clear hK K0
    by_cases hlj : j < n
    · obtain ⟨m, off, ha, hm, hcell⟩ := K1.out.d.at' (by omega)
      subst ha
      obtain ⟨c0, c1⟩ := hcell j hlj
      obtain ⟨p0, p1⟩ := K1.out.P.h2''
      have z0 : (0 : Int) ≤ (j : Int) := by omega
      have z1 : (j : Int) < (n : Int) := by omega
      have hwl : w.heap.size < wr.heap.size := K1.out.P.lt
      have SQ := Lib.hid (fun (W : World) => spSquare_any px py (X j) (Y j) (dSq X Y px py j) W N2.out (N1.out j hlj) rfl)
      have fit : ∀ i, i < n → In128 (dSq X Y px py i) := fun i hi => by
        have a := N1.out i hi
        have b := N2.out
        unfold Rg at a b
        exact (sq_fit (x := X i - px) (y := Y i - py) (by omega) (by omega)).2.2.2
      have I1 : In128 (dSq X Y px py j) := fit j hlj
      have ST := nrU_step X Y px py j
      have S1 := Lib.hid ST.1
      have S2 := Lib.hid ST.2
      have FI := Lib.hid fit
      clear hcell ST fit
      go_wp2_with fail
      refine calls_gen (S := fun W => NrP w W (some ⟨m, off, none⟩) n c X Y w.heap.size nb px py (bstU X Y px py j)) (K1.out.step (by repeat (first | exact Below.refl _ _ | assumption | refine Below.setCell ?_ (by first | omega | (simp; done) | (simp; omega)) _ | refine Below.alloc ?_ (by first | omega | (simp; done) | (simp; omega)) _ | refine below_drewN ?_ _ | refine Below.drew ?_ | refine Below.trans ?_ (Below.mono (by assumption) (by first | omega | (simp; done) | (simp; omega)))))) (fun W2 hS => ?_)
      have K2 := Lib.hid hS
      clear hS K1 c0 c1 p0 p1
      refine (SQ.out _).mono ?_
      rintro e w3 ⟨rfl, h⟩
      have K3 := Lib.hid (K2.out.step h)
      clear h K2 SQ hwl hm
      have hbq : nb < w3.heap.size := K3.out.Q.lt
      by_cases hat : j = 0
      · subst hat
        have SS := Lib.hid (S1.out (Or.inl (by show (-1 : Int) < 0; omega)))
        clear S1 S2 FI
        have hne : nb ≠ w3.heap.size := by omega
        go_wp2_with fail
        refine wp_gen (S := fun W => NrP w W (some ⟨m, off, none⟩) n c X Y w.heap.size nb px py (bstU X Y px py 0) ∧ BW W w3.heap.size [.int .i64 (hiW (dSq X Y px py 0)), .int .u64 (loW (dSq X Y px py 0))]) ⟨K3.out.step ((Below.refl _ _).alloc (Nat.le_refl _) _), BW.new w3 _ [_, _] _ rfl⟩ (fun W8 hS => ?_)
        have K8 := Lib.hid (hS.1.step (Below.refl _ _).drew)
        have A8 := Lib.hid hS.2.drew
        clear hS
        refine wp_region_held_drew (S := fun W => W.cell? ⟨w3.heap.size, 0, none⟩ = some (.int .i64 (hiW (dSq X Y px py 0))) ∧ W.cell? ⟨w3.heap.size, 1, none⟩ = some (.int .u64 (loW (dSq X Y px py 0)))) (by kernel_rfl) A8.out.h2'' (fun hHeld => ?_)
        generalize World.drew _ = w8 at *
        refine wpAnyH_takeD 0 38 (v := ?_) (by kernel_rfl) (by kernel_rfl) (by kernel_rfl) (by kernel_rfl) (by rfl) (fun _ _ _ h => h) ?_ hHeld ?_
        rotate_left 1
        (intro o ho W hSw; simp only [List.getElem?_toArray, List.getElem?_cons_succ, List.getElem?_cons_zero, Option.some.injEq] at ho; subst ho; (try dsimp only at hSw); go_simp; try with_reducible rfl)
        (try simp only [Act.put, List.setIfInBounds_toArray, List.set_cons_zero, List.set_cons_succ])
        refine wpAnyH_takeD 1 39 (v := ?_) (by kernel_rfl) (by kernel_rfl) (by kernel_rfl) (by kernel_rfl) (by rfl) (fun _ _ _ h => h) ?_ hHeld ?_
        rotate_left 1
        (intro o ho W hSw; simp only [List.getElem?_toArray, List.getElem?_cons_succ, List.getElem?_cons_zero, Option.some.injEq] at ho; subst ho; (try dsimp only at hSw); go_simp; try with_reducible rfl)
        (try simp only [Act.put, List.setIfInBounds_toArray, List.set_cons_zero, List.set_cons_succ])
        refine wpAnyH_takeD 2 5 (v := ?_) (by kernel_rfl) (by kernel_rfl) (by kernel_rfl) (by kernel_rfl) (by rfl) (fun _ _ _ h => h) ?_ hHeld ?_
        rotate_left 1
        (intro o ho W hSw; simp only [List.getElem?_toArray, List.getElem?_cons_succ, List.getElem?_cons_zero, Option.some.injEq] at ho; subst ho; (try dsimp only at hSw); go_simp; try with_reducible rfl)
        (try simp only [Act.put, List.setIfInBounds_toArray, List.set_cons_zero, List.set_cons_succ])
        obtain ⟨b0, b1⟩ := K8.out.Q.h2''
        have qf := K8.out.Q.f
        refine wpAnyH_onlyD 3 (by kernel_rfl) (fun o ho K hK => ?_) (by kernel_rfl)
        simp only [List.getElem?_toArray, List.getElem?_cons_succ, List.getElem?_cons_zero, Option.some.injEq] at ho
        subst ho
        go_simp
        refine hK.out _ _ ((sp_far2 A8.out hne _ _).h2'') ?_
        clear hK K hHeld
        intro hHeld
        refine wpAnyH_done (by kernel_rfl) ?_ _
        clear hHeld
        go_wp2
        go_roundw
        case rel => exact ⟨0 + 1, by omega, by go_num, by first | (rw [SS.out.1]; done) | (rw [SS.out.1]; rfl), by rw [SS.out.2]; exact K8.out.put _⟩
        case measure => simp [intOf]; omega
      · have hj0 : 0 < j := Nat.pos_of_ne_zero hat
        have g0 : ((j : Int) == 0) = false := beq_false_of_ne (fun e => hat (Int.ofNat_eq_zero.mp e))
        have B := nrU_is X Y px py j hj0
        have IB : In128 (bstU X Y px py j) := by
          unfold bstU
          rw [if_neg (by omega)]
          exact FI.out _ (by omega)
        have M4 := Lib.hid (fun (W : World) => Cmp_n (dSq X Y px py j) (bstU X Y px py j) W I1 IB)
        have S3 := Lib.hid (fun (h : ¬ dSq X Y px py j < bstU X Y px py j) => S2.out (fun k => by rcases k with k | k; exact absurd k (by omega); exact h k))
        obtain ⟨b0, b1⟩ := K3.out.Q.h2''
        clear B IB FI S2
        go_wp2_with fail
        refine calls_gen (S := fun W => NrP w W (some ⟨m, off, none⟩) n c X Y w.heap.size nb px py (bstU X Y px py j) ∧ BW W w3.heap.size [.int .i64 (hiW (dSq X Y px py j)), .int .u64 (loW (dSq X Y px py j))]) ⟨K3.out.step ((Below.refl _ _).alloc (Nat.le_refl _) _), BW.new w3 _ [_, _] _ rfl⟩ (fun W6 hS => ?_)
        have K6 := Lib.hid hS.1
        have A6 := Lib.hid hS.2
        clear hS K3 b0 b1
        refine (M4.out _).mono ?_
        rintro e w7 ⟨rfl, h⟩
        have K7 := Lib.hid (K6.out.step h)
        have A7 := Lib.hid (A6.out.below h A6.out.lt)
        have hne : nb ≠ w3.heap.size := by omega
        clear h K6 A6 M4
        by_cases hc : dSq X Y px py j < bstU X Y px py j
        · have SS := Lib.hid (S1.out (Or.inr hc))
          have g1 : cmpI (dSq X Y px py j) (bstU X Y px py j) < 0 := cmpI_lt hc
          clear S1 S3
          go_wp2_with fail
          refine wp_gen (S := fun W => NrP w W (some ⟨m, off, none⟩) n c X Y w.heap.size nb px py (bstU X Y px py j) ∧ BW W w3.heap.size [.int .i64 (hiW (dSq X Y px py j)), .int .u64 (loW (dSq X Y px py j))]) ⟨K7.out, A7.out⟩ (fun W8 hS => ?_)
          have K8 := Lib.hid (hS.1.step (Below.refl _ _).drew)
          have A8 := Lib.hid hS.2.drew
          clear hS
          refine wp_region_held_drew (S := fun W => W.cell? ⟨w3.heap.size, 0, none⟩ = some (.int .i64 (hiW (dSq X Y px py j))) ∧ W.cell? ⟨w3.heap.size, 1, none⟩ = some (.int .u64 (loW (dSq X Y px py j)))) (by kernel_rfl) A8.out.h2'' (fun hHeld => ?_)
          generalize World.drew _ = w8 at *
          refine wpAnyH_takeD 0 38 (v := ?_) (by kernel_rfl) (by kernel_rfl) (by kernel_rfl) (by kernel_rfl) (by rfl) (fun _ _ _ h => h) ?_ hHeld ?_
          rotate_left 1
          (intro o ho W hSw; simp only [List.getElem?_toArray, List.getElem?_cons_succ, List.getElem?_cons_zero, Option.some.injEq] at ho; subst ho; (try dsimp only at hSw); go_simp; try with_reducible rfl)
          (try simp only [Act.put, List.setIfInBounds_toArray, List.set_cons_zero, List.set_cons_succ])
          refine wpAnyH_takeD 1 39 (v := ?_) (by kernel_rfl) (by kernel_rfl) (by kernel_rfl) (by kernel_rfl) (by rfl) (fun _ _ _ h => h) ?_ hHeld ?_
          rotate_left 1
          (intro o ho W hSw; simp only [List.getElem?_toArray, List.getElem?_cons_succ, List.getElem?_cons_zero, Option.some.injEq] at ho; subst ho; (try dsimp only at hSw); go_simp; try with_reducible rfl)
          (try simp only [Act.put, List.setIfInBounds_toArray, List.set_cons_zero, List.set_cons_succ])
          refine wpAnyH_takeD 2 5 (v := ?_) (by kernel_rfl) (by kernel_rfl) (by kernel_rfl) (by kernel_rfl) (by rfl) (fun _ _ _ h => h) ?_ hHeld ?_
          rotate_left 1
          (intro o ho W hSw; simp only [List.getElem?_toArray, List.getElem?_cons_succ, List.getElem?_cons_zero, Option.some.injEq] at ho; subst ho; (try dsimp only at hSw); go_simp; try with_reducible rfl)
          (try simp only [Act.put, List.setIfInBounds_toArray, List.set_cons_zero, List.set_cons_succ])
          obtain ⟨b0, b1⟩ := K8.out.Q.h2''
          have qf := K8.out.Q.f
          refine wpAnyH_onlyD 3 (by kernel_rfl) (fun o ho K hK => ?_) (by kernel_rfl)
          simp only [List.getElem?_toArray, List.getElem?_cons_succ, List.getElem?_cons_zero, Option.some.injEq] at ho
          subst ho
          go_simp
          refine hK.out _ _ ((sp_far2 A8.out hne _ _).h2'') ?_
          clear hK K hHeld
          intro hHeld
          refine wpAnyH_done (by kernel_rfl) ?_ _
          clear hHeld
          go_wp2
          go_roundw
          case rel => exact ⟨j + 1, by omega, by go_num, by first | (rw [SS.out.1]; done) | (rw [SS.out.1]; rfl), by rw [SS.out.2]; exact K8.out.put _⟩
          case measure => simp [intOf]; omega
        · have SS := Lib.hid (S3.out (by omega))
          have g1 : ¬ cmpI (dSq X Y px py j) (bstU X Y px py j) < 0 := by have := cmpI_ge (show bstU X Y px py j ≤ dSq X Y px py j by omega); omega
          clear S1 S3
          go_wp2
          go_roundw
          case rel => exact ⟨j + 1, by omega, by go_num, by rw [SS.out.1], by rw [SS.out.2]; exact K7.out⟩
          case measure => simp [intOf]; omega
    · have e : j = n := by omega
      subst e
      go_wp2
      go_ret
      exact ⟨retI E.out, K1.out.l⟩
end Go.Proofs.Ytjdhjabbojceeaa

/- The program's table: Eval; what table tells. -/
import Derived.Test.YtbggakbjppnchaaOm
namespace Go.Proofs.Ytbggakbjppnchaa
open Go.RowKit
set_option linter.unusedVariables false
set_option linter.unusedSimpArgs false

theorem bw_set {W : World} {n i : Nat} {l : List Value} (k : BW W n l) (v : Value) (u : Value) (hu : l[i]? = some u) : BW (W.setCell ⟨n, i, none⟩ v) n (l.set i v) := by
  refine ⟨fun j x h => ?_, fun j => (World.frozen?_setCell _ _ _ _).trans (k.f j), by rw [set_size]; exact k.lt⟩
  by_cases e : i = j
  · subst e
    have : x = v := by
      have hl : i < l.length := by
        apply Classical.byContradiction; intro c
        rw [List.getElem?_eq_none (by omega)] at hu; cases hu
      rw [List.getElem?_set_self hl] at h; cases h; rfl
    subst this
    exact World.cell?_setCell_same _ _ _ (k.c i u hu)
  · rw [List.getElem?_set_ne e] at h
    exact (World.cell?_setCell_other _ _ _ _ (fun h' => e (by cases h'; rfl))).trans (k.c j x h)
/-- two points in blocks of their own -/
structure TP (w W : World) (n1 n2 : Nat) (a1 a2 b1 b2 : Int) : Prop where
  a : BW W n1 [.int .i64 a1, .int .i64 a2]
  b : BW W n2 [.int .i64 b1, .int .i64 b2]
  p : w.heap.size ≤ n1
  q : w.heap.size ≤ n2
  ne : n1 ≠ n2
  l : Below w.heap.size w W
theorem TP.one {w W : World} {n1 n2 : Nat} {a1 a2 b1 b2 : Int} (t : TP w W n1 n2 a1 a2 b1 b2) (x y : Int) : TP w ((W.setCell ⟨n1, 0, none⟩ (.int .i64 x)).setCell ⟨n1, 1, none⟩ (.int .i64 y)) n1 n2 x y b1 b2 :=
  ⟨bw_set (i := 1) (bw_set (i := 0) t.a (.int .i64 x) _ rfl) (.int .i64 y) _ rfl, (t.b.far t.ne 0 _).far t.ne 1 _, t.p, t.q, t.ne, (t.l.setCell t.p _).setCell t.p _⟩
theorem TP.two {w W : World} {n1 n2 : Nat} {a1 a2 b1 b2 : Int} (t : TP w W n1 n2 a1 a2 b1 b2) (x y : Int) : TP w ((W.setCell ⟨n2, 0, none⟩ (.int .i64 x)).setCell ⟨n2, 1, none⟩ (.int .i64 y)) n1 n2 a1 a2 x y :=
  ⟨(t.a.far t.ne.symm 0 _).far t.ne.symm 1 _, bw_set (i := 1) (bw_set (i := 0) t.b (.int .i64 x) _ rfl) (.int .i64 y) _ rfl, t.p, t.q, t.ne, (t.l.setCell t.q _).setCell t.q _⟩
set_option maxRecDepth 100000 in
set_option maxHeartbeats 8000000 in
theorem tEval_any (a : Option Addr) (len cap : Nat) (X Y : Nat → Int) (x : Int) (b k : Nat) (o : Bool) (w : World) (hmax : len ≤ 100) (hx : In64 x) (hne : 0 < len → ∀ p, a = some p → p.block ≠ b) (D : Dots w a len cap X Y) (m : MAt w b k o) :
    Calls Try.prog 29 #[.pointer (some ⟨b, k, none⟩), .slice a len cap, .int .i64 x] w fun e w' => e = .returned (.int .i64 (evalN len X Y x)) ∧ FxW w.heap.size w b k (o || evalO len X Y x) w' := by
  have HD := Lib.hid D
  have HM := Lib.hid m
  have hlt := m.lt
  clear D m
  by_cases l0 : len = 0
  · have E1 := Lib.hid (show evalN len X Y x = 0 ∧ (o || evalO len X Y x) = o by unfold evalN evalO; rw [if_pos l0, if_pos l0]; simp)
    rw [E1.out.1, E1.out.2]
    go_enter Try.func29, Try.ntmps29
    go_wp2
    go_ret
    exact ⟨rfl, (Flag.start HM.out (Below.refl _ _)).f⟩
  · obtain ⟨n, hn⟩ : ∃ n, n + 1 = len := ⟨len - 1, by omega⟩
    obtain ⟨bs, off, rfl, hb, hcell⟩ := HD.out.at' (by omega)
    have n0 := (hcell n (by omega)).1
    have n1 := (hcell n (by omega)).2
    have z0 := (hcell 0 (by omega)).1
    have z1 := (hcell 0 (by omega)).2
    simp only [Nat.zero_mul, Nat.add_zero] at z0 z1
    have V := Lib.hid (wrap_last hn hmax)
    have hnl : n < len := by omega
    have en : len - 1 = n := by omega
    by_cases c1 : x ≤ X 0
    · have E1 := Lib.hid (show evalN len X Y x = Y 0 ∧ (o || evalO len X Y x) = o by unfold evalN evalO; rw [if_neg l0, if_neg l0, if_pos c1, if_pos c1]; simp)
      rw [E1.out.1, E1.out.2]
      obtain ⟨v1, v2⟩ := V.out
      go_enter Try.func29, Try.ntmps29
      go_wp2
      go_ret
      exact ⟨rfl, (Flag.start HM.out (by repeat (first | exact Below.refl _ _ | assumption | refine Below.setCell ?_ (by first | omega | (simp; done) | (simp; omega)) _ | refine Below.alloc ?_ (by first | omega | (simp; done) | (simp; omega)) _ | refine below_drewN ?_ _ | refine Below.drew ?_ | refine Below.trans ?_ (Below.mono (by assumption) (by first | omega | (simp; done) | (simp; omega)))))).f⟩
    · by_cases c2 : X n ≤ x
      · have E1 := Lib.hid (show evalN len X Y x = Y n ∧ (o || evalO len X Y x) = o by unfold evalN evalO; rw [if_neg l0, if_neg l0, if_neg c1, if_neg c1, en, if_pos c2, if_pos c2]; simp)
        rw [E1.out.1, E1.out.2]
        obtain ⟨v1, v2⟩ := V.out
        go_enter Try.func29, Try.ntmps29
        go_wp2
        go_ret
        exact ⟨rfl, (Flag.start HM.out (by repeat (first | exact Below.refl _ _ | assumption | refine Below.setCell ?_ (by first | omega | (simp; done) | (simp; omega)) _ | refine Below.alloc ?_ (by first | omega | (simp; done) | (simp; omega)) _ | refine below_drewN ?_ _ | refine Below.drew ?_ | refine Below.trans ?_ (Below.mono (by assumption) (by first | omega | (simp; done) | (simp; omega)))))).f⟩
      · have n2 : 0 < n := by
          apply Classical.byContradiction; intro g
          have : n = 0 := by omega
          rw [this] at c2; omega
        obtain ⟨c, hc⟩ : ∃ c, cellUp X x n = c := ⟨_, rfl⟩
        have hcn : c + 1 ≤ n := by have := cellUp_le X x n; omega
        have XC := Lib.hid (fun (W : World) (D : Dots W (some ⟨bs, off, none⟩) len cap X Y) => tCell_any (some ⟨bs, off, none⟩) len cap X Y x W hmax hx D)
        rw [en, hc] at XC
        have i0 := (hcell c (by omega)).1
        have i1 := (hcell c (by omega)).2
        have j0 := (hcell (c + 1) (by omega)).1
        have j1 := (hcell (c + 1) (by omega)).2
        have e2 : off + (c + 1) * 2 = off + c * 2 + 2 := by omega
        have w0 := Lib.hid (HD.out.wf c (by omega))
        have w1' := Lib.hid (HD.out.wf (c + 1) (by omega))
        have E1 := Lib.hid (show segF (X c) (X (c + 1)) (Y c) (Y (c + 1)) x = evalN len X Y x ∧ (o || segO (X c) (X (c + 1)) (Y c) (Y (c + 1)) x) = (o || evalO len X Y x) by
          unfold evalN evalO; rw [if_neg l0, if_neg l0, if_neg c1, if_neg c1, en, if_neg c2, if_neg c2, hc]; exact ⟨rfl, rfl⟩)
        rw [← E1.out.1, ← E1.out.2]
        clear E1 hc
        have hnn : n ≤ 99 := by omega
        clear hcell e2 en hn l0
        obtain ⟨d, hd⟩ : ∃ d, c + 1 = d := ⟨_, rfl⟩
        rw [hd] at j0 j1 w1' ⊢
        have hdl : d < len := by omega
        have hcl : c < len := by omega
        obtain ⟨v3, v4, v5, v6⟩ := wrap_next hd hdl hmax
        obtain ⟨v1, v2⟩ := V.out
        clear hd hcn hnn
        have SC := Lib.hid (fun (W : World) (h : Below w.heap.size w W) => show (W.cell? ⟨bs, off + c * 2, none⟩ = some (.int .i64 (X c)) ∧ W.cell? ⟨bs, off + c * 2 + 1, none⟩ = some (.int .i64 (Y c))) ∧ (W.cell? ⟨bs, off + d * 2, none⟩ = some (.int .i64 (X d)) ∧ W.cell? ⟨bs, off + d * 2 + 1, none⟩ = some (.int .i64 (Y d))) from ⟨⟨(h.cell (p := ⟨bs, off + c * 2, none⟩) hb).trans i0, (h.cell (p := ⟨bs, off + c * 2 + 1, none⟩) hb).trans i1⟩, ⟨(h.cell (p := ⟨bs, off + d * 2, none⟩) hb).trans j0, (h.cell (p := ⟨bs, off + d * 2 + 1, none⟩) hb).trans j1⟩⟩)
        clear i0 i1 j0 j1
        go_enter Try.func29, Try.ntmps29
        go_wp2_with fail
        refine (XC.out _ HD.out).mono ?_
        rintro e w1 ⟨rfl, h⟩
        have B0 := Lib.hid h.drew
        have IA := Lib.hid (And.intro (show In64 (X c) from bounds_i64 w0.out.1) (show In64 (Y c) from bounds_i64 w0.out.2))
        have IB := Lib.hid (And.intro (show In64 (X d) from bounds_i64 w1'.out.1) (show In64 (Y d) from bounds_i64 w1'.out.2))
        clear h n0 n1 z0 z1 w0 w1' XC c1 c2
        go_wp2_with fail
        go_cut [9, 10] (fun u v W => ∃ n1 n2 : Nat, u = .pointer (some ⟨n1, 0, none⟩) ∧ v = .pointer (some ⟨n2, 0, none⟩) ∧ TP w W n1 n2 (X c) (Y c) (X d) (Y d))
        case first =>
          refine wp_region_held_drew (S := fun W => (W.cell? ⟨bs, off + c * 2, none⟩ = some (.int .i64 (X c)) ∧ W.cell? ⟨bs, off + c * 2 + 1, none⟩ = some (.int .i64 (Y c))) ∧ (W.cell? ⟨bs, off + d * 2, none⟩ = some (.int .i64 (X d)) ∧ W.cell? ⟨bs, off + d * 2 + 1, none⟩ = some (.int .i64 (Y d)))) (by kernel_rfl) (SC.out _ B0.out) (fun hHeld => ?_)
          generalize w1.drew = w0 at *
          refine wpAnyH_takeD 0 44 (v := ?_) (by kernel_rfl) (by kernel_rfl) (by kernel_rfl) (by kernel_rfl) (by rfl) (fun _ _ _ h => h) ?_ hHeld ?_
          rotate_left 1
          (intro o ho W hSw; simp only [List.getElem?_toArray, List.getElem?_cons_succ, List.getElem?_cons_zero, Option.some.injEq] at ho; subst ho; (try dsimp only at hSw); go_simp; try with_reducible rfl)
          (try simp only [Act.put, List.setIfInBounds_toArray, List.set_cons_zero, List.set_cons_succ])
          refine wpAnyH_takeD 1 45 (v := ?_) (by kernel_rfl) (by kernel_rfl) (by kernel_rfl) (by kernel_rfl) (by rfl) (fun _ _ _ h => h) ?_ hHeld ?_
          rotate_left 1
          (intro o ho W hSw; simp only [List.getElem?_toArray, List.getElem?_cons_succ, List.getElem?_cons_zero, Option.some.injEq] at ho; subst ho; (try dsimp only at hSw); go_simp; try with_reducible rfl)
          (try simp only [Act.put, List.setIfInBounds_toArray, List.set_cons_zero, List.set_cons_succ])
          refine wpAnyH_takeD 2 46 (v := ?_) (by kernel_rfl) (by kernel_rfl) (by kernel_rfl) (by kernel_rfl) (by rfl) (fun _ _ _ h => h) ?_ hHeld ?_
          rotate_left 1
          (intro o ho W hSw; simp only [List.getElem?_toArray, List.getElem?_cons_succ, List.getElem?_cons_zero, Option.some.injEq] at ho; subst ho; (try dsimp only at hSw); go_simp; try with_reducible rfl)
          (try simp only [Act.put, List.setIfInBounds_toArray, List.set_cons_zero, List.set_cons_succ])
          refine wpAnyH_takeD 3 47 (v := ?_) (by kernel_rfl) (by kernel_rfl) (by kernel_rfl) (by kernel_rfl) (by rfl) (fun _ _ _ h => h) ?_ hHeld ?_
          rotate_left 1
          (intro o ho W hSw; simp only [List.getElem?_toArray, List.getElem?_cons_succ, List.getElem?_cons_zero, Option.some.injEq] at ho; subst ho; (try dsimp only at hSw); go_simp; try with_reducible rfl)
          (try simp only [Act.put, List.setIfInBounds_toArray, List.set_cons_zero, List.set_cons_succ])
          refine wpAnyH_takeD 4 48 (v := ?_) (by kernel_rfl) (by kernel_rfl) (by kernel_rfl) (by kernel_rfl) (by rfl) (fun _ _ _ h => h) ?_ hHeld ?_
          rotate_left 1
          (intro o ho W hSw; simp only [List.getElem?_toArray, List.getElem?_cons_succ, List.getElem?_cons_zero, Option.some.injEq] at ho; subst ho; (try dsimp only at hSw); go_simp; try with_reducible rfl)
          (try simp only [Act.put, List.setIfInBounds_toArray, List.set_cons_zero, List.set_cons_succ])
          refine wpAnyH_takeD 5 49 (v := ?_) (by kernel_rfl) (by kernel_rfl) (by kernel_rfl) (by kernel_rfl) (by rfl) (fun _ _ _ h => h) ?_ hHeld ?_
          rotate_left 1
          (intro o ho W hSw; simp only [List.getElem?_toArray, List.getElem?_cons_succ, List.getElem?_cons_zero, Option.some.injEq] at ho; subst ho; (try dsimp only at hSw); go_simp; try with_reducible rfl)
          (try simp only [Act.put, List.setIfInBounds_toArray, List.set_cons_zero, List.set_cons_succ])
          refine wpAnyH_takeD 6 50 (v := ?_) (by kernel_rfl) (by kernel_rfl) (by kernel_rfl) (by kernel_rfl) (by rfl) (fun _ _ _ h => h) ?_ hHeld ?_
          rotate_left 1
          (intro o ho W hSw; simp only [List.getElem?_toArray, List.getElem?_cons_succ, List.getElem?_cons_zero, Option.some.injEq] at ho; subst ho; (try dsimp only at hSw); go_simp; try with_reducible rfl)
          (try simp only [Act.put, List.setIfInBounds_toArray, List.set_cons_zero, List.set_cons_succ])
          refine wpAnyH_takeD 7 51 (v := ?_) (by kernel_rfl) (by kernel_rfl) (by kernel_rfl) (by kernel_rfl) (by rfl) (fun _ _ _ h => h) ?_ hHeld ?_
          rotate_left 1
          (intro o ho W hSw; simp only [List.getElem?_toArray, List.getElem?_cons_succ, List.getElem?_cons_zero, Option.some.injEq] at ho; subst ho; (try dsimp only at hSw); go_simp; try with_reducible rfl)
          (try simp only [Act.put, List.setIfInBounds_toArray, List.set_cons_zero, List.set_cons_succ])
          refine wpAnyH_takeD 8 52 (v := ?_) (by kernel_rfl) (by kernel_rfl) (by kernel_rfl) (by kernel_rfl) (by rfl) (fun _ _ _ h => h) ?_ hHeld ?_
          rotate_left 1
          (intro o ho W hSw; simp only [List.getElem?_toArray, List.getElem?_cons_succ, List.getElem?_cons_zero, Option.some.injEq] at ho; subst ho; (try dsimp only at hSw); go_simp; try with_reducible rfl)
          (try simp only [Act.put, List.setIfInBounds_toArray, List.set_cons_zero, List.set_cons_succ])
          clear v1 v2 v3 v4 v5 v6
          refine wpAnyH_twoD 9 10 (by kernel_rfl) (fun o ho K hK => ?_) (fun o ho K hK => ?_) (by kernel_rfl) (by kernel_rfl)
          · skip
            simp only [List.getElem?_toArray, List.getElem?_cons_succ, List.getElem?_cons_zero, Option.some.injEq] at ho
            subst ho
            go_simp
            refine hK.out _ _ (SC.out _ (B0.out.alloc B0.out.size _)) ?_
            clear hK K hHeld
            intro hHeld
            (try have A1 := Lib.hid (A1.out.alloc (.cells #[.int .i64 0, .int .i64 0] 50)))
            have B1 := Lib.hid (B0.out.alloc B0.out.size (.cells #[.int .i64 0, .int .i64 0] 50))
            have A1 := Lib.hid (BW.new w0 w0.heap.size [.int .i64 0, .int .i64 0] 50 rfl)
            have qn1 : w.heap.size ≤ w0.heap.size := B0.out.size
            have rn1 : w0.heap.size < (w0.alloc (.cells #[.int .i64 0, .int .i64 0] 50)).heap.size := by simp
            generalize w0.alloc (.cells #[.int .i64 0, .int .i64 0] 50) = wa at *
            generalize w0.heap.size = n1 at *
            refine wpAnyH_onlyD 10 (by kernel_rfl) (fun o ho K hK => ?_) (by kernel_rfl)
            simp only [List.getElem?_toArray, List.getElem?_cons_succ, List.getElem?_cons_zero, Option.some.injEq] at ho
            subst ho
            go_simp
            refine hK.out _ _ (SC.out _ (B1.out.alloc B1.out.size _)) ?_
            clear hK K hHeld
            intro hHeld
            (try have A1 := Lib.hid (A1.out.alloc (.cells #[.int .i64 0, .int .i64 0] 50)))
            have B2 := Lib.hid (B1.out.alloc B1.out.size (.cells #[.int .i64 0, .int .i64 0] 50))
            have A2 := Lib.hid (BW.new wa wa.heap.size [.int .i64 0, .int .i64 0] 50 rfl)
            have qn2 : w.heap.size ≤ wa.heap.size := B1.out.size
            have rn2 : wa.heap.size < (wa.alloc (.cells #[.int .i64 0, .int .i64 0] 50)).heap.size := by simp
            generalize wa.alloc (.cells #[.int .i64 0, .int .i64 0] 50) = wb at *
            generalize wa.heap.size = n2 at *
            have T0 := Lib.hid (show TP w wb n1 n2 0 0 0 0 from ⟨A1.out, A2.out, qn1, qn2, by omega, B2.out⟩)
            clear A1 A2 B2
            refine wpAnyH_onlyD 11 (by kernel_rfl) (fun o ho K hK => ?_) (by kernel_rfl)
            simp only [List.getElem?_toArray, List.getElem?_cons_succ, List.getElem?_cons_zero, Option.some.injEq] at ho
            subst ho
            have k0 := T0.out.a.c 0 _ rfl
            have k1 := T0.out.a.c 1 _ rfl
            have kf := T0.out.a.f
            go_simp
            refine hK.out _ _ (SC.out _ (T0.out.one _ _).l) ?_
            clear hK K hHeld k0 k1 kf
            intro hHeld
            have T1 := Lib.hid (T0.out.one (X c) (Y c))
            clear T0
            refine wpAnyH_onlyD 12 (by kernel_rfl) (fun o ho K hK => ?_) (by kernel_rfl)
            simp only [List.getElem?_toArray, List.getElem?_cons_succ, List.getElem?_cons_zero, Option.some.injEq] at ho
            subst ho
            have k0 := T1.out.b.c 0 _ rfl
            have k1 := T1.out.b.c 1 _ rfl
            have kf := T1.out.b.f
            go_simp
            refine hK.out _ _ (SC.out _ (T1.out.two _ _).l) ?_
            clear hK K hHeld k0 k1 kf
            intro hHeld
            have T2 := Lib.hid (T1.out.two (X d) (Y d))
            clear T1
            refine wpAnyH_done (by kernel_rfl) ?_ _
            go_wp2_with fail
            go_meet
            exact ⟨n1, n2, rfl, rfl, T2.out⟩
          · skip
            simp only [List.getElem?_toArray, List.getElem?_cons_succ, List.getElem?_cons_zero, Option.some.injEq] at ho
            subst ho
            go_simp
            refine hK.out _ _ (SC.out _ (B0.out.alloc B0.out.size _)) ?_
            clear hK K hHeld
            intro hHeld
            (try have A1 := Lib.hid (A1.out.alloc (.cells #[.int .i64 0, .int .i64 0] 50)))
            have B1 := Lib.hid (B0.out.alloc B0.out.size (.cells #[.int .i64 0, .int .i64 0] 50))
            have A1 := Lib.hid (BW.new w0 w0.heap.size [.int .i64 0, .int .i64 0] 50 rfl)
            have qn2 : w.heap.size ≤ w0.heap.size := B0.out.size
            have rn2 : w0.heap.size < (w0.alloc (.cells #[.int .i64 0, .int .i64 0] 50)).heap.size := by simp
            generalize w0.alloc (.cells #[.int .i64 0, .int .i64 0] 50) = wa at *
            generalize w0.heap.size = n2 at *
            refine wpAnyH_onlyD 9 (by kernel_rfl) (fun o ho K hK => ?_) (by kernel_rfl)
            simp only [List.getElem?_toArray, List.getElem?_cons_succ, List.getElem?_cons_zero, Option.some.injEq] at ho
            subst ho
            go_simp
            refine hK.out _ _ (SC.out _ (B1.out.alloc B1.out.size _)) ?_
            clear hK K hHeld
            intro hHeld
            (try have A1 := Lib.hid (A1.out.alloc (.cells #[.int .i64 0, .int .i64 0] 50)))
            have B2 := Lib.hid (B1.out.alloc B1.out.size (.cells #[.int .i64 0, .int .i64 0] 50))
            have A2 := Lib.hid (BW.new wa wa.heap.size [.int .i64 0, .int .i64 0] 50 rfl)
            have qn1 : w.heap.size ≤ wa.heap.size := B1.out.size
            have rn1 : wa.heap.size < (wa.alloc (.cells #[.int .i64 0, .int .i64 0] 50)).heap.size := by simp
            generalize wa.alloc (.cells #[.int .i64 0, .int .i64 0] 50) = wb at *
            generalize wa.heap.size = n1 at *
            have T0 := Lib.hid (show TP w wb n1 n2 0 0 0 0 from ⟨A2.out, A1.out, qn1, qn2, by omega, B2.out⟩)
            clear A1 A2 B2
            refine wpAnyH_onlyD 11 (by kernel_rfl) (fun o ho K hK => ?_) (by kernel_rfl)
            simp only [List.getElem?_toArray, List.getElem?_cons_succ, List.getElem?_cons_zero, Option.some.injEq] at ho
            subst ho
            have k0 := T0.out.a.c 0 _ rfl
            have k1 := T0.out.a.c 1 _ rfl
            have kf := T0.out.a.f
            go_simp
            refine hK.out _ _ (SC.out _ (T0.out.one _ _).l) ?_
            clear hK K hHeld k0 k1 kf
            intro hHeld
            have T1 := Lib.hid (T0.out.one (X c) (Y c))
            clear T0
            refine wpAnyH_onlyD 12 (by kernel_rfl) (fun o ho K hK => ?_) (by kernel_rfl)
            simp only [List.getElem?_toArray, List.getElem?_cons_succ, List.getElem?_cons_zero, Option.some.injEq] at ho
            subst ho
            have k0 := T1.out.b.c 0 _ rfl
            have k1 := T1.out.b.c 1 _ rfl
            have kf := T1.out.b.f
            go_simp
            refine hK.out _ _ (SC.out _ (T1.out.two _ _).l) ?_
            clear hK K hHeld k0 k1 kf
            intro hHeld
            have T2 := Lib.hid (T1.out.two (X d) (Y d))
            clear T1
            refine wpAnyH_done (by kernel_rfl) ?_ _
            go_wp2_with fail
            go_meet
            exact ⟨n1, n2, rfl, rfl, T2.out⟩
        case rest =>
          obtain ⟨n1, n2, rfl, rfl, hT⟩ := hcut
          clear B0
          have A0 := Lib.hid hT.a.drew
          have B0 := Lib.hid hT.b.drew
          have G0 := Lib.hid ((Flag.start HM.out hT.l).more ((Below.refl _ _).drew))
          have e1 : b ≠ n1 := by have := hT.p; omega
          have e2 : b ≠ n2 := by have := hT.q; omega
          clear hT SC
          go_wp2_with fail
          refine wp_region_held_drew (S := fun W => (W.cell? ⟨n1, 0, none⟩ = some (.int .i64 (X c)) ∧ W.cell? ⟨n1, 1, none⟩ = some (.int .i64 (Y c))) ∧ (W.cell? ⟨n2, 0, none⟩ = some (.int .i64 (X d)) ∧ W.cell? ⟨n2, 1, none⟩ = some (.int .i64 (Y d)))) (by kernel_rfl) ⟨A0.out.h2'', B0.out.h2''⟩ (fun hHeld => ?_)
          generalize World.drew _ = W2 at *
          refine wpAnyH_takeD 0 53 (v := ?_) (by kernel_rfl) (by kernel_rfl) (by kernel_rfl) (by kernel_rfl) (by rfl) (fun _ _ _ h => h) ?_ hHeld ?_
          rotate_left 1
          (intro o ho W hSw; simp only [List.getElem?_toArray, List.getElem?_cons_succ, List.getElem?_cons_zero, Option.some.injEq] at ho; subst ho; (try dsimp only at hSw); go_simp; try with_reducible rfl)
          (try simp only [Act.put, List.setIfInBounds_toArray, List.set_cons_zero, List.set_cons_succ])
          refine wpAnyH_takeD 1 54 (v := ?_) (by kernel_rfl) (by kernel_rfl) (by kernel_rfl) (by kernel_rfl) (by rfl) (fun _ _ _ h => h) ?_ hHeld ?_
          rotate_left 1
          (intro o ho W hSw; simp only [List.getElem?_toArray, List.getElem?_cons_succ, List.getElem?_cons_zero, Option.some.injEq] at ho; subst ho; (try dsimp only at hSw); go_simp; try with_reducible rfl)
          (try simp only [Act.put, List.setIfInBounds_toArray, List.set_cons_zero, List.set_cons_succ])
          refine wpAnyH_takeD 2 55 (v := ?_) (by kernel_rfl) (by kernel_rfl) (by kernel_rfl) (by kernel_rfl) (by rfl) (fun _ _ _ h => h) ?_ hHeld ?_
          rotate_left 1
          (intro o ho W hSw; simp only [List.getElem?_toArray, List.getElem?_cons_succ, List.getElem?_cons_zero, Option.some.injEq] at ho; subst ho; (try dsimp only at hSw); go_simp; try with_reducible rfl)
          (try simp only [Act.put, List.setIfInBounds_toArray, List.set_cons_zero, List.set_cons_succ])
          refine wpAnyH_takeD 3 56 (v := ?_) (by kernel_rfl) (by kernel_rfl) (by kernel_rfl) (by kernel_rfl) (by rfl) (fun _ _ _ h => h) ?_ hHeld ?_
          rotate_left 1
          (intro o ho W hSw; simp only [List.getElem?_toArray, List.getElem?_cons_succ, List.getElem?_cons_zero, Option.some.injEq] at ho; subst ho; (try dsimp only at hSw); go_simp; try with_reducible rfl)
          (try simp only [Act.put, List.setIfInBounds_toArray, List.set_cons_zero, List.set_cons_succ])
          refine wpAnyH_takeD 4 57 (v := ?_) (by kernel_rfl) (by kernel_rfl) (by kernel_rfl) (by kernel_rfl) (by rfl) (fun _ _ _ h => h) ?_ hHeld ?_
          rotate_left 1
          (intro o ho W hSw; simp only [List.getElem?_toArray, List.getElem?_cons_succ, List.getElem?_cons_zero, Option.some.injEq] at ho; subst ho; (try dsimp only at hSw); go_simp; try with_reducible rfl)
          (try simp only [Act.put, List.setIfInBounds_toArray, List.set_cons_zero, List.set_cons_succ])
          refine wpAnyH_takeD 5 58 (v := ?_) (by kernel_rfl) (by kernel_rfl) (by kernel_rfl) (by kernel_rfl) (by rfl) (fun _ _ _ h => h) ?_ hHeld ?_
          rotate_left 1
          (intro o ho W hSw; simp only [List.getElem?_toArray, List.getElem?_cons_succ, List.getElem?_cons_zero, Option.some.injEq] at ho; subst ho; (try dsimp only at hSw); go_simp; try with_reducible rfl)
          (try simp only [Act.put, List.setIfInBounds_toArray, List.set_cons_zero, List.set_cons_succ])
          refine wpAnyH_takeD 6 59 (v := ?_) (by kernel_rfl) (by kernel_rfl) (by kernel_rfl) (by kernel_rfl) (by rfl) (fun _ _ _ h => h) ?_ hHeld ?_
          rotate_left 1
          (intro o ho W hSw; simp only [List.getElem?_toArray, List.getElem?_cons_succ, List.getElem?_cons_zero, Option.some.injEq] at ho; subst ho; (try dsimp only at hSw); go_simp; try with_reducible rfl)
          (try simp only [Act.put, List.setIfInBounds_toArray, List.set_cons_zero, List.set_cons_succ])
          refine wpAnyH_takeD 7 60 (v := ?_) (by kernel_rfl) (by kernel_rfl) (by kernel_rfl) (by kernel_rfl) (by rfl) (fun _ _ _ h => h) ?_ hHeld ?_
          rotate_left 1
          (intro o ho W hSw; simp only [List.getElem?_toArray, List.getElem?_cons_succ, List.getElem?_cons_zero, Option.some.injEq] at ho; subst ho; (try dsimp only at hSw); go_simp; try with_reducible rfl)
          (try simp only [Act.put, List.setIfInBounds_toArray, List.set_cons_zero, List.set_cons_succ])
          refine wpAnyH_takeD 8 61 (v := ?_) (by kernel_rfl) (by kernel_rfl) (by kernel_rfl) (by kernel_rfl) (by rfl) (fun _ _ _ h => h) ?_ hHeld ?_
          rotate_left 1
          (intro o ho W hSw; simp only [List.getElem?_toArray, List.getElem?_cons_succ, List.getElem?_cons_zero, Option.some.injEq] at ho; subst ho; (try dsimp only at hSw); go_simp; try with_reducible rfl)
          (try simp only [Act.put, List.setIfInBounds_toArray, List.set_cons_zero, List.set_cons_succ])
          refine wpAnyH_takeD 9 62 (v := ?_) (by kernel_rfl) (by kernel_rfl) (by kernel_rfl) (by kernel_rfl) (by rfl) (fun _ _ _ h => h) ?_ hHeld ?_
          rotate_left 1
          (intro o ho W hSw; simp only [List.getElem?_toArray, List.getElem?_cons_succ, List.getElem?_cons_zero, Option.some.injEq] at ho; subst ho; (try dsimp only at hSw); go_simp; try with_reducible rfl)
          (try simp only [Act.put, List.setIfInBounds_toArray, List.set_cons_zero, List.set_cons_succ])
          refine wpAnyH_takeD 11 64 (v := ?_) (by kernel_rfl) (by kernel_rfl) (by kernel_rfl) (by kernel_rfl) (by rfl) (fun _ _ _ h => h) ?_ hHeld ?_
          rotate_left 1
          (intro o ho W hSw; simp only [List.getElem?_toArray, List.getElem?_cons_succ, List.getElem?_cons_zero, Option.some.injEq] at ho; subst ho; (try dsimp only at hSw); go_simp; try with_reducible rfl)
          (try simp only [Act.put, List.setIfInBounds_toArray, List.set_cons_zero, List.set_cons_succ])
          refine wpAnyH_takeD 12 65 (v := ?_) (by kernel_rfl) (by kernel_rfl) (by kernel_rfl) (by kernel_rfl) (by rfl) (fun _ _ _ h => h) ?_ hHeld ?_
          rotate_left 1
          (intro o ho W hSw; simp only [List.getElem?_toArray, List.getElem?_cons_succ, List.getElem?_cons_zero, Option.some.injEq] at ho; subst ho; (try dsimp only at hSw); go_simp; try with_reducible rfl)
          (try simp only [Act.put, List.setIfInBounds_toArray, List.set_cons_zero, List.set_cons_succ])
          refine wpAnyH_takeD 13 66 (v := ?_) (by kernel_rfl) (by kernel_rfl) (by kernel_rfl) (by kernel_rfl) (by rfl) (fun _ _ _ h => h) ?_ hHeld ?_
          rotate_left 1
          (intro o ho W hSw; simp only [List.getElem?_toArray, List.getElem?_cons_succ, List.getElem?_cons_zero, Option.some.injEq] at ho; subst ho; (try dsimp only at hSw); go_simp; try with_reducible rfl)
          (try simp only [Act.put, List.setIfInBounds_toArray, List.set_cons_zero, List.set_cons_succ])
          refine wpAnyH_takeD 14 67 (v := ?_) (by kernel_rfl) (by kernel_rfl) (by kernel_rfl) (by kernel_rfl) (by rfl) (fun _ _ _ h => h) ?_ hHeld ?_
          rotate_left 1
          (intro o ho W hSw; simp only [List.getElem?_toArray, List.getElem?_cons_succ, List.getElem?_cons_zero, Option.some.injEq] at ho; subst ho; (try dsimp only at hSw); go_simp; try with_reducible rfl)
          (try simp only [Act.put, List.setIfInBounds_toArray, List.set_cons_zero, List.set_cons_succ])
          refine wpAnyH_takeD 15 68 (v := ?_) (by kernel_rfl) (by kernel_rfl) (by kernel_rfl) (by kernel_rfl) (by rfl) (fun _ _ _ h => h) ?_ hHeld ?_
          rotate_left 1
          (intro o ho W hSw; simp only [List.getElem?_toArray, List.getElem?_cons_succ, List.getElem?_cons_zero, Option.some.injEq] at ho; subst ho; (try dsimp only at hSw); go_simp; try with_reducible rfl)
          (try simp only [Act.put, List.setIfInBounds_toArray, List.set_cons_zero, List.set_cons_succ])
          refine wpAnyH_onlyD 10 (by kernel_rfl) (fun o ho K hK => ?_) (by kernel_rfl)
          simp only [List.getElem?_toArray, List.getElem?_cons_succ, List.getElem?_cons_zero, Option.some.injEq] at ho
          subst ho
          go_simp
          refine (fxSub_any x (X c) b k _ _ hx.1 hx.2 IA.out.1.1 IA.out.1.2 G0.out.m).mono ?_
          rintro e w1 ⟨rfl, h⟩
          have G1 := Lib.hid (G0.out.fx h)
          have A1 := Lib.hid (A0.out.fx h (by have := G0.out.lt; omega))
          (try have B1 := Lib.hid (B0.out.fx h (by have := G0.out.lt; omega)))
          (try have R1 := Lib.hid (R0.out.fx h (by have := G0.out.lt; omega)))
          (try have P1 := Lib.hid (P0.out.fx h))
          (try have I1 := Lib.hid (I0.out.fx h hbi))
          go_wp2_with fail
          refine hK.out _ _ (⟨A1.out.h2'', B1.out.h2''⟩) ?_
          clear hK K hHeld
          intro hHeld
          clear h G0 A0
          (try clear B0)
          (try clear R0)
          (try clear P0)
          (try clear I0)
          refine wpAnyH_onlyD 16 (by kernel_rfl) (fun o ho K hK => ?_) (by kernel_rfl)
          simp only [List.getElem?_toArray, List.getElem?_cons_succ, List.getElem?_cons_zero, Option.some.injEq] at ho
          subst ho
          go_simp
          refine (fxSub_any (X d) (X c) b k _ _ IB.out.1.1 IB.out.1.2 IA.out.1.1 IA.out.1.2 G1.out.m).mono ?_
          rintro e w2 ⟨rfl, h⟩
          have G2 := Lib.hid (G1.out.fx h)
          have A2 := Lib.hid (A1.out.fx h (by have := G1.out.lt; omega))
          (try have B2 := Lib.hid (B1.out.fx h (by have := G1.out.lt; omega)))
          (try have R2 := Lib.hid (R1.out.fx h (by have := G1.out.lt; omega)))
          (try have P2 := Lib.hid (P1.out.fx h))
          (try have I2 := Lib.hid (I1.out.fx h hbi))
          go_wp2_with fail
          refine hK.out _ _ (⟨A2.out.h2'', B2.out.h2''⟩) ?_
          clear hK K hHeld
          intro hHeld
          clear h G1 A1
          (try clear B1)
          (try clear R1)
          (try clear P1)
          (try clear I1)
          refine wpAnyH_onlyD 17 (by kernel_rfl) (fun o ho K hK => ?_) (by kernel_rfl)
          simp only [List.getElem?_toArray, List.getElem?_cons_succ, List.getElem?_cons_zero, Option.some.injEq] at ho
          subst ho
          go_simp
          refine (fxDiv_any (subF x (X c)) (subF (X d) (X c)) b k _ _ (subF_in _ _).1 (subF_in _ _).2 (subF_in _ _).1 (subF_in _ _).2 G2.out.m).mono ?_
          rintro e w3 ⟨rfl, h⟩
          have G3 := Lib.hid (G2.out.fx h)
          have A3 := Lib.hid (A2.out.fx h (by have := G2.out.lt; omega))
          (try have B3 := Lib.hid (B2.out.fx h (by have := G2.out.lt; omega)))
          (try have R3 := Lib.hid (R2.out.fx h (by have := G2.out.lt; omega)))
          (try have P3 := Lib.hid (P2.out.fx h))
          (try have I3 := Lib.hid (I2.out.fx h hbi))
          go_wp2_with fail
          refine hK.out _ _ (⟨A3.out.h2'', B3.out.h2''⟩) ?_
          clear hK K hHeld
          intro hHeld
          clear h G2 A2
          (try clear B2)
          (try clear R2)
          (try clear P2)
          (try clear I2)
          refine wpAnyH_onlyD 18 (by kernel_rfl) (fun o ho K hK => ?_) (by kernel_rfl)
          simp only [List.getElem?_toArray, List.getElem?_cons_succ, List.getElem?_cons_zero, Option.some.injEq] at ho
          subst ho
          go_simp
          refine (fxMix_any (Y c) (Y d) (divF (subF x (X c)) (subF (X d) (X c))) b k _ _ IA.out.2.1 IA.out.2.2 IB.out.2.1 IB.out.2.2 (divF_in _ _).1 (divF_in _ _).2 G3.out.m).mono ?_
          rintro e w4 ⟨rfl, h⟩
          have G4 := Lib.hid (G3.out.fx h)
          have A4 := Lib.hid (A3.out.fx h (by have := G3.out.lt; omega))
          (try have B4 := Lib.hid (B3.out.fx h (by have := G3.out.lt; omega)))
          (try have R4 := Lib.hid (R3.out.fx h (by have := G3.out.lt; omega)))
          (try have P4 := Lib.hid (P3.out.fx h))
          (try have I4 := Lib.hid (I3.out.fx h hbi))
          go_wp2_with fail
          refine hK.out _ _ (⟨A4.out.h2'', B4.out.h2''⟩) ?_
          clear hK K hHeld
          intro hHeld
          clear h G3 A3
          (try clear B3)
          (try clear R3)
          (try clear P3)
          (try clear I3)
          refine wpAnyH_takeD 19 6 (v := ?_) (by kernel_rfl) (by kernel_rfl) (by kernel_rfl) (by kernel_rfl) (by rfl) (fun _ _ _ h => h) ?_ hHeld ?_
          rotate_left 1
          (intro o ho W hSw; simp only [List.getElem?_toArray, List.getElem?_cons_succ, List.getElem?_cons_zero, Option.some.injEq] at ho; subst ho; (try dsimp only at hSw); go_simp; try with_reducible rfl)
          (try simp only [Act.put, List.setIfInBounds_toArray, List.set_cons_zero, List.set_cons_succ])
          refine wpAnyH_done (by kernel_rfl) ?_ _
          go_wp2
          go_ret
          exact ⟨rfl, by have := G4.out.f; unfold segO; simp only [← Bool.or_assoc]; exact this⟩

end Go.Proofs.Ytbggakbjppnchaa

/- Contracts of the program's pane: Concat, Bounds. -/
import Derived.Test.YtbpmbdnhfkfkhaaPv
namespace Go.Proofs.Ytbpmbdnhfkfkhaa
open Go.RowKit
set_option linter.unusedVariables false
set_option linter.unusedSimpArgs false

theorem src_nums {P : Program} {tx e' : TypeId} (hk : P.underlying tx = some (.slice e')) {B : Nat} {W : World} {s : Sl} (N : Nums B W s) (h0 : s.n = 0 → s.a = none → True) : Src P 1 tx (.slice s.a s.n s.c) s.n ((rowI s).map (Value.int .i64)) W := by
  obtain ⟨a, n, c, v⟩ := s
  have N' := N
  rcases Nat.eq_zero_or_pos n with e | e
  · subst e
    have e2 : (rowI ⟨a, 0, c, v⟩).map (Value.int .i64) = [] := rfl
    rw [e2]
    cases a with
    | none => exact Src.ofNil _ hk c
    | some p => exact Src.ofSlice _ hk p 0 c [] rfl (fun j u hj => by simp at hj) (fun u hu => by cases hu)
  · obtain ⟨b, off, ha, hb, hcell⟩ := N.at' e
    dsimp only at ha hcell
    subst ha
    refine Src.ofSlice _ hk ⟨b, off, none⟩ n c _ (by simp [rowI]) (fun j u hj => ?_) (fun u hu => ?_)
    · rw [show (⟨b, off, none⟩ : Addr).add j = ⟨b, off + j, none⟩ by unfold Addr.add; split <;> simp_all]
      unfold rowI at hj
      rw [List.getElem?_map, List.getElem?_map] at hj
      rcases Nat.lt_or_ge j n with l | l
      · rw [List.getElem?_range l] at hj
        simp at hj
        subst hj
        exact hcell j l
      · rw [List.getElem?_eq_none (by simpa using l)] at hj
        cases hj
    · obtain ⟨x, _, rfl⟩ := List.mem_map.1 hu
      rfl
set_option maxRecDepth 100000 in
set_option maxHeartbeats 4000000 in
theorem pConcat_any (p : Pn) (B : Nat) (w : World) (hB : B ≤ w.heap.size) (F : fewP p) (h0 : 0 < p.n) (h1 : 0 < (p.r 0).n) (K : Pan B w p) :
    Calls Try.prog 59 #[.slice p.a p.n p.c] w fun e w' => (∃ v, e = .returned v ∧ OB w.heap.size w' v ((catI p.r p.n).map (.int .i64))) ∧ Below w.heap.size w w' := by
  obtain ⟨b, off, ha, hb, hcell⟩ := K.at' h0
  have HC := Lib.hid hcell
  have RN := Lib.hid K.r
  have F1 := F.2.2.1
  have F2 := Lib.hid F.2.2.2
  have L0 := lenI_pos p.r p.n h0 h1
  have L1 := lenI_le p.r p.n F.2.2.2
  have LM := Lib.hid (fun j (h : j ≤ p.n) => lenI_mono p.r p.n j h)
  obtain ⟨⟨xa, xn, xc, xv⟩, ⟨ya, yn, yc, yv⟩, a, n, c, r⟩ := p
  dsimp only at *
  subst ha
  obtain ⟨tot, htot⟩ : ∃ tot, lenI r n = tot := ⟨_, rfl⟩
  rw [htot] at L0 L1
  have HT := Lib.hid htot
  have hbw : b < w.heap.size := by omega
  clear hcell K F h0 h1 htot
  go_enter Try.func59, Try.ntmps59
  go_wp2
  go_loopw [3, 11] (fun u i wr => ∃ j : Nat, j ≤ n ∧ i = .int .i64 j ∧ u = .int .i64 (lenI r j) ∧ wr = w) (fun _ i _ => n - (intOf i).toNat)
  case atStart => exact ⟨0, by omega, rfl, rfl, rfl⟩
  case round =>
    obtain ⟨j, hj, rfl, rfl, hw⟩ := hrel
    obtain rfl : w = wr := hw.symm
    clear hw
    by_cases hlt : j < n
    · have c0 := HC.out j hlt
      have M1 := LM.out j (by omega)
      have M2 := LM.out (j + 1) (by omega)
      rw [HT.out] at M1 M2
      have E := Lib.hid (show lenI r (j + 1) = lenI r j + (r j).n from rfl)
      have F3 := F2.out j hlt
      generalize hq : lenI r j = q at *
      have HQ := Lib.hid hq
      clear hq
      have e1 : q + (r j).n ≤ tot := by rw [E.out] at M2; exact M2
      have e2 : ¬ (q : Int) + ((r j).n : Int) < 0 := by omega
      clear M2
      go_wp2
      go_roundw
      case rel => exact ⟨j + 1, by omega, by go_num, by rw [E.out]; go_num, trivial⟩
      case measure => simp [intOf]; omega
    · have e : j = n := by omega
      subst e
      rw [HT.out]
      clear LM
      go_wp2_with fail
      refine (pGrow_any tot _ L0 (by omega)).mono ?_
      rintro e w1 ⟨⟨v, rfl, hO⟩, hB1⟩
      have O1 := Lib.hid hO
      have B1 := Lib.hid hB1
      clear hO hB1
      go_wp2
      go_loopw [6, 27] (fun u i W => ∃ k : Nat, k ≤ j ∧ i = .int .i64 k ∧ OB w.heap.size W u ((catI r k).map (.int .i64)) ∧ Below w.heap.size w W) (fun _ i _ => j - (intOf i).toNat)
      case atStart => exact ⟨0, by omega, rfl, O1.out, B1.out⟩
      case round =>
        obtain ⟨k, hk, rfl, hO, hBl⟩ := hrel
        have O2 := Lib.hid hO
        have B2 := Lib.hid hBl
        clear hO hBl O1 B1
        by_cases hkl : k < j
        · have c1 := (B2.out.cell (p := ⟨b, off + k, none⟩) hbw).trans (HC.out k hkl)
          have N1 := Lib.hid ((RN.out k hkl).keep B2.out hB)
          have LL := Lib.hid (lenI_le r k (fun i hi => F2.out i (by omega)))
          have F3 := F2.out k hkl
          have sz := B2.out.size
          have E := Lib.hid (show (catI r (k + 1)).map (Value.int .i64) = (catI r k).map (Value.int .i64) ++ (rowI (r k)).map (Value.int .i64) by show ((catI r k ++ rowI (r k))).map _ = _; rw [List.map_append])
          go_wp2_with (at_builtin; refine wpList_ob rfl (.tmp 31) (.tmp 32) 30 30 rfl 22 _ (.int .i64 0) Try.underlying30 rfl rfl rfl rfl (by decide) O2.out rfl _ (r k).n ((rowI (r k)).map (Value.int .i64)) rfl (src_nums Try.underlying30 N1.out (fun _ _ => trivial)) (by have := LL.out; rw [List.length_map, catI_len]; omega) (by exact sz) ?_)
          intro v1 w2 o1 g1 p1
          have O3 := Lib.hid (show OB w.heap.size w2 v1 ((catI r (k + 1)).map (.int .i64)) by rw [E.out]; exact o1)
          have B3 := Lib.hid (B2.out.trans (O2.out.up g1 sz))
          clear o1 g1 p1 O2 B2 N1 E c1
          go_wp2
          go_roundw
          case rel => exact ⟨k + 1, by omega, by go_num, O3.out, B3.out⟩
          case measure => simp [intOf]; omega
        · have e : k = j := by omega
          subst e
          go_wp2
          go_ret
          exact ⟨⟨_, rfl, O2.out⟩, B2.out⟩
set_option maxHeartbeats 4000000 in
theorem pBounds_any (p : Pn) (B : Nat) (w : World) (hB : B ≤ w.heap.size) (F : fewP p) (K : Pan B w p) :
    Calls Try.prog 43 #[.agg #[.slice p.x.a p.x.n p.x.c, .slice p.y.a p.y.n p.y.c, .slice p.a p.n p.c]] w fun e w' => e = .returned (.tuple #[.int .i64 (lowP p), .int .i64 (highP p)]) ∧ Below w.heap.size w w' := by
  have Q0 := Lib.hid (PQ.new 33 K hB)
  have X := Lib.hid (fun (W : World) (Q : PQ w W B w.heap.size p) => pRight_any p B W (by have := Q.l.size; omega) F Q.p)
  by_cases hp : paneR p = 0
  · rw [hp] at X
    have L := Lib.hid (show lowP p = minR p.r ((p.r 0).v 0) p.n by unfold lowP; rw [if_pos hp])
    have H := Lib.hid (show highP p = maxR p.r ((p.r 0).v 0) p.n by unfold highP; rw [if_pos hp])
    obtain ⟨⟨s1, s2⟩, -⟩ := paneR_ok hp
    have h0 : 0 < p.n := by omega
    have h1 : 0 < (p.r 0).n := by rw [s2 0 h0]; omega
    rw [← min_cat p.r p.n h0 h1] at L
    rw [← max_cat p.r p.n h0 h1] at H
    have Y := Lib.hid (fun (W : World) (Q : PQ w W B w.heap.size p) => pConcat_any p B W (by have := Q.l.size; omega) F h0 h1 Q.p)
    have WF := Lib.hid (catI_wf (r := p.r) p.n (fun i hi k hk => (K.r i hi).wf k hk))
    have ln : 0 < (catI p.r p.n).length ∧ (catI p.r p.n).length ≤ 4000 := by
      rw [catI_len]
      exact ⟨lenI_pos p.r p.n h0 h1, by have := lenI_le p.r p.n F.2.2.2; have := F.2.2.1; omega⟩
    generalize lowP p = lo at *
    generalize highP p = hi at *
    generalize catI p.r p.n = zs at *
    clear hp K F s1 s2 h0 h1
    obtain ⟨l0, l1⟩ := ln
    go_enter Try.func43, Try.ntmps43
    go_wp2_with fail
    refine calls_gen (S := fun W => PQ w W B w.heap.size p) Q0.out (fun W1 hS => ?_)
    have Q1 := Lib.hid hS
    clear hS Q0
    refine (X.out _ Q1.out).mono ?_
    rintro e w1 ⟨rfl, h⟩
    have Q2 := Lib.hid (Q1.out.step h)
    clear h Q1 X
    obtain ⟨c0, c1, c2⟩ := Q2.out.k.h3
    go_wp2_with fail
    refine (Y.out _ Q2.out).mono ?_
    rintro e w2 ⟨⟨v, rfl, hO⟩, hB2⟩
    obtain ⟨a', c', hv, hN⟩ := ob_nums hO WF.out
    subst hv
    have Q3 := Lib.hid (Q2.out.step hB2)
    have N3 := Lib.hid hN
    clear hO hB2 Y Q2 c0 c1 c2 hN
    have X1 := Lib.hid (fun (W : World) (h : Nums W.heap.size W ⟨a', zs.length, c', fun k => zs.getD k 0⟩) => pMin_any a' zs.length c' (fun k => zs.getD k 0) W.heap.size W (Nat.le_refl _) l0 l1 h)
    have X2 := Lib.hid (fun (W : World) (h : Nums W.heap.size W ⟨a', zs.length, c', fun k => zs.getD k 0⟩) => pMax_any a' zs.length c' (fun k => zs.getD k 0) W.heap.size W (Nat.le_refl _) l0 l1 h)
    rw [← L.out] at X1
    rw [← H.out] at X2
    go_wp2_with fail
    refine (X1.out _ N3.out).mono ?_
    rintro e w3 ⟨rfl, rfl⟩
    go_wp2_with fail
    refine (X2.out _ N3.out).mono ?_
    rintro e w4 ⟨rfl, rfl⟩
    go_wp2
    go_ret2
    exact ⟨rfl, Q3.out.l⟩
  · have L := Lib.hid (show lowP p = 0 by unfold lowP; rw [if_neg hp])
    have H := Lib.hid (show highP p = 0 by unfold highP; rw [if_neg hp])
    generalize lowP p = lo at *
    generalize highP p = hi at *
    generalize paneR p = q at *
    clear K F
    go_enter Try.func43, Try.ntmps43
    go_wp2_with fail
    refine calls_gen (S := fun W => PQ w W B w.heap.size p) Q0.out (fun W1 hS => ?_)
    have Q1 := Lib.hid hS
    clear hS Q0
    refine (X.out _ Q1.out).mono ?_
    rintro e w1 ⟨rfl, h⟩
    have Q2 := Lib.hid (Q1.out.step h)
    clear h Q1 X
    go_wp2
    go_ret2
    exact ⟨by rw [L.out, H.out]; rfl, Q2.out.l⟩
end Go.Proofs.Ytbpmbdnhfkfkhaa

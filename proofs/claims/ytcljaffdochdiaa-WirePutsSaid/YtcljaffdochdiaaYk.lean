/- The walk of WirePuts. -/
import Derived.Test.YtcljaffdochdiaaYj
namespace Go.Proofs.Ytcljaffdochdiaa
open Go.RowKit
set_option linter.unusedVariables false
set_option linter.unusedSimpArgs false

theorem OpsM.at {w W : World} {a : Option Addr} {len cap : Nat} {f : Nat → OpI} (D : OpsM w a len cap f) (h : Below w.heap.size w W) : OpsM W a len cap f := D.below h (Nat.le_refl _)
/-- an arm: the put, the document's bytes, append -/
theorem OpsM.cell {w : World} {b off len cap : Nat} {f : Nat → OpI} {j : Nat} (D : OpsM w (some ⟨b, off, none⟩) len cap f) (hj : j < len) : ∀ k u, (f j).vals[k]? = some u → w.cell? ⟨b, off + j * 5 + k, none⟩ = some u := by
  obtain ⟨b', off', e, _, hc⟩ := D.at' (by omega)
  cases e
  exact hc j hj
set_option maxRecDepth 100000 in
set_option maxHeartbeats 4000000 in
theorem wputs_walk (C : OutT) (X : WireO C) (a : Option Addr) (len cap : Nat) (f : Nat → OpI) (w : World) (D : OpsM w a len cap f) :
    Calls Try.prog 3 #[.slice a len cap] w fun e w' => e = .returned (.bool true) ∧ Below w.heap.size w w' := by
  have HD := Lib.hid D
  by_cases few : fewW len f
  · have FB := Lib.hid (show decide (fewW len f) = true from decide_eq_true few)
    have FW := Lib.hid (wfew_any a len cap f w D)
    rw [FB.out] at FW
    have HF := Lib.hid few.2
    have hlen := few.1
    obtain ⟨v0, hz, hv0⟩ := X.zero w.heap.size w (Nat.le_refl _)
    have S0 := Lib.hid (show PS C w (w.alloc (.cells #[.slice none 0 0] 27)) w.heap.size v0 (.slice none 0 0) [] [] from ⟨hz, OB.nil _ _, (Below.refl _ _).alloc (Nat.le_refl _) _, (by intro e; cases e), fun _ => rfl⟩)
    have HX := Lib.hid X
    clear hz hv0 few FB D X
    go_enter Try.func3, Try.ntmps3
    go_wp2_with fail
    refine FW.out.mono ?_
    rintro e w1 ⟨rfl, rfl⟩
    clear FW
    go_wp2
    obtain ⟨nb, hnb⟩ : ∃ nb, w1.heap.size = nb := ⟨_, rfl⟩
    rw [hnb] at S0 ⊢
    clear hnb
    go_loopw [4, 5] (fun u i wr => ∃ (j : Nat) (v : Value) (l : List Int), j ≤ len ∧ i = .int .i64 j ∧ PS C w1 wr nb v u l l ∧ l.length ≤ 50 * j ∧ Byt l) (fun _ i _ => len - (intOf i).toNat)
    case atStart => exact ⟨0, v0, [], by omega, rfl, S0.out, by simp, fun x hx => by cases hx⟩
    case round =>
      clear S0
      obtain ⟨j, v, l, hj, rfl, hS, hll, hl⟩ := hrel
      have S0 := Lib.hid hS
      clear hS
      by_cases hj' : j < len
      · have hok := HD.out.wf j hj'
        obtain ⟨b, off, rfl, hb, -⟩ := HD.out.at' (by omega)
        have c0 := (HD.out.at S0.out.b).cell hj' 0 _ rfl
        have c1 := (HD.out.at S0.out.b).cell hj' 1 _ rfl
        have c2 := (HD.out.at S0.out.b).cell hj' 2 _ rfl
        have c3 := (HD.out.at S0.out.b).cell hj' 3 _ rfl
        have c4 := (HD.out.at S0.out.b).cell hj' 4 _ rfl
        rw [Nat.add_zero] at c0
        have hs50 := HF.out j hj'
        have KW := Lib.hid (fun (W : World) => wkind_any (f j) W hok)
        have hkin := kind_in (f j).k
        obtain ⟨q, hq⟩ : ∃ q, kindI (f j).k = q := ⟨_, rfl⟩
        rw [hq] at KW hkin
        clear hq
        go_wp2_with fail
        refine (KW.out _).mono ?_
        rintro e w2 ⟨rfl, h⟩
        have S1 := Lib.hid (S0.out.step h)
        clear h S0 KW c0 c1 c2 c3 c4
        have hcell := (HD.out.at S1.out.b).cell hj'
        have n0 := bounds_i64 hok.n
        have q05 : q = 0 ∨ q = 1 ∨ q = 2 ∨ q = 3 ∨ q = 4 ∨ q = 5 := by omega
        clear hkin
        rcases q05 with rfl | rfl | rfl | rfl | rfl | rfl
        · skip
          have NB : (numB (tw64 (f j).n) 8).length ≤ 50 := by rw [numB_length]; omega
          have NI : Byt (numB (tw64 (f j).n) 8) := numB_in 8 (tw64_in _).1 (tw64_in _).2
          have cf := (hcell 1 _ rfl)
          go_wp2_with fail
          refine (HX.out.num (f j).n n0 w1.heap.size _ nb v l S1.out.p S1.out.b.size (by omega)).mono ?_
          rintro e w2 ⟨rfl, v2, hp, hk, hv⟩
          have S2 := Lib.hid (S1.out.put hp hk hv)
          clear hp hk hv S1 cf hcell
          have cf := (HD.out.at S2.out.b).cell hj' 1 _ rfl
          go_wp2_with fail
          refine (rwNum_any (f j).n w2 n0.1 n0.2).mono ?_
          rintro e w3 ⟨⟨d, rfl, hd⟩, hb⟩
          have S3 := Lib.hid (S2.out.step hb)
          have HO := Lib.hid hd
          clear hd hb S2 cf
          go_wp2_with (at_builtin; refine wpList_ob rfl (.tmp 31) (.tmp 37) 25 25 rfl 5 _ (.int .u8 0) Try.underlying25 rfl rfl rfl rfl (by decide) S3.out.o rfl _ (byC (numB (tw64 (f j).n) 8)).length (byC (numB (tw64 (f j).n) 8)) rfl (src_own Try.underlying25 HO.out (one_ints .u8 _)) (by rw [byC_length, byC_length]; omega) (by exact S3.out.b.size) ?_)
          intro u1 w4 o1 g1 p1
          have S4 := Lib.hid (S3.out.want o1 g1 p1)
          clear o1 g1 p1 S3 HO
          go_wp2
          go_roundw
          case rel => exact ⟨j + 1, v2, l ++ numB (tw64 (f j).n) 8, by omega, by go_num, S4.out, by rw [List.length_append]; omega, hl.append NI⟩
          case measure => (simp [intOf]; try omega)
        · skip
          have NB : (u16B (f j).n).length ≤ 50 := by simp [u16B]
          have NI : Byt (u16B (f j).n) := u16B_in _
          have cf := (hcell 1 _ rfl)
          go_wp2_with fail
          refine (HX.out.count (f j).n n0 w1.heap.size _ nb v l S1.out.p S1.out.b.size (by omega)).mono ?_
          rintro e w2 ⟨rfl, v2, hp, hk, hv⟩
          have S2 := Lib.hid (S1.out.put hp hk hv)
          clear hp hk hv S1 cf hcell
          have cf := (HD.out.at S2.out.b).cell hj' 1 _ rfl
          go_wp2_with fail
          refine (rwCount_any (f j).n w2 n0.1 n0.2).mono ?_
          rintro e w3 ⟨⟨d, rfl, hd⟩, hb⟩
          have S3 := Lib.hid (S2.out.step hb)
          have HO := Lib.hid hd
          clear hd hb S2 cf
          go_wp2_with (at_builtin; refine wpList_ob rfl (.tmp 48) (.tmp 54) 25 25 rfl 5 _ (.int .u8 0) Try.underlying25 rfl rfl rfl rfl (by decide) S3.out.o rfl _ (byC (u16B (f j).n)).length (byC (u16B (f j).n)) rfl (src_own Try.underlying25 HO.out (one_ints .u8 _)) (by rw [byC_length, byC_length]; omega) (by exact S3.out.b.size) ?_)
          intro u1 w4 o1 g1 p1
          have S4 := Lib.hid (S3.out.want o1 g1 p1)
          clear o1 g1 p1 S3 HO
          go_wp2
          go_roundw
          case rel => exact ⟨j + 1, v2, l ++ u16B (f j).n, by omega, by go_num, S4.out, by rw [List.length_append]; omega, hl.append NI⟩
          case measure => (simp [intOf]; try omega)
        · skip
          have NB : (flagB (f j).b).length ≤ 50 := by simp [flagB]
          have NI : Byt (flagB (f j).b) := flagB_in _
          have cf := (hcell 2 _ rfl)
          go_wp2_with fail
          refine (HX.out.flag (f j).b w1.heap.size _ nb v l S1.out.p S1.out.b.size (by omega)).mono ?_
          rintro e w2 ⟨rfl, v2, hp, hk, hv⟩
          have S2 := Lib.hid (S1.out.put hp hk hv)
          clear hp hk hv S1 cf hcell
          have cf := (HD.out.at S2.out.b).cell hj' 2 _ rfl
          go_wp2_with fail
          refine (rwFlag_any (f j).b w2).mono ?_
          rintro e w3 ⟨⟨d, rfl, hd⟩, hb⟩
          have S3 := Lib.hid (S2.out.step hb)
          have HO := Lib.hid hd
          clear hd hb S2 cf
          go_wp2_with (at_builtin; refine wpList_ob rfl (.tmp 65) (.tmp 71) 25 25 rfl 5 _ (.int .u8 0) Try.underlying25 rfl rfl rfl rfl (by decide) S3.out.o rfl _ (byC (flagB (f j).b)).length (byC (flagB (f j).b)) rfl (src_own Try.underlying25 HO.out (one_ints .u8 _)) (by rw [byC_length, byC_length]; omega) (by exact S3.out.b.size) ?_)
          intro u1 w4 o1 g1 p1
          have S4 := Lib.hid (S3.out.want o1 g1 p1)
          clear o1 g1 p1 S3 HO
          go_wp2
          go_roundw
          case rel => exact ⟨j + 1, v2, l ++ flagB (f j).b, by omega, by go_num, S4.out, by rw [List.length_append]; omega, hl.append NI⟩
          case measure => (simp [intOf]; try omega)
        · skip
          have NB : (markB (f j).s 4).length ≤ 50 := by rw [markB_length]; omega
          have NI : Byt (markB (f j).s 4) := markB_in _ _
          have cf := (hcell 3 _ rfl)
          go_wp2_with fail
          refine (HX.out.mark (f j).s w1.heap.size _ nb v l S1.out.p S1.out.b.size (by omega)).mono ?_
          rintro e w2 ⟨rfl, v2, hp, hk, hv⟩
          have S2 := Lib.hid (S1.out.put hp hk hv)
          clear hp hk hv S1 cf hcell
          have cf := (HD.out.at S2.out.b).cell hj' 3 _ rfl
          go_wp2_with fail
          refine (rwMark_any (f j).s w2).mono ?_
          rintro e w3 ⟨⟨d, rfl, hd⟩, hb⟩
          have S3 := Lib.hid (S2.out.step hb)
          have HO := Lib.hid hd
          clear hd hb S2 cf
          go_wp2_with (at_builtin; refine wpList_ob rfl (.tmp 82) (.tmp 88) 25 25 rfl 5 _ (.int .u8 0) Try.underlying25 rfl rfl rfl rfl (by decide) S3.out.o rfl _ (byC (markB (f j).s 4)).length (byC (markB (f j).s 4)) rfl (src_own Try.underlying25 HO.out (one_ints .u8 _)) (by rw [byC_length, byC_length]; omega) (by exact S3.out.b.size) ?_)
          intro u1 w4 o1 g1 p1
          have S4 := Lib.hid (S3.out.want o1 g1 p1)
          clear o1 g1 p1 S3 HO
          go_wp2
          go_roundw
          case rel => exact ⟨j + 1, v2, l ++ markB (f j).s 4, by omega, by go_num, S4.out, by rw [List.length_append]; omega, hl.append NI⟩
          case measure => (simp [intOf]; try omega)
        · have NB : (strB (f j).s).length ≤ 50 := by rw [strB_length]; exact hs50
          have NI := strB_in (f j).s
          obtain ⟨s, hs⟩ : ∃ s, (f j).s = s := ⟨_, rfl⟩
          have cf : w2.cell? ⟨b, off + j * 5 + 3, none⟩ = some (.string s) := by rw [← hs]; exact hcell 3 _ rfl
          have HS := Lib.hid hs
          rw [hs] at NB NI
          obtain ⟨c, W2, hcv, hbl, hbe, hsz, hsc⟩ := conv_str (P := Try.prog) w2 s 9 25 5 rfl rfl rfl
          have HBL := Lib.hid hbl
          have HBE := Lib.hid hbe
          have HSZ := Lib.hid hsz
          have HSC := Lib.hid hsc
          clear hbl hbe hsz hsc hs
          have S2 := Lib.hid (S1.out.step HBE.out)
          have L0 := C.lo S1.out.p
          have NE := Lib.hid (show ∀ p, some (⟨w2.heap.size, 0, none⟩ : Addr) = some p → p.block ≠ nb ∧ v.ownBlock ≠ some p.block from fun p e => by
            cases e
            refine ⟨fun e => ?_, fun e => ?_⟩
            · have e : w2.heap.size = nb := e
              omega
            · have := (C.row S1.out.p e).2.1
              exact absurd this (by show ¬ w2.heap.size < _; omega))
          clear L0 S1 hcell
          go_wp2_with fail
          refine (HX.out.raw w1.heap.size W2 nb v l S2.out.p S2.out.b.size (some ⟨w2.heap.size, 0, none⟩) s.size c (strB s) HBL.out HSC.out (by omega) NE.out).mono ?_
          rintro e w3 ⟨rfl, v2, hp, hk, hv⟩
          have S3 := Lib.hid (S2.out.put hp hk hv)
          clear hp hk hv S2 cf hcv HBL HBE HSZ HSC NE
          have cf : w3.cell? ⟨b, off + j * 5 + 3, none⟩ = some (.string s) := by rw [← HS.out]; exact (HD.out.at S3.out.b).cell hj' 3 _ rfl
          go_wp2_with (at_builtin; refine wpList_ob rfl (.tmp 100) (.tmp 105) 25 9 rfl 5 _ (.int .u8 0) Try.underlying25 rfl rfl rfl rfl (by decide) S3.out.o rfl _ s.size (byC (strB s)) rfl (by rw [← strB_cells]; exact Src.ofString _ Try.underlying9 s) (by rw [byC_length]; rw [strB_length] at NB; omega) (by exact S3.out.b.size) ?_)
          intro u1 w4 o1 g1 p1
          have S4 := Lib.hid (S3.out.want o1 g1 p1)
          clear o1 g1 p1 S3 cf
          go_wp2
          go_roundw
          case rel => exact ⟨j + 1, v2, l ++ strB s, by omega, by go_num, S4.out, by rw [List.length_append]; omega, hl.append NI⟩
          case measure => (simp [intOf]; try omega)
        · go_wp2
          go_roundw
          case rel => exact ⟨j + 1, v, l, by omega, by go_num, S1.out, by omega, hl⟩
          case measure => (simp [intOf]; try omega)
      · have e : ¬ (j : Int) < (len : Int) := by omega
        have hd := Lib.hid S0.out
        go_wp2_with fail
        refine wpg (S := fun W => PS C w1 W nb v u4 l l) hd.out (fun W0 hS => ?_)
        have S1 := Lib.hid (hS.step ((Below.refl _ _).drew))
        clear hS S0 hd
        refine wp_region_held_drew (S := fun W => (convert 25 9 u4).run Try.prog W = .ok (.string (txt l)) W) (by kernel_rfl) (conv_ob (P := Try.prog) S1.out.o hl 25 5 9 rfl rfl rfl) (fun hHeld => ?_)
        generalize W0.drew = W2 at *
        refine wpAnyH_takeD 0 107 (v := ?_) (by kernel_rfl) (by kernel_rfl) (by kernel_rfl) (by kernel_rfl) (by rfl) (fun _ _ _ h => h) ?_ hHeld ?_
        rotate_left 1
        (intro o ho W hSw; simp only [List.getElem?_toArray, List.getElem?_cons_succ, List.getElem?_cons_zero, Option.some.injEq] at ho; subst ho; (try dsimp only at hSw); go_simp; try with_reducible rfl)
        (try simp only [Act.put, List.setIfInBounds_toArray, List.set_cons_zero, List.set_cons_succ])
        refine wpAnyH_takeD 3 110 (v := ?_) (by kernel_rfl) (by kernel_rfl) (by kernel_rfl) (by kernel_rfl) (by rfl) (fun _ _ _ h => h) ?_ hHeld ?_
        rotate_left 1
        (intro o ho W hSw; simp only [List.getElem?_toArray, List.getElem?_cons_succ, List.getElem?_cons_zero, Option.some.injEq] at ho; subst ho; (try dsimp only at hSw); go_simp; try with_reducible rfl)
        (try simp only [Act.put, List.setIfInBounds_toArray, List.set_cons_zero, List.set_cons_succ])
        refine wpAnyH_takeD 4 111 (v := ?_) (by kernel_rfl) (by kernel_rfl) (by kernel_rfl) (by kernel_rfl) (by rfl) (fun _ _ _ h => h) ?_ hHeld ?_
        rotate_left 1
        (intro o ho W hSw; simp only [List.getElem?_toArray, List.getElem?_cons_succ, List.getElem?_cons_zero, Option.some.injEq] at ho; subst ho; (try dsimp only at hSw); go_simp; try with_reducible rfl)
        (try simp only [Act.put, List.setIfInBounds_toArray, List.set_cons_zero, List.set_cons_succ])
        refine wpAnyH_onlyD 1 (by kernel_rfl) (fun o ho K hK => ?_) (by kernel_rfl)
        simp only [List.getElem?_toArray, List.getElem?_cons_succ, List.getElem?_cons_zero, Option.some.injEq] at ho
        subst ho
        go_simp
        refine (HX.out.bytes w1.heap.size _ nb v l S1.out.p hl).mono ?_
        rintro e w2 ⟨⟨x, rfl, hx⟩, hb⟩
        have S2 := Lib.hid (S1.out.step hb)
        have HB := Lib.hid hx
        clear hb hx S1
        go_wp2_with fail
        refine hK.out _ _ (conv_ob (P := Try.prog) S2.out.o hl 25 5 9 rfl rfl rfl) ?_
        clear hK K hHeld
        intro hHeld
        refine wpAnyH_grow (fun W => (convert 25 9 u4).run Try.prog W = .ok (.string (txt l)) W ∧ (convert 25 9 x).run Try.prog W = .ok (.string (txt l)) W) (fun _ h => h.1) ⟨hHeld, conv_ob (P := Try.prog) HB.out hl 25 5 9 rfl rfl rfl⟩ (fun hHeld => ?_)
        refine wpAnyH_takeD 2 109 (v := ?_) (by kernel_rfl) (by kernel_rfl) (by kernel_rfl) (by kernel_rfl) (by rfl) (fun _ _ _ h => h) ?_ hHeld ?_
        rotate_left 1
        (intro o ho W hSw; simp only [List.getElem?_toArray, List.getElem?_cons_succ, List.getElem?_cons_zero, Option.some.injEq] at ho; subst ho; (try dsimp only at hSw); go_simp; try with_reducible rfl)
        (try simp only [Act.put, List.setIfInBounds_toArray, List.set_cons_zero, List.set_cons_succ])
        refine wpAnyH_takeD 5 112 (v := ?_) (by kernel_rfl) (by kernel_rfl) (by kernel_rfl) (by kernel_rfl) (by rfl) (fun _ _ _ h => h) ?_ hHeld ?_
        rotate_left 1
        (intro o ho W hSw; simp only [List.getElem?_toArray, List.getElem?_cons_succ, List.getElem?_cons_zero, Option.some.injEq] at ho; subst ho; (try dsimp only at hSw); go_simp; try with_reducible rfl)
        (try simp only [Act.put, List.setIfInBounds_toArray, List.set_cons_zero, List.set_cons_succ])
        refine wpAnyH_takeD 6 113 (v := ?_) (by kernel_rfl) (by kernel_rfl) (by kernel_rfl) (by kernel_rfl) (by rfl) (fun _ _ _ h => h) ?_ hHeld ?_
        rotate_left 1
        (intro o ho W hSw; simp only [List.getElem?_toArray, List.getElem?_cons_succ, List.getElem?_cons_zero, Option.some.injEq] at ho; subst ho; (try dsimp only at hSw); go_simp; try with_reducible rfl)
        (try simp only [Act.put, List.setIfInBounds_toArray, List.set_cons_zero, List.set_cons_succ])
        refine wpAnyH_onlyD 7 (by kernel_rfl) (fun o ho K hK => ?_) (by kernel_rfl)
        simp only [List.getElem?_toArray, List.getElem?_cons_succ, List.getElem?_cons_zero, Option.some.injEq] at ho
        subst ho
        go_simp
        refine (HX.out.awake _).mono ?_
        rintro e w3 ⟨rfl, hb⟩
        have S3 := Lib.hid (S2.out.step hb)
        go_wp2_with fail
        refine hK.out _ _ (⟨conv_ob (P := Try.prog) S3.out.o hl 25 5 9 rfl rfl rfl, conv_ob (P := Try.prog) (HB.out.below hb) hl 25 5 9 rfl rfl rfl⟩) ?_
        clear hK K hHeld
        intro hHeld
        clear hb S2
        refine wpAnyH_takeD 8 115 (v := ?_) (by kernel_rfl) (by kernel_rfl) (by kernel_rfl) (by kernel_rfl) (by rfl) (fun _ _ _ h => h) ?_ hHeld ?_
        rotate_left 1
        (intro o ho W hSw; simp only [List.getElem?_toArray, List.getElem?_cons_succ, List.getElem?_cons_zero, Option.some.injEq] at ho; subst ho; (try dsimp only at hSw); go_simp; try with_reducible rfl)
        (try simp only [Act.put, List.setIfInBounds_toArray, List.set_cons_zero, List.set_cons_succ])
        refine wpAnyH_takeD 9 2 (v := ?_) (by kernel_rfl) (by kernel_rfl) (by kernel_rfl) (by kernel_rfl) (by rfl) (fun _ _ _ h => h) ?_ hHeld ?_
        rotate_left 1
        (intro o ho W hSw; simp only [List.getElem?_toArray, List.getElem?_cons_succ, List.getElem?_cons_zero, Option.some.injEq] at ho; subst ho; (try dsimp only at hSw); go_simp; try with_reducible rfl)
        (try simp only [Act.put, List.setIfInBounds_toArray, List.set_cons_zero, List.set_cons_succ])
        refine wpAnyH_done (by kernel_rfl) ?_ _
        go_wp2
        go_ret
        exact ⟨rfl, S3.out.b⟩
  · have FB := Lib.hid (show decide (fewW len f) = false from decide_eq_false few)
    have FW := Lib.hid (wfew_any a len cap f w D)
    rw [FB.out] at FW
    clear few FB D X
    go_enter Try.func3, Try.ntmps3
    go_wp2_with fail
    refine FW.out.mono ?_
    rintro e w1 ⟨rfl, rfl⟩
    clear FW
    go_wp2
    go_ret
    exact ⟨rfl, Below.refl _ _⟩
end Go.Proofs.Ytcljaffdochdiaa

/- The walk of WireBack. -/
import Derived.Test.YtcljaffdochdiaaYn
import Derived.Test.YtcljaffdochdiaaYk
namespace Go.Proofs.Ytcljaffdochdiaa
open Go.RowKit
set_option linter.unusedVariables false
set_option linter.unusedSimpArgs false

/-- the program's reader -/
structure QS (I : InT) (w W : World) (base top nb : Nat) (l : List Int) (s : IS) : Prop where
  p : I.P base top W nb l s
  b : Below w.heap.size w W
  wb : w.heap.size ≤ base
theorem QS.mine {I : InT} {w W W' : World} {base top nb : Nat} {l : List Int} {s s' : IS} (r : QS I w W base top nb l s) (hp : I.P base top W' nb l s') (k : Mid base top W W') : QS I w W' base top nb l s' := ⟨hp, Mid.below r.b k r.wb, r.wb⟩
theorem QS.step {I : InT} {w W W' : World} {base top nb : Nat} {l : List Int} {s : IS} (r : QS I w W base top nb l s) (h : Below W.heap.size W W') : QS I w W' base top nb l s :=
  ⟨I.keep r.p h.size (fun j h1 h2 => h.block j (by have := I.top r.p; omega)), r.b.trans (h.mono r.b.size), r.wb⟩
theorem u16w (n : Int) : IntKind.i64.wrap (IntKind.u16.wrap n) = n % 65536 := by
  have h : IntKind.u16.wrap n = n % 65536 := by simp [IntKind.wrap, IntKind.bits, IntKind.signed]
  rw [h]
  exact IntWalk.i64_in _ (by omega)
set_option maxRecDepth 100000 in
set_option maxHeartbeats 4000000 in
theorem wback_walk (C : OutT) (X : WireO C) (I : InT) (Z : WireI I) (a : Option Addr) (len cap : Nat) (f : Nat → OpI) (w : World) (D : OpsM w a len cap f) :
    Calls Try.prog 4 #[.slice a len cap] w fun e w' => e = .returned (.bool true) ∧ Below w.heap.size w w' := by
  have HD := Lib.hid D
  by_cases few : fewW len f
  · have FB := Lib.hid (show decide (fewW len f) = true from decide_eq_true few)
    have FW := Lib.hid (wfew_any a len cap f w D)
    rw [FB.out] at FW
    have HF := Lib.hid few.2
    have few' := Lib.hid few
    have hlen := few.1
    obtain ⟨v0, hz, hv0⟩ := X.zero w.heap.size w (Nat.le_refl _)
    have S0 := Lib.hid (show PS C w (w.alloc (.cells #[.slice none 0 0] 27)) w.heap.size v0 (.slice none 0 0) [] [] from ⟨hz, OB.nil _ _, (Below.refl _ _).alloc (Nat.le_refl _) _, (by intro e; cases e), fun _ => rfl⟩)
    have HX := Lib.hid X
    have HZ := Lib.hid Z
    clear hz hv0 few FB D X Z
    go_enter Try.func4, Try.ntmps4
    go_wp2_with fail
    refine FW.out.mono ?_
    rintro e w1 ⟨rfl, rfl⟩
    clear FW
    go_wp2
    obtain ⟨nb, hnb⟩ : ∃ nb, w1.heap.size = nb := ⟨_, rfl⟩
    rw [hnb] at S0 ⊢
    clear hnb
    go_loopw [4] (fun i wr => ∃ (j : Nat) (v : Value), j ≤ len ∧ i = .int .i64 j ∧ PS C w1 wr nb v (.slice none 0 0) (encL f j) []) (fun i _ => len - (intOf i).toNat)
    case atStart => exact ⟨0, v0, by omega, rfl, S0.out⟩
    case round =>
      clear S0
      obtain ⟨j, v, hj, rfl, hS⟩ := hrel
      have S0 := Lib.hid hS
      clear hS
      by_cases hj' : j < len
      · have hok := HD.out.wf j hj'
        obtain ⟨b, off, rfl, hb, -⟩ := HD.out.at' (by omega)
        have c0 := (HD.out.at S0.out.b).cell hj' 0 _ rfl
        have c1 := (HD.out.at S0.out.b).cell hj' 1 _ rfl
        have c2 := (HD.out.at S0.out.b).cell hj' 2 _ rfl
        have c3 := (HD.out.at S0.out.b).cell hj' 3 _ rfl
        have c4 := (HD.out.at S0.out.b).cell hj' 4 _ rfl
        rw [Nat.add_zero] at c0
        have hs50 := HF.out j hj'
        have KW := Lib.hid (fun (W : World) => wkind_any (f j) W hok)
        have hkin := kind_in (f j).k
        obtain ⟨q, hq⟩ : ∃ q, kindI (f j).k = q := ⟨_, rfl⟩
        rw [hq] at KW hkin
        have HQ := Lib.hid hq
        clear hq
        go_wp2_with fail
        refine (KW.out _).mono ?_
        rintro e w2 ⟨rfl, h⟩
        have S1 := Lib.hid (S0.out.step h)
        clear h S0 KW c0 c1 c2 c3 c4
        have hcell := (HD.out.at S1.out.b).cell hj'
        have n0 := bounds_i64 hok.n
        have q05 : q = 0 ∨ q = 1 ∨ q = 2 ∨ q = 3 ∨ q = 4 ∨ q = 5 := by omega
        clear hkin
        rcases q05 with rfl | rfl | rfl | rfl | rfl | rfl
        · have E : enc (f j) = numB (tw64 (f j).n) 8 := by unfold enc; rw [HQ.out]; rfl
          have cf := (hcell 1 _ rfl)
          have EL := Lib.hid (encL_len HF.out (j + 1) (by omega))
          go_wp2_with fail
          refine (HX.out.num (f j).n n0 w1.heap.size _ nb v (encL f j) S1.out.p S1.out.b.size (by have := EL.out; have h2 : encL f (j + 1) = encL f j ++ enc (f j) := rfl; rw [h2, E, List.length_append] at this; omega)).mono ?_
          rintro e w2 ⟨rfl, v2, hp, hk, hv⟩
          have S2 := Lib.hid (show PS C w1 w2 nb v2 (.slice none 0 0) (encL f (j + 1)) [] by
            show PS C w1 w2 nb v2 (.slice none 0 0) (encL f j ++ enc (f j)) []
            rw [E]; exact S1.out.put hp hk hv)
          clear hp hk hv S1 cf hcell
          go_wp2
          go_roundw
          case rel => exact ⟨j + 1, v2, by omega, by go_num, S2.out⟩
          case measure => (simp [intOf]; try omega)
        · have E : enc (f j) = u16B (f j).n := by unfold enc; rw [HQ.out]; rfl
          have cf := (hcell 1 _ rfl)
          have EL := Lib.hid (encL_len HF.out (j + 1) (by omega))
          go_wp2_with fail
          refine (HX.out.count (f j).n n0 w1.heap.size _ nb v (encL f j) S1.out.p S1.out.b.size (by have := EL.out; have h2 : encL f (j + 1) = encL f j ++ enc (f j) := rfl; rw [h2, E, List.length_append] at this; omega)).mono ?_
          rintro e w2 ⟨rfl, v2, hp, hk, hv⟩
          have S2 := Lib.hid (show PS C w1 w2 nb v2 (.slice none 0 0) (encL f (j + 1)) [] by
            show PS C w1 w2 nb v2 (.slice none 0 0) (encL f j ++ enc (f j)) []
            rw [E]; exact S1.out.put hp hk hv)
          clear hp hk hv S1 cf hcell
          go_wp2
          go_roundw
          case rel => exact ⟨j + 1, v2, by omega, by go_num, S2.out⟩
          case measure => (simp [intOf]; try omega)
        · have E : enc (f j) = flagB (f j).b := by unfold enc; rw [HQ.out]; rfl
          have cf := (hcell 2 _ rfl)
          have EL := Lib.hid (encL_len HF.out (j + 1) (by omega))
          go_wp2_with fail
          refine (HX.out.flag (f j).b w1.heap.size _ nb v (encL f j) S1.out.p S1.out.b.size (by have := EL.out; have h2 : encL f (j + 1) = encL f j ++ enc (f j) := rfl; rw [h2, E, List.length_append] at this; omega)).mono ?_
          rintro e w2 ⟨rfl, v2, hp, hk, hv⟩
          have S2 := Lib.hid (show PS C w1 w2 nb v2 (.slice none 0 0) (encL f (j + 1)) [] by
            show PS C w1 w2 nb v2 (.slice none 0 0) (encL f j ++ enc (f j)) []
            rw [E]; exact S1.out.put hp hk hv)
          clear hp hk hv S1 cf hcell
          go_wp2
          go_roundw
          case rel => exact ⟨j + 1, v2, by omega, by go_num, S2.out⟩
          case measure => (simp [intOf]; try omega)
        · have E : enc (f j) = markB (f j).s 4 := by unfold enc; rw [HQ.out]; rfl
          have cf := (hcell 3 _ rfl)
          have EL := Lib.hid (encL_len HF.out (j + 1) (by omega))
          go_wp2_with fail
          refine (HX.out.mark (f j).s w1.heap.size _ nb v (encL f j) S1.out.p S1.out.b.size (by have := EL.out; have h2 : encL f (j + 1) = encL f j ++ enc (f j) := rfl; rw [h2, E, List.length_append] at this; omega)).mono ?_
          rintro e w2 ⟨rfl, v2, hp, hk, hv⟩
          have S2 := Lib.hid (show PS C w1 w2 nb v2 (.slice none 0 0) (encL f (j + 1)) [] by
            show PS C w1 w2 nb v2 (.slice none 0 0) (encL f j ++ enc (f j)) []
            rw [E]; exact S1.out.put hp hk hv)
          clear hp hk hv S1 cf hcell
          go_wp2
          go_roundw
          case rel => exact ⟨j + 1, v2, by omega, by go_num, S2.out⟩
          case measure => (simp [intOf]; try omega)
        · have E : enc (f j) = strB (f j).s := by unfold enc; rw [HQ.out]; rfl
          have EL := Lib.hid (encL_len HF.out (j + 1) (by omega))
          obtain ⟨s, hs⟩ : ∃ s, (f j).s = s := ⟨_, rfl⟩
          have cf : w2.cell? ⟨b, off + j * 5 + 3, none⟩ = some (.string s) := by rw [← hs]; exact hcell 3 _ rfl
          rw [hs] at E
          have HE := Lib.hid E
          obtain ⟨c, W2, hcv, hbl, hbe, hsz, hsc⟩ := conv_str (P := Try.prog) w2 s 9 25 5 rfl rfl rfl
          have HBL := Lib.hid hbl
          have HBE := Lib.hid hbe
          have HSC := Lib.hid hsc
          clear hbl hbe hsz hsc hs E
          have S2 := Lib.hid (S1.out.step HBE.out)
          have L0 := C.lo S1.out.p
          have NE := Lib.hid (show ∀ p, some (⟨w2.heap.size, 0, none⟩ : Addr) = some p → p.block ≠ nb ∧ v.ownBlock ≠ some p.block from fun p e => by
            cases e
            refine ⟨fun e => ?_, fun e => ?_⟩
            · have e : w2.heap.size = nb := e
              omega
            · have := (C.row S1.out.p e).2.1
              exact absurd this (by show ¬ w2.heap.size < _; omega))
          clear L0 S1 hcell
          go_wp2_with fail
          refine (HX.out.raw w1.heap.size W2 nb v (encL f j) S2.out.p S2.out.b.size (some ⟨w2.heap.size, 0, none⟩) s.size c (strB s) HBL.out HSC.out (by have := EL.out; have h2 : encL f (j + 1) = encL f j ++ enc (f j) := rfl; rw [h2, HE.out, List.length_append] at this; omega) NE.out).mono ?_
          rintro e w3 ⟨rfl, v2, hp, hk, hv⟩
          have S3 := Lib.hid (show PS C w1 w3 nb v2 (.slice none 0 0) (encL f (j + 1)) [] by
            show PS C w1 w3 nb v2 (.slice none 0 0) (encL f j ++ enc (f j)) []
            rw [HE.out]; exact S2.out.put hp hk hv)
          clear hp hk hv S2 cf hcv HBL HBE HSC NE EL
          go_wp2
          go_roundw
          case rel => exact ⟨j + 1, v2, by omega, by go_num, S3.out⟩
          case measure => (simp [intOf]; try omega)
        · have E : enc (f j) = numB (tw64 (f j).n) 8 := by unfold enc; rw [HQ.out]; rfl
          have cf := (hcell 1 _ rfl)
          have EL := Lib.hid (encL_len HF.out (j + 1) (by omega))
          go_wp2_with fail
          refine (HX.out.num (f j).n n0 w1.heap.size _ nb v (encL f j) S1.out.p S1.out.b.size (by have := EL.out; have h2 : encL f (j + 1) = encL f j ++ enc (f j) := rfl; rw [h2, E, List.length_append] at this; omega)).mono ?_
          rintro e w2 ⟨rfl, v2, hp, hk, hv⟩
          have S2 := Lib.hid (show PS C w1 w2 nb v2 (.slice none 0 0) (encL f (j + 1)) [] by
            show PS C w1 w2 nb v2 (.slice none 0 0) (encL f j ++ enc (f j)) []
            rw [E]; exact S1.out.put hp hk hv)
          clear hp hk hv S1 cf hcell
          go_wp2
          go_roundw
          case rel => exact ⟨j + 1, v2, by omega, by go_num, S2.out⟩
          case measure => (simp [intOf]; try omega)
      · have e : j = len := by omega
        have HE := Lib.hid e
        have e2 : ¬ (j : Int) < (len : Int) := by omega
        rw [e] at S0
        clear e
        go_wp2_with fail
        refine (HX.out.bytes w1.heap.size _ nb v (encL f len) S0.out.p (encL_in f len)).mono ?_
        rintro e w2 ⟨⟨x, rfl, hx⟩, hb⟩
        obtain ⟨ax, cx, rfl, hbx, hax⟩ := hx.bl (encL_in f len)
        have HBX := Lib.hid hbx
        have B2 := Lib.hid (S0.out.b.trans (hb.mono S0.out.b.size))
        have LL := Lib.hid (encL_len HF.out len (Nat.le_refl _))
        have HCX := Lib.hid (show (encL f len).length ≤ cx ∧ cx ≤ maxLen by
          rcases hx with ⟨h, e⟩ | ⟨g, cap, h, _, _, h1, h2, _⟩
          · injection h with h1 h2 h3
            rw [h2, ← h3]; exact ⟨Nat.le_refl _, by unfold maxLen; omega⟩
          · injection h with h1' h2' h3'
            rw [byC_length] at h1
            rw [h3']; exact ⟨h1, h2⟩)
        clear hx hb hbx hax S0 HX
        go_wp2_with fail
        refine (HZ.out.new ax (encL f len).length cx (encL f len) w2 HBX.out HCX.out.1 HCX.out.2 (by have := LL.out; omega)).mono ?_
        rintro e w3 ⟨ni, rfl, hp, hb⟩
        have R0 := Lib.hid (show QS I w1 w3 w2.heap.size w3.heap.size ni (encL f len) ⟨0, 0, 0, 0⟩ from ⟨hp, B2.out.trans (hb.mono B2.out.size), B2.out.size⟩)
        clear hp hb HBX B2 LL HCX HF
        obtain ⟨base, hbase⟩ : ∃ base, w2.heap.size = base := ⟨_, rfl⟩
        obtain ⟨top, htop⟩ : ∃ top, w3.heap.size = top := ⟨_, rfl⟩
        rw [hbase, htop] at R0
        clear hbase htop e2
        have HF := Lib.hid few'.out.2
        go_wp2
        go_loopw [6] (fun i wr => ∃ (k : Nat) (s : IS), k ≤ len ∧ i = .int .i64 k ∧ At f k s ∧ QS I w1 wr base top ni (encL f len) s) (fun i _ => len - (intOf i).toNat)
        case atStart => exact ⟨0, _, by omega, rfl, ⟨rfl, rfl, rfl⟩, R0.out⟩
        case round =>
          clear R0
          obtain ⟨k, s, hk, rfl, hA, hR⟩ := hrel
          have A0 := Lib.hid hA
          have R0 := Lib.hid hR
          clear hA hR
          by_cases hk' : k < len
          · have hok := HD.out.wf k hk'
            obtain ⟨b, off, rfl, hb, -⟩ := HD.out.at' (by omega)
            have c0 := (HD.out.at R0.out.b).cell hk' 0 _ rfl
            have c1 := (HD.out.at R0.out.b).cell hk' 1 _ rfl
            have c2 := (HD.out.at R0.out.b).cell hk' 2 _ rfl
            have c3 := (HD.out.at R0.out.b).cell hk' 3 _ rfl
            have c4 := (HD.out.at R0.out.b).cell hk' 4 _ rfl
            rw [Nat.add_zero] at c0
            have hs50 := HF.out k hk'
            have KW := Lib.hid (fun (W : World) => wkind_any (f k) W hok)
            have hkin := kind_in (f k).k
            obtain ⟨q, hq⟩ : ∃ q, kindI (f k).k = q := ⟨_, rfl⟩
            rw [hq] at KW hkin
            have HQ := Lib.hid hq
            clear hq
            go_wp2_with fail
            refine (KW.out _).mono ?_
            rintro e w4 ⟨rfl, h⟩
            have R1 := Lib.hid (R0.out.step h)
            clear h R0 KW c0 c1 c2 c3 c4
            have n0 := bounds_i64 hok.n
            have q05 : q = 0 ∨ q = 1 ∨ q = 2 ∨ q = 3 ∨ q = 4 ∨ q = 5 := by omega
            clear hkin
            rcases q05 with rfl | rfl | rfl | rfl | rfl | rfl
            · have V := Lib.hid (at_num A0.out hk' (Or.inl HQ.out) n0)
              have cf := (HD.out.at R1.out.b).cell hk' 1 _ rfl
              go_wp2_with fail
              have R9 := Lib.hid (R1.out.step ((Below.refl _ _).drew))
              refine wp_region_held_drew (S := fun W => W.cell? ⟨b, off + k * 5 + 1, none⟩ = some (.int .i64 (f k).n)) (by kernel_rfl) cf (fun hHeld => ?_)
              generalize w4.drew = w8 at *
              clear R1 cf
              refine wpAnyH_takeD 0 85 (v := ?_) (by kernel_rfl) (by kernel_rfl) (by kernel_rfl) (by kernel_rfl) (by rfl) (fun _ _ _ h => h) ?_ hHeld ?_
              rotate_left 1
              (intro o ho W hSw; simp only [List.getElem?_toArray, List.getElem?_cons_succ, List.getElem?_cons_zero, Option.some.injEq] at ho; subst ho; (try dsimp only at hSw); go_simp; try with_reducible rfl)
              (try simp only [Act.put, List.setIfInBounds_toArray, List.set_cons_zero, List.set_cons_succ])
              refine wpAnyH_takeD 2 87 (v := ?_) (by kernel_rfl) (by kernel_rfl) (by kernel_rfl) (by kernel_rfl) (by rfl) (fun _ _ _ h => h) ?_ hHeld ?_
              rotate_left 1
              (intro o ho W hSw; simp only [List.getElem?_toArray, List.getElem?_cons_succ, List.getElem?_cons_zero, Option.some.injEq] at ho; subst ho; (try dsimp only at hSw); go_simp; try with_reducible rfl)
              (try simp only [Act.put, List.setIfInBounds_toArray, List.set_cons_zero, List.set_cons_succ])
              refine wpAnyH_takeD 3 88 (v := ?_) (by kernel_rfl) (by kernel_rfl) (by kernel_rfl) (by kernel_rfl) (by rfl) (fun _ _ _ h => h) ?_ hHeld ?_
              rotate_left 1
              (intro o ho W hSw; simp only [List.getElem?_toArray, List.getElem?_cons_succ, List.getElem?_cons_zero, Option.some.injEq] at ho; subst ho; (try dsimp only at hSw); go_simp; try with_reducible rfl)
              (try simp only [Act.put, List.setIfInBounds_toArray, List.set_cons_zero, List.set_cons_succ])
              refine wpAnyH_takeD 4 89 (v := ?_) (by kernel_rfl) (by kernel_rfl) (by kernel_rfl) (by kernel_rfl) (by rfl) (fun _ _ _ h => h) ?_ hHeld ?_
              rotate_left 1
              (intro o ho W hSw; simp only [List.getElem?_toArray, List.getElem?_cons_succ, List.getElem?_cons_zero, Option.some.injEq] at ho; subst ho; (try dsimp only at hSw); go_simp; try with_reducible rfl)
              (try simp only [Act.put, List.setIfInBounds_toArray, List.set_cons_zero, List.set_cons_succ])
              refine wpAnyH_takeD 5 90 (v := ?_) (by kernel_rfl) (by kernel_rfl) (by kernel_rfl) (by kernel_rfl) (by rfl) (fun _ _ _ h => h) ?_ hHeld ?_
              rotate_left 1
              (intro o ho W hSw; simp only [List.getElem?_toArray, List.getElem?_cons_succ, List.getElem?_cons_zero, Option.some.injEq] at ho; subst ho; (try dsimp only at hSw); go_simp; try with_reducible rfl)
              (try simp only [Act.put, List.setIfInBounds_toArray, List.set_cons_zero, List.set_cons_succ])
              refine wpAnyH_takeD 6 91 (v := ?_) (by kernel_rfl) (by kernel_rfl) (by kernel_rfl) (by kernel_rfl) (by rfl) (fun _ _ _ h => h) ?_ hHeld ?_
              rotate_left 1
              (intro o ho W hSw; simp only [List.getElem?_toArray, List.getElem?_cons_succ, List.getElem?_cons_zero, Option.some.injEq] at ho; subst ho; (try dsimp only at hSw); go_simp; try with_reducible rfl)
              (try simp only [Act.put, List.setIfInBounds_toArray, List.set_cons_zero, List.set_cons_succ])
              refine wpAnyH_onlyD 1 (by kernel_rfl) (fun o ho K hK => ?_) (by kernel_rfl)
              simp only [List.getElem?_toArray, List.getElem?_cons_succ, List.getElem?_cons_zero, Option.some.injEq] at ho
              subst ho
              go_simp
              refine (HZ.out.num _ _ _ ni _ s R9.out.p).mono ?_
              rintro e w5 ⟨rfl, hp, hm⟩
              rw [V.out.1]
              have R2 := Lib.hid (R9.out.mine hp hm)
              go_wp2_with fail
              refine hK.out _ _ ((HD.out.at R2.out.b).cell hk' 1 _ rfl) ?_
              clear hK K hHeld
              intro hHeld
              clear hp hm R9
              refine wpAnyH_takeD 7 92 (v := ?_) (by kernel_rfl) (by kernel_rfl) (by kernel_rfl) (by kernel_rfl) (by rfl) (fun _ _ _ h => h) ?_ hHeld ?_
              rotate_left 1
              (intro o ho W hSw; simp only [List.getElem?_toArray, List.getElem?_cons_succ, List.getElem?_cons_zero, Option.some.injEq] at ho; subst ho; (try dsimp only at hSw); go_simp; try with_reducible rfl)
              (try simp only [Act.put, List.setIfInBounds_toArray, List.set_cons_zero, List.set_cons_succ])
              refine wpAnyH_done (by kernel_rfl) ?_ _
              clear hHeld
              go_wp2
              go_roundw
              case rel => exact ⟨k + 1, _, by omega, by go_num, V.out.2, R2.out⟩
              case measure => (simp [intOf]; try omega)
            · have V := Lib.hid (And.intro ((at_count A0.out hk' HQ.out).1.trans (u16w (f k).n).symm) (at_count A0.out hk' HQ.out).2)
              have cf := (HD.out.at R1.out.b).cell hk' 1 _ rfl
              go_wp2_with fail
              have R9 := Lib.hid (R1.out.step ((Below.refl _ _).drew))
              refine wp_region_held_drew (S := fun W => W.cell? ⟨b, off + k * 5 + 1, none⟩ = some (.int .i64 (f k).n)) (by kernel_rfl) cf (fun hHeld => ?_)
              generalize w4.drew = w8 at *
              clear R1 cf
              refine wpAnyH_takeD 0 95 (v := ?_) (by kernel_rfl) (by kernel_rfl) (by kernel_rfl) (by kernel_rfl) (by rfl) (fun _ _ _ h => h) ?_ hHeld ?_
              rotate_left 1
              (intro o ho W hSw; simp only [List.getElem?_toArray, List.getElem?_cons_succ, List.getElem?_cons_zero, Option.some.injEq] at ho; subst ho; (try dsimp only at hSw); go_simp; try with_reducible rfl)
              (try simp only [Act.put, List.setIfInBounds_toArray, List.set_cons_zero, List.set_cons_succ])
              refine wpAnyH_takeD 2 97 (v := ?_) (by kernel_rfl) (by kernel_rfl) (by kernel_rfl) (by kernel_rfl) (by rfl) (fun _ _ _ h => h) ?_ hHeld ?_
              rotate_left 1
              (intro o ho W hSw; simp only [List.getElem?_toArray, List.getElem?_cons_succ, List.getElem?_cons_zero, Option.some.injEq] at ho; subst ho; (try dsimp only at hSw); go_simp; try with_reducible rfl)
              (try simp only [Act.put, List.setIfInBounds_toArray, List.set_cons_zero, List.set_cons_succ])
              refine wpAnyH_takeD 3 98 (v := ?_) (by kernel_rfl) (by kernel_rfl) (by kernel_rfl) (by kernel_rfl) (by rfl) (fun _ _ _ h => h) ?_ hHeld ?_
              rotate_left 1
              (intro o ho W hSw; simp only [List.getElem?_toArray, List.getElem?_cons_succ, List.getElem?_cons_zero, Option.some.injEq] at ho; subst ho; (try dsimp only at hSw); go_simp; try with_reducible rfl)
              (try simp only [Act.put, List.setIfInBounds_toArray, List.set_cons_zero, List.set_cons_succ])
              refine wpAnyH_takeD 4 99 (v := ?_) (by kernel_rfl) (by kernel_rfl) (by kernel_rfl) (by kernel_rfl) (by rfl) (fun _ _ _ h => h) ?_ hHeld ?_
              rotate_left 1
              (intro o ho W hSw; simp only [List.getElem?_toArray, List.getElem?_cons_succ, List.getElem?_cons_zero, Option.some.injEq] at ho; subst ho; (try dsimp only at hSw); go_simp; try with_reducible rfl)
              (try simp only [Act.put, List.setIfInBounds_toArray, List.set_cons_zero, List.set_cons_succ])
              refine wpAnyH_takeD 5 100 (v := ?_) (by kernel_rfl) (by kernel_rfl) (by kernel_rfl) (by kernel_rfl) (by rfl) (fun _ _ _ h => h) ?_ hHeld ?_
              rotate_left 1
              (intro o ho W hSw; simp only [List.getElem?_toArray, List.getElem?_cons_succ, List.getElem?_cons_zero, Option.some.injEq] at ho; subst ho; (try dsimp only at hSw); go_simp; try with_reducible rfl)
              (try simp only [Act.put, List.setIfInBounds_toArray, List.set_cons_zero, List.set_cons_succ])
              refine wpAnyH_takeD 6 101 (v := ?_) (by kernel_rfl) (by kernel_rfl) (by kernel_rfl) (by kernel_rfl) (by rfl) (fun _ _ _ h => h) ?_ hHeld ?_
              rotate_left 1
              (intro o ho W hSw; simp only [List.getElem?_toArray, List.getElem?_cons_succ, List.getElem?_cons_zero, Option.some.injEq] at ho; subst ho; (try dsimp only at hSw); go_simp; try with_reducible rfl)
              (try simp only [Act.put, List.setIfInBounds_toArray, List.set_cons_zero, List.set_cons_succ])
              refine wpAnyH_takeD 7 102 (v := ?_) (by kernel_rfl) (by kernel_rfl) (by kernel_rfl) (by kernel_rfl) (by rfl) (fun _ _ _ h => h) ?_ hHeld ?_
              rotate_left 1
              (intro o ho W hSw; simp only [List.getElem?_toArray, List.getElem?_cons_succ, List.getElem?_cons_zero, Option.some.injEq] at ho; subst ho; (try dsimp only at hSw); go_simp; try with_reducible rfl)
              (try simp only [Act.put, List.setIfInBounds_toArray, List.set_cons_zero, List.set_cons_succ])
              refine wpAnyH_takeD 8 103 (v := ?_) (by kernel_rfl) (by kernel_rfl) (by kernel_rfl) (by kernel_rfl) (by rfl) (fun _ _ _ h => h) ?_ hHeld ?_
              rotate_left 1
              (intro o ho W hSw; simp only [List.getElem?_toArray, List.getElem?_cons_succ, List.getElem?_cons_zero, Option.some.injEq] at ho; subst ho; (try dsimp only at hSw); go_simp; try with_reducible rfl)
              (try simp only [Act.put, List.setIfInBounds_toArray, List.set_cons_zero, List.set_cons_succ])
              refine wpAnyH_onlyD 1 (by kernel_rfl) (fun o ho K hK => ?_) (by kernel_rfl)
              simp only [List.getElem?_toArray, List.getElem?_cons_succ, List.getElem?_cons_zero, Option.some.injEq] at ho
              subst ho
              go_simp
              refine (HZ.out.count 0 65535 _ _ _ ni _ s (by unfold In64Y; omega) (by unfold In64Y; omega) R9.out.p).mono ?_
              rintro e w5 ⟨rfl, hp, hm⟩
              rw [V.out.1]
              have R2 := Lib.hid (R9.out.mine hp hm)
              go_wp2_with fail
              refine hK.out _ _ ((HD.out.at R2.out.b).cell hk' 1 _ rfl) ?_
              clear hK K hHeld
              intro hHeld
              clear hp hm R9
              refine wpAnyH_takeD 9 104 (v := ?_) (by kernel_rfl) (by kernel_rfl) (by kernel_rfl) (by kernel_rfl) (by rfl) (fun _ _ _ h => h) ?_ hHeld ?_
              rotate_left 1
              (intro o ho W hSw; simp only [List.getElem?_toArray, List.getElem?_cons_succ, List.getElem?_cons_zero, Option.some.injEq] at ho; subst ho; (try dsimp only at hSw); go_simp; try with_reducible rfl)
              (try simp only [Act.put, List.setIfInBounds_toArray, List.set_cons_zero, List.set_cons_succ])
              refine wpAnyH_done (by kernel_rfl) ?_ _
              clear hHeld
              go_wp2
              go_roundw
              case rel => exact ⟨k + 1, _, by omega, by go_num, V.out.2, R2.out⟩
              case measure => (simp [intOf]; try omega)
            · have V := Lib.hid (at_flag A0.out hk' HQ.out)
              have cf := (HD.out.at R1.out.b).cell hk' 2 _ rfl
              go_wp2_with fail
              have R9 := Lib.hid (R1.out.step ((Below.refl _ _).drew))
              refine wp_region_held_drew (S := fun W => W.cell? ⟨b, off + k * 5 + 2, none⟩ = some (.bool (f k).b)) (by kernel_rfl) cf (fun hHeld => ?_)
              generalize w4.drew = w8 at *
              clear R1 cf
              refine wpAnyH_takeD 0 107 (v := ?_) (by kernel_rfl) (by kernel_rfl) (by kernel_rfl) (by kernel_rfl) (by rfl) (fun _ _ _ h => h) ?_ hHeld ?_
              rotate_left 1
              (intro o ho W hSw; simp only [List.getElem?_toArray, List.getElem?_cons_succ, List.getElem?_cons_zero, Option.some.injEq] at ho; subst ho; (try dsimp only at hSw); go_simp; try with_reducible rfl)
              (try simp only [Act.put, List.setIfInBounds_toArray, List.set_cons_zero, List.set_cons_succ])
              refine wpAnyH_takeD 2 109 (v := ?_) (by kernel_rfl) (by kernel_rfl) (by kernel_rfl) (by kernel_rfl) (by rfl) (fun _ _ _ h => h) ?_ hHeld ?_
              rotate_left 1
              (intro o ho W hSw; simp only [List.getElem?_toArray, List.getElem?_cons_succ, List.getElem?_cons_zero, Option.some.injEq] at ho; subst ho; (try dsimp only at hSw); go_simp; try with_reducible rfl)
              (try simp only [Act.put, List.setIfInBounds_toArray, List.set_cons_zero, List.set_cons_succ])
              refine wpAnyH_takeD 3 110 (v := ?_) (by kernel_rfl) (by kernel_rfl) (by kernel_rfl) (by kernel_rfl) (by rfl) (fun _ _ _ h => h) ?_ hHeld ?_
              rotate_left 1
              (intro o ho W hSw; simp only [List.getElem?_toArray, List.getElem?_cons_succ, List.getElem?_cons_zero, Option.some.injEq] at ho; subst ho; (try dsimp only at hSw); go_simp; try with_reducible rfl)
              (try simp only [Act.put, List.setIfInBounds_toArray, List.set_cons_zero, List.set_cons_succ])
              refine wpAnyH_takeD 4 111 (v := ?_) (by kernel_rfl) (by kernel_rfl) (by kernel_rfl) (by kernel_rfl) (by rfl) (fun _ _ _ h => h) ?_ hHeld ?_
              rotate_left 1
              (intro o ho W hSw; simp only [List.getElem?_toArray, List.getElem?_cons_succ, List.getElem?_cons_zero, Option.some.injEq] at ho; subst ho; (try dsimp only at hSw); go_simp; try with_reducible rfl)
              (try simp only [Act.put, List.setIfInBounds_toArray, List.set_cons_zero, List.set_cons_succ])
              refine wpAnyH_takeD 5 112 (v := ?_) (by kernel_rfl) (by kernel_rfl) (by kernel_rfl) (by kernel_rfl) (by rfl) (fun _ _ _ h => h) ?_ hHeld ?_
              rotate_left 1
              (intro o ho W hSw; simp only [List.getElem?_toArray, List.getElem?_cons_succ, List.getElem?_cons_zero, Option.some.injEq] at ho; subst ho; (try dsimp only at hSw); go_simp; try with_reducible rfl)
              (try simp only [Act.put, List.setIfInBounds_toArray, List.set_cons_zero, List.set_cons_succ])
              refine wpAnyH_takeD 6 113 (v := ?_) (by kernel_rfl) (by kernel_rfl) (by kernel_rfl) (by kernel_rfl) (by rfl) (fun _ _ _ h => h) ?_ hHeld ?_
              rotate_left 1
              (intro o ho W hSw; simp only [List.getElem?_toArray, List.getElem?_cons_succ, List.getElem?_cons_zero, Option.some.injEq] at ho; subst ho; (try dsimp only at hSw); go_simp; try with_reducible rfl)
              (try simp only [Act.put, List.setIfInBounds_toArray, List.set_cons_zero, List.set_cons_succ])
              refine wpAnyH_onlyD 1 (by kernel_rfl) (fun o ho K hK => ?_) (by kernel_rfl)
              simp only [List.getElem?_toArray, List.getElem?_cons_succ, List.getElem?_cons_zero, Option.some.injEq] at ho
              subst ho
              go_simp
              refine (HZ.out.flag _ _ _ ni _ s R9.out.p).mono ?_
              rintro e w5 ⟨rfl, hp, hm⟩
              rw [V.out.1]
              have R2 := Lib.hid (R9.out.mine hp hm)
              go_wp2_with fail
              refine hK.out _ _ ((HD.out.at R2.out.b).cell hk' 2 _ rfl) ?_
              clear hK K hHeld
              intro hHeld
              clear hp hm R9
              refine wpAnyH_takeD 7 114 (v := ?_) (by kernel_rfl) (by kernel_rfl) (by kernel_rfl) (by kernel_rfl) (by rfl) (fun _ _ _ h => h) ?_ hHeld ?_
              rotate_left 1
              (intro o ho W hSw; simp only [List.getElem?_toArray, List.getElem?_cons_succ, List.getElem?_cons_zero, Option.some.injEq] at ho; subst ho; (try dsimp only at hSw); go_simp; try with_reducible rfl)
              (try simp only [Act.put, List.setIfInBounds_toArray, List.set_cons_zero, List.set_cons_succ])
              refine wpAnyH_done (by kernel_rfl) ?_ _
              clear hHeld
              go_wp2
              go_roundw
              case rel => exact ⟨k + 1, _, by omega, by go_num, V.out.2, R2.out⟩
              case measure => (simp [intOf]; try omega)
            · have V := Lib.hid (at_mark A0.out hk' HQ.out)
              have cf := (HD.out.at R1.out.b).cell hk' 3 _ rfl
              go_wp2_with fail
              refine (HZ.out.mark (f k).s _ _ _ ni _ s R1.out.p).mono ?_
              rintro e w5 ⟨rfl, hp, hm⟩
              have R2 := Lib.hid (R1.out.mine hp hm)
              clear hp hm R1 cf
              obtain ⟨s2, hs2⟩ : ∃ s2, mkS (f k).s (encL f len) s = s2 := ⟨_, rfl⟩
              rw [hs2] at R2 V
              clear hs2
              go_wp2
              go_roundw
              case rel => exact ⟨k + 1, s2, by omega, by go_num, V.out, R2.out⟩
              case measure => (simp [intOf]; try omega)
            · have V := Lib.hid (at_raw A0.out hk' HQ.out hs50)
              obtain ⟨t, ht⟩ : ∃ t, (f k).s = t := ⟨_, rfl⟩
              rw [ht] at V hs50
              have cf : w4.cell? ⟨b, off + k * 5 + 3, none⟩ = some (.string t) := by rw [← ht]; exact (HD.out.at R1.out.b).cell hk' 3 _ rfl
              have HT := Lib.hid ht
              clear ht
              go_wp2_with fail
              have R9 := Lib.hid (R1.out.step ((Below.refl _ _).drew))
              refine wp_region_held_drew (S := fun W => W.cell? ⟨b, off + k * 5 + 3, none⟩ = some (.string t)) (by kernel_rfl) cf (fun hHeld => ?_)
              generalize w4.drew = w8 at *
              clear R1 cf
              refine wpAnyH_takeD 0 126 (v := ?_) (by kernel_rfl) (by kernel_rfl) (by kernel_rfl) (by kernel_rfl) (by rfl) (fun _ _ _ h => h) ?_ hHeld ?_
              rotate_left 1
              (intro o ho W hSw; simp only [List.getElem?_toArray, List.getElem?_cons_succ, List.getElem?_cons_zero, Option.some.injEq] at ho; subst ho; (try dsimp only at hSw); go_simp; try with_reducible rfl)
              (try simp only [Act.put, List.setIfInBounds_toArray, List.set_cons_zero, List.set_cons_succ])
              refine wpAnyH_takeD 1 127 (v := ?_) (by kernel_rfl) (by kernel_rfl) (by kernel_rfl) (by kernel_rfl) (by rfl) (fun _ _ _ h => h) ?_ hHeld ?_
              rotate_left 1
              (intro o ho W hSw; simp only [List.getElem?_toArray, List.getElem?_cons_succ, List.getElem?_cons_zero, Option.some.injEq] at ho; subst ho; (try dsimp only at hSw); go_simp; try with_reducible rfl)
              (try simp only [Act.put, List.setIfInBounds_toArray, List.set_cons_zero, List.set_cons_succ])
              refine wpAnyH_takeD 2 128 (v := ?_) (by kernel_rfl) (by kernel_rfl) (by kernel_rfl) (by kernel_rfl) (by rfl) (fun _ _ _ h => h) ?_ hHeld ?_
              rotate_left 1
              (intro o ho W hSw; simp only [List.getElem?_toArray, List.getElem?_cons_succ, List.getElem?_cons_zero, Option.some.injEq] at ho; subst ho; (try dsimp only at hSw); go_simp; try with_reducible rfl)
              (try simp only [Act.put, List.setIfInBounds_toArray, List.set_cons_zero, List.set_cons_succ])
              refine wpAnyH_takeD 3 129 (v := ?_) (by kernel_rfl) (by kernel_rfl) (by kernel_rfl) (by kernel_rfl) (by rfl) (fun _ _ _ h => h) ?_ hHeld ?_
              rotate_left 1
              (intro o ho W hSw; simp only [List.getElem?_toArray, List.getElem?_cons_succ, List.getElem?_cons_zero, Option.some.injEq] at ho; subst ho; (try dsimp only at hSw); go_simp; try with_reducible rfl)
              (try simp only [Act.put, List.setIfInBounds_toArray, List.set_cons_zero, List.set_cons_succ])
              refine wpAnyH_takeD 4 130 (v := ?_) (by kernel_rfl) (by kernel_rfl) (by kernel_rfl) (by kernel_rfl) (by rfl) (fun _ _ _ h => h) ?_ hHeld ?_
              rotate_left 1
              (intro o ho W hSw; simp only [List.getElem?_toArray, List.getElem?_cons_succ, List.getElem?_cons_zero, Option.some.injEq] at ho; subst ho; (try dsimp only at hSw); go_simp; try with_reducible rfl)
              (try simp only [Act.put, List.setIfInBounds_toArray, List.set_cons_zero, List.set_cons_succ])
              refine wpAnyH_takeD 5 131 (v := ?_) (by kernel_rfl) (by kernel_rfl) (by kernel_rfl) (by kernel_rfl) (by rfl) (fun _ _ _ h => h) ?_ hHeld ?_
              rotate_left 1
              (intro o ho W hSw; simp only [List.getElem?_toArray, List.getElem?_cons_succ, List.getElem?_cons_zero, Option.some.injEq] at ho; subst ho; (try dsimp only at hSw); go_simp; try with_reducible rfl)
              (try simp only [Act.put, List.setIfInBounds_toArray, List.set_cons_zero, List.set_cons_succ])
              refine wpAnyH_takeD 6 132 (v := ?_) (by kernel_rfl) (by kernel_rfl) (by kernel_rfl) (by kernel_rfl) (by rfl) (fun _ _ _ h => h) ?_ hHeld ?_
              rotate_left 1
              (intro o ho W hSw; simp only [List.getElem?_toArray, List.getElem?_cons_succ, List.getElem?_cons_zero, Option.some.injEq] at ho; subst ho; (try dsimp only at hSw); go_simp; try with_reducible rfl)
              (try simp only [Act.put, List.setIfInBounds_toArray, List.set_cons_zero, List.set_cons_succ])
              refine wpAnyH_takeD 9 135 (v := ?_) (by kernel_rfl) (by kernel_rfl) (by kernel_rfl) (by kernel_rfl) (by rfl) (fun _ _ _ h => h) ?_ hHeld ?_
              rotate_left 1
              (intro o ho W hSw; simp only [List.getElem?_toArray, List.getElem?_cons_succ, List.getElem?_cons_zero, Option.some.injEq] at ho; subst ho; (try dsimp only at hSw); go_simp; try with_reducible rfl)
              (try simp only [Act.put, List.setIfInBounds_toArray, List.set_cons_zero, List.set_cons_succ])
              refine wpAnyH_takeD 10 136 (v := ?_) (by kernel_rfl) (by kernel_rfl) (by kernel_rfl) (by kernel_rfl) (by rfl) (fun _ _ _ h => h) ?_ hHeld ?_
              rotate_left 1
              (intro o ho W hSw; simp only [List.getElem?_toArray, List.getElem?_cons_succ, List.getElem?_cons_zero, Option.some.injEq] at ho; subst ho; (try dsimp only at hSw); go_simp; try with_reducible rfl)
              (try simp only [Act.put, List.setIfInBounds_toArray, List.set_cons_zero, List.set_cons_succ])
              refine wpAnyH_takeD 11 137 (v := ?_) (by kernel_rfl) (by kernel_rfl) (by kernel_rfl) (by kernel_rfl) (by rfl) (fun _ _ _ h => h) ?_ hHeld ?_
              rotate_left 1
              (intro o ho W hSw; simp only [List.getElem?_toArray, List.getElem?_cons_succ, List.getElem?_cons_zero, Option.some.injEq] at ho; subst ho; (try dsimp only at hSw); go_simp; try with_reducible rfl)
              (try simp only [Act.put, List.setIfInBounds_toArray, List.set_cons_zero, List.set_cons_succ])
              refine wpAnyH_takeD 12 138 (v := ?_) (by kernel_rfl) (by kernel_rfl) (by kernel_rfl) (by kernel_rfl) (by rfl) (fun _ _ _ h => h) ?_ hHeld ?_
              rotate_left 1
              (intro o ho W hSw; simp only [List.getElem?_toArray, List.getElem?_cons_succ, List.getElem?_cons_zero, Option.some.injEq] at ho; subst ho; (try dsimp only at hSw); go_simp; try with_reducible rfl)
              (try simp only [Act.put, List.setIfInBounds_toArray, List.set_cons_zero, List.set_cons_succ])
              refine wpAnyH_takeD 13 139 (v := ?_) (by kernel_rfl) (by kernel_rfl) (by kernel_rfl) (by kernel_rfl) (by rfl) (fun _ _ _ h => h) ?_ hHeld ?_
              rotate_left 1
              (intro o ho W hSw; simp only [List.getElem?_toArray, List.getElem?_cons_succ, List.getElem?_cons_zero, Option.some.injEq] at ho; subst ho; (try dsimp only at hSw); go_simp; try with_reducible rfl)
              (try simp only [Act.put, List.setIfInBounds_toArray, List.set_cons_zero, List.set_cons_succ])
              refine wpAnyH_onlyD 7 (by kernel_rfl) (fun o ho K hK => ?_) (by kernel_rfl)
              simp only [List.getElem?_toArray, List.getElem?_cons_succ, List.getElem?_cons_zero, Option.some.injEq] at ho
              subst ho
              go_simp
              refine (HZ.out.raw t.size _ _ _ ni _ s (by omega) R9.out.p).mono ?_
              rintro e w5 ⟨⟨x, rfl, hx⟩, hp, hm⟩
              rw [V.out.1] at hx
              have R2 := Lib.hid (R9.out.mine hp hm)
              have CX := Lib.hid (conv_ob (P := Try.prog) hx (strB_in t) 25 5 9 rfl rfl rfl)
              rw [txt_str] at CX
              go_wp2_with fail
              refine hK.out _ _ (by rw [← HT.out]; exact (HD.out.at R2.out.b).cell hk' 3 _ rfl) ?_
              clear hK K hHeld
              intro hHeld
              clear hp hm R9 hx
              refine wpAnyH_grow (fun W => W.cell? ⟨b, off + k * 5 + 3, none⟩ = some (.string t) ∧ (convert 25 9 x).run Try.prog W = .ok (.string t) W) (fun _ h => h.1) ⟨hHeld, CX.out⟩ (fun hHeld => ?_)
              refine wpAnyH_takeD 8 134 (v := ?_) (by kernel_rfl) (by kernel_rfl) (by kernel_rfl) (by kernel_rfl) (by rfl) (fun _ _ _ h => h) ?_ hHeld ?_
              rotate_left 1
              (intro o ho W hSw; simp only [List.getElem?_toArray, List.getElem?_cons_succ, List.getElem?_cons_zero, Option.some.injEq] at ho; subst ho; (try dsimp only at hSw); go_simp; try with_reducible rfl)
              (try simp only [Act.put, List.setIfInBounds_toArray, List.set_cons_zero, List.set_cons_succ])
              refine wpAnyH_takeD 14 140 (v := ?_) (by kernel_rfl) (by kernel_rfl) (by kernel_rfl) (by kernel_rfl) (by rfl) (fun _ _ _ h => h) ?_ hHeld ?_
              rotate_left 1
              (intro o ho W hSw; simp only [List.getElem?_toArray, List.getElem?_cons_succ, List.getElem?_cons_zero, Option.some.injEq] at ho; subst ho; (try dsimp only at hSw); go_simp; try with_reducible rfl)
              (try simp only [Act.put, List.setIfInBounds_toArray, List.set_cons_zero, List.set_cons_succ])
              refine wpAnyH_done (by kernel_rfl) ?_ _
              clear hHeld CX
              go_wp2
              go_roundw
              case rel => exact ⟨k + 1, _, by omega, by go_num, V.out.2, R2.out⟩
              case measure => (simp [intOf]; try omega)
            · have V := Lib.hid (at_num A0.out hk' (Or.inr HQ.out) n0)
              have cf := (HD.out.at R1.out.b).cell hk' 1 _ rfl
              go_wp2_with fail
              have R9 := Lib.hid (R1.out.step ((Below.refl _ _).drew))
              refine wp_region_held_drew (S := fun W => W.cell? ⟨b, off + k * 5 + 1, none⟩ = some (.int .i64 (f k).n)) (by kernel_rfl) cf (fun hHeld => ?_)
              generalize w4.drew = w8 at *
              clear R1 cf
              refine wpAnyH_takeD 0 85 (v := ?_) (by kernel_rfl) (by kernel_rfl) (by kernel_rfl) (by kernel_rfl) (by rfl) (fun _ _ _ h => h) ?_ hHeld ?_
              rotate_left 1
              (intro o ho W hSw; simp only [List.getElem?_toArray, List.getElem?_cons_succ, List.getElem?_cons_zero, Option.some.injEq] at ho; subst ho; (try dsimp only at hSw); go_simp; try with_reducible rfl)
              (try simp only [Act.put, List.setIfInBounds_toArray, List.set_cons_zero, List.set_cons_succ])
              refine wpAnyH_takeD 2 87 (v := ?_) (by kernel_rfl) (by kernel_rfl) (by kernel_rfl) (by kernel_rfl) (by rfl) (fun _ _ _ h => h) ?_ hHeld ?_
              rotate_left 1
              (intro o ho W hSw; simp only [List.getElem?_toArray, List.getElem?_cons_succ, List.getElem?_cons_zero, Option.some.injEq] at ho; subst ho; (try dsimp only at hSw); go_simp; try with_reducible rfl)
              (try simp only [Act.put, List.setIfInBounds_toArray, List.set_cons_zero, List.set_cons_succ])
              refine wpAnyH_takeD 3 88 (v := ?_) (by kernel_rfl) (by kernel_rfl) (by kernel_rfl) (by kernel_rfl) (by rfl) (fun _ _ _ h => h) ?_ hHeld ?_
              rotate_left 1
              (intro o ho W hSw; simp only [List.getElem?_toArray, List.getElem?_cons_succ, List.getElem?_cons_zero, Option.some.injEq] at ho; subst ho; (try dsimp only at hSw); go_simp; try with_reducible rfl)
              (try simp only [Act.put, List.setIfInBounds_toArray, List.set_cons_zero, List.set_cons_succ])
              refine wpAnyH_takeD 4 89 (v := ?_) (by kernel_rfl) (by kernel_rfl) (by kernel_rfl) (by kernel_rfl) (by rfl) (fun _ _ _ h => h) ?_ hHeld ?_
              rotate_left 1
              (intro o ho W hSw; simp only [List.getElem?_toArray, List.getElem?_cons_succ, List.getElem?_cons_zero, Option.some.injEq] at ho; subst ho; (try dsimp only at hSw); go_simp; try with_reducible rfl)
              (try simp only [Act.put, List.setIfInBounds_toArray, List.set_cons_zero, List.set_cons_succ])
              refine wpAnyH_takeD 5 90 (v := ?_) (by kernel_rfl) (by kernel_rfl) (by kernel_rfl) (by kernel_rfl) (by rfl) (fun _ _ _ h => h) ?_ hHeld ?_
              rotate_left 1
              (intro o ho W hSw; simp only [List.getElem?_toArray, List.getElem?_cons_succ, List.getElem?_cons_zero, Option.some.injEq] at ho; subst ho; (try dsimp only at hSw); go_simp; try with_reducible rfl)
              (try simp only [Act.put, List.setIfInBounds_toArray, List.set_cons_zero, List.set_cons_succ])
              refine wpAnyH_takeD 6 91 (v := ?_) (by kernel_rfl) (by kernel_rfl) (by kernel_rfl) (by kernel_rfl) (by rfl) (fun _ _ _ h => h) ?_ hHeld ?_
              rotate_left 1
              (intro o ho W hSw; simp only [List.getElem?_toArray, List.getElem?_cons_succ, List.getElem?_cons_zero, Option.some.injEq] at ho; subst ho; (try dsimp only at hSw); go_simp; try with_reducible rfl)
              (try simp only [Act.put, List.setIfInBounds_toArray, List.set_cons_zero, List.set_cons_succ])
              refine wpAnyH_onlyD 1 (by kernel_rfl) (fun o ho K hK => ?_) (by kernel_rfl)
              simp only [List.getElem?_toArray, List.getElem?_cons_succ, List.getElem?_cons_zero, Option.some.injEq] at ho
              subst ho
              go_simp
              refine (HZ.out.num _ _ _ ni _ s R9.out.p).mono ?_
              rintro e w5 ⟨rfl, hp, hm⟩
              rw [V.out.1]
              have R2 := Lib.hid (R9.out.mine hp hm)
              go_wp2_with fail
              refine hK.out _ _ ((HD.out.at R2.out.b).cell hk' 1 _ rfl) ?_
              clear hK K hHeld
              intro hHeld
              clear hp hm R9
              refine wpAnyH_takeD 7 92 (v := ?_) (by kernel_rfl) (by kernel_rfl) (by kernel_rfl) (by kernel_rfl) (by rfl) (fun _ _ _ h => h) ?_ hHeld ?_
              rotate_left 1
              (intro o ho W hSw; simp only [List.getElem?_toArray, List.getElem?_cons_succ, List.getElem?_cons_zero, Option.some.injEq] at ho; subst ho; (try dsimp only at hSw); go_simp; try with_reducible rfl)
              (try simp only [Act.put, List.setIfInBounds_toArray, List.set_cons_zero, List.set_cons_succ])
              refine wpAnyH_done (by kernel_rfl) ?_ _
              clear hHeld
              go_wp2
              go_roundw
              case rel => exact ⟨k + 1, _, by omega, by go_num, V.out.2, R2.out⟩
              case measure => (simp [intOf]; try omega)
          · have e : k = len := by omega
            have e3 : ¬ (k : Int) < (len : Int) := by omega
            have EE := Lib.hid (at_end (f := f) (len := len) (by rw [← e]; exact A0.out))
            have E0 := Lib.hid (And.intro A0.out.e A0.out.pl)
            clear e A0
            go_wp2_with fail
            have XE := HZ.out.end_ _ _ _ ni _ s R0.out.p
            rw [EE.out, E0.out.1, E0.out.2] at XE
            refine XE.mono ?_
            rintro e w4 ⟨rfl, hp, hm⟩
            have R2 := Lib.hid (R0.out.mine hp hm)
            clear hp hm R0 XE
            go_wp2_with fail
            refine (HZ.out.awake _).mono ?_
            rintro e w5 ⟨rfl, h⟩
            have R3 := Lib.hid (R2.out.step h)
            clear h R2
            go_wp2
            go_ret
            exact ⟨rfl, R3.out.b⟩
  · have FB := Lib.hid (show decide (fewW len f) = false from decide_eq_false few)
    have FW := Lib.hid (wfew_any a len cap f w D)
    rw [FB.out] at FW
    clear few FB D X Z
    go_enter Try.func4, Try.ntmps4
    go_wp2_with fail
    refine FW.out.mono ?_
    rintro e w1 ⟨rfl, rfl⟩
    clear FW
    go_wp2
    go_ret
    exact ⟨rfl, Below.refl _ _⟩
end Go.Proofs.Ytcljaffdochdiaa

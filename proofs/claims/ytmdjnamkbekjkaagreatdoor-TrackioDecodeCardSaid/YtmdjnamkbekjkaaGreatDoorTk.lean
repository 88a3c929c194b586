/- -/
import Derived.Test.YtmdjnamkbekjkaaGreatDoorD1
namespace Go.Proofs.YtmdjnamkbekjkaaGreatDoor
open Go.RowKit
set_option linter.unusedVariables false
set_option linter.unusedSimpArgs false
set_option maxRecDepth 100000 in
set_option maxHeartbeats 2000000 in
theorem r15RdPlace_any (nb : Nat) (a : Option Addr) (n c : Nat) (l : List Int) (s : IS) (w : World) (h : IN w nb a n c l s) :
  Calls Tryz.prog 32 #[.pointer (some ⟨nb, 0, none⟩)] w fun e w' => e = .returned (.agg #[.int .i64 (placeC.rd l s).1.1, .int .i64 (placeC.rd l s).1.2]) ∧ IN w' nb a n c l (placeC.rd l s).2 ∧ w.grownBy w' (some nb) := by
 have hn := h.bl.hn
 have S0 := Lib.hid (RdS.mk (w := w) (W := w.alloc (.cells #[.int .i64 0, .int .i64 0] 24)) (h.grown (row := none) (grown_below ((Below.refl _ _).alloc (Nat.le_refl _) _) none) (fun j e => by cases e)) (BW.new w _ [.int .i64 0, .int .i64 0] _ rfl) (grown_below ((Below.refl _ _).alloc (Nat.le_refl _) _) _) h.lt)
 have E := Lib.hid (show placeC.rd l s = ((numV l s, numV l (wordS n 8 s)), wordS n 8 (wordS n 8 s)) by rw [← hn]; rfl)
 rw [E.out]
 have HB := Lib.hid (fun (h0 : 0 < n) (p : Addr) (hp : a = some p) => show p.block ≠ w.heap.size by
  obtain ⟨b, off, e2, hb, -⟩ := h.bl.c h0
  rw [e2] at hp
  cases hp
  show b ≠ w.heap.size
  omega)
 clear h
 go_enter Tryz.func32, Tryz.ntmps32
 go_wp2_with fail
 refine calls_gen (S := fun W => RdS w W nb a n c l s [.int .i64 0, .int .i64 0]) S0.out (fun W1 hS => ?_)
 have S1 := Lib.hid hS
 clear hS S0
 refine (riNum_any nb a n c l s _ S1.out.i).mono ?_
 rintro e w2 ⟨rfl, h1, g1⟩
 have S2 := Lib.hid (S1.out.num h1 g1)
 clear h1 g1 S1
 go_wp2_with fail
 refine (riNum_any nb a n c l (wordS n 8 s) _ S2.out.i).mono ?_
 rintro e w3 ⟨rfl, h1, g1⟩
 have S3 := Lib.hid (S2.out.num h1 g1)
 clear h1 g1 S2 E
 have r0 := S3.out.r.c 0 _ rfl
 have r1 := S3.out.r.c 1 _ rfl
 have rf := S3.out.r.f
 have hne : some w.heap.size ≠ some nb := fun e => by have := S3.out.z; injection e with e; omega
 have G := Lib.hid ((grown_cell w3 w.heap.size 0 (.int .i64 (numV l s))).trans (grown_cell _ w.heap.size 1 (.int .i64 (numV l (wordS n 8 s)))))
 have I := Lib.hid (S3.out.i.grown G.out (fun j e => by injection e with e; subst e; exact ⟨by have := S3.out.z; omega, HB.out⟩))
 have T := Lib.hid (show w.grownBy ((w3.setCell ⟨w.heap.size, 0, none⟩ (.int .i64 (numV l s))).setCell ⟨w.heap.size, 1, none⟩ (.int .i64 (numV l (wordS n 8 s)))) (some nb) from ⟨S3.out.g.os, S3.out.g.tape, S3.out.g.output, by rw [set_size, set_size]; exact S3.out.g.size, fun k hk e => (Below.heap_setCell _ _ _ _ (by show k ≠ w.heap.size; omega)).trans ((Below.heap_setCell _ _ _ _ (by show k ≠ w.heap.size; omega)).trans (S3.out.g.block k hk e))⟩)
 go_wp2
 exact bodyPost_ret (v := .agg #[.int .i64 (numV l s), .int .i64 (numV l (wordS n 8 s))]) (by simp [results, Tryz.results32, go_sem, r0, r1, World.cell?_setCell_same]) rfl ⟨rfl, I.out, T.out⟩
set_option maxRecDepth 100000 in
set_option maxHeartbeats 4000000 in
theorem r15RdPlaces_any (lo hi : Int) (nb : Nat) (a : Option Addr) (n c : Nat) (l : List Int) (s : IS) (w : World) (hlo : 0 ≤ lo) (hhi : hi ≤ 100) (h : IN w nb a n c l s) :
  Calls Tryz.prog 30 #[.pointer (some ⟨nb, 0, none⟩), .int .i64 lo, .int .i64 hi] w fun e w' => (∃ v, e = .returned v ∧ w'.ownsRow w.heap.size 24 2 v ((lstC lo hi placeC).rd l s).1.length (ptV ((lstC lo hi placeC).rd l s).1)) ∧ IN w' nb a n c l ((lstC lo hi placeC).rd l s).2 ∧ w.grownBy w' (some nb) := by
 have hn := h.bl.hn
 have HB := Lib.hid (fun (h0 : 0 < n) (p : Addr) (hp : a = some p) => show p.block < w.heap.size by
  obtain ⟨b, off, e2, hb, -⟩ := h.bl.c h0
  rw [e2] at hp
  cases hp
  exact hb)
 have hz := h.lt
 have C := Lib.hid (riCount_any lo hi nb a n c l s w h)
 have CV : 0 ≤ cntV lo hi l s ∧ cntV lo hi l s ≤ 100 := by
  unfold cntV
  split
  ·split
   ·omega
   ·rename_i k; unfold cntBad at k; omega
  ·omega
 obtain ⟨N, hN⟩ : ∃ N : Nat, cntV lo hi l s = (N : Int) := ⟨(cntV lo hi l s).toNat, by omega⟩
 obtain ⟨R, hR⟩ : ∃ R, repR (placeC.rd l) N (cntS lo hi l s) = R := ⟨_, rfl⟩
 have E : (lstC lo hi placeC).rd l s = R := by
  rw [← hR]
  show ((repR (placeC.rd l) (cntV lo hi l s).toNat (cntS lo hi l s)).1, (repR (placeC.rd l) (cntV lo hi l s).toNat (cntS lo hi l s)).2) = _
  rw [hN]; rfl
 rw [E]
 rw [hN] at C CV
 generalize cntS lo hi l s = s1 at *
 have HR := Lib.hid hR
 clear hR E hN h
 obtain ⟨i0, hi0, hz0, hz1, hz2⟩ := info_parts v2InfoX
 go_enter Tryz.func30, Tryz.ntmps30
 go_wp2_with fail
 refine C.out.mono ?_
 rintro e w1 ⟨rfl, h1, g1⟩
 have S1 := Lib.hid (show RlS w w1 nb a n c l s1 (.slice none 0 0) [] from ⟨h1, ⟨rfl, Or.inl ⟨rfl, rfl⟩⟩, g1, hz, HB.out⟩)
 clear h1 g1 C
 go_wp2
 go_loopw [7, 9] (fun v i wr => ∃ (j : Nat) (xs : List (Int × Int)) (sj : IS), j ≤ N ∧ i = .int .i64 j ∧ xs.length = j ∧ (xs ++ (repR (placeC.rd l) (N - j) sj).1, (repR (placeC.rd l) (N - j) sj).2) = R ∧ RlS w wr nb a n c l sj v xs) (fun _ i _ => N - (intOf i).toNat)
 case atStart => exact ⟨0, [], s1, by omega, rfl, rfl, HR.out, S1.out⟩
 case round =>
  obtain ⟨j, xs, sj, hj, rfl, hx, hRR, hS⟩ := hrel
  have S2 := Lib.hid hS
  have RR := Lib.hid hRR
  clear hS hRR S1 HR
  have c3 := S2.out.i.c3
  by_cases hlt : j < N
  ·have z1 : (j : Int) < (N : Int) := by omega
   by_cases he : sj.err = 0
   ·have kb : (sj.err == 0) = true := by rw [he]; rfl
    have XP := Lib.hid (fun (W : World) (I : IN W nb a n c l sj) => r15RdPlace_any nb a n c l sj W I)
    have RQ := Lib.hid (show ((xs ++ [(placeC.rd l sj).1]) ++ (repR (placeC.rd l) (N - (j + 1)) (placeC.rd l sj).2).1, (repR (placeC.rd l) (N - (j + 1)) (placeC.rd l sj).2).2) = R by
     rw [← RR.out]
     have e : N - j = (N - (j + 1)) + 1 := by omega
     rw [e]
     conv => rhs; unfold repR
     rw [if_pos he, List.append_assoc]
     rfl)
    generalize placeC.rd l sj = q at *
    obtain ⟨⟨x, y⟩, sq⟩ := q
    dsimp only at XP RQ
    clear RR
    go_wp2_with fail
    refine (XP.out _ S2.out.i).mono ?_
    rintro e w3 ⟨rfl, h3, g3⟩
    have S3 := Lib.hid (S2.out.num h3 g3)
    clear h3 g3 S2 XP c3
    have O3 := Lib.hid (own_below S3.out.o ((Below.refl _ _).alloc (Nat.le_refl _) (.cells #[.int .i64 x, .int .i64 y] 24)))
    go_wp2_with (at_builtin; refine wpList_append_own _ rfl (.tmp 26) (.tmp 29) 28 rfl w.heap.size 24 i0 (.agg #[.int .i64 0, .int .i64 0]) 2 16 Tryz.underlying28 hi0 hz0 hz1 hz2 rfl (by decide) _ _ _ rfl O3.out ⟨w3.heap.size, 0, none⟩ 1 1 [.int .i64 x, .int .i64 y] rfl ?qc1 ?qc2 ?qc3 ?qc4 ?qc5 ?qc6 ?_)
    case qc1 => rfl
    case qc2 => exact World.news_of_block (heap_alloc_new w3 _)
    case qc3 => simp [Value.oneCell']
    case qc4 => unfold maxLen; omega
    case qc5 => omega
    case qc6 => have := S3.out.g.size; simp; omega
    intro v4 w4 o4 g4 n4
    have S4 := Lib.hid (S3.out.app (p := (x, y)) _ (by rw [hx]; exact o4) g4)
    clear o4 g4 n4 O3 S3
    go_wp2
    go_roundw
    case rel => exact ⟨j + 1, xs ++ [(x, y)], sq, by omega, by go_num, by simp [hx], RQ.out, S4.out⟩
    case measure => simp [intOf]; omega
   ·have kb : (sj.err == 0) = false := beq_false_of_ne he
    have RE := Lib.hid (show (xs, sj) = R by rw [← RR.out, repR_stay _ _ he, List.append_nil])
    clear RR
    go_wp2
    go_ret
    exact ⟨⟨_, rfl, by rw [← RE.out]; exact S2.out.o⟩, by rw [← RE.out]; exact S2.out.i, S2.out.g⟩
  ·have z1 : ¬ (j : Int) < (N : Int) := by omega
   have RE := Lib.hid (show (xs, sj) = R by
    rw [← RR.out, show N - j = 0 by omega]
    show (xs, sj) = (xs ++ [], sj)
    rw [List.append_nil])
   clear RR
   go_wp2
   go_ret
   exact ⟨⟨_, rfl, by rw [← RE.out]; exact S2.out.o⟩, by rw [← RE.out]; exact S2.out.i, S2.out.g⟩
end Go.Proofs.YtmdjnamkbekjkaaGreatDoor

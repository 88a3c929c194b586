/- The program's spline: Samples. -/
import Derived.Test.YtjdhjabbojceeaaS3
import Derived.OwnWalk
namespace Go.Proofs.Ytjdhjabbojceeaa
open Go.RowKit
set_option linter.unusedVariables false
set_option linter.unusedSimpArgs false

theorem sp_oct {n : Nat} (h : n ≤ 64) : IntKind.i64.wrap ((n : Int) * 8) = ((n * 8 : Nat) : Int) ∧ wrap64 ((n : Int) * 8) = ((n * 8 : Nat) : Int) := by
  obtain ⟨u, v⟩ := wrap_in (n := (n : Int) * 8) (by unfold In64; omega)
  exact ⟨u.trans (by omega), v.trans (by omega)⟩
/-- make lays a new block, below it all stays -/
theorem sp_made {w w' : World} (h : w.grownBy w' none) : Below w.heap.size w w' := (Below.refl _ _).grown h (Nat.le_refl _) (fun m e => by cases e)
set_option maxRecDepth 100000 in
set_option maxHeartbeats 8000000 in
theorem spSamples_any (a : Option Addr) (n c : Nat) (X Y : Nat → Int) (b k : Nat) (o : Bool) (w : World) (hmax : n ≤ 1000) (D : Dots w a n c X Y) (m : MAt w b k o) (hne : 0 < n → ∀ p, a = some p → p.block ≠ b) :
    Calls Try.prog 15 #[.pointer (some ⟨b, k, none⟩), .slice a n c] w fun e w' => ∃ a' c', e = .returned (.slice a' (sampN n X Y) c') ∧ Dots w' a' (sampN n X Y) c' (sampX n X) (sampX n Y) ∧ FxW w.heap.size w b k (o || sampO n X Y (sampN n X Y)) w' ∧ (∀ p, a' = some p → w.heap.size ≤ p.block) := by
  have V := Lib.hid (fun (W : World) (D : Dots W a n c X Y) => spRight_any a n c X Y W hmax D)
  have hlt := m.lt
  have Q0 := Lib.hid (show SmW w w b k o a n c X Y from ⟨D, Flag.start m (Below.refl _ _), fun h0 p e => ⟨hne h0 p e, by obtain ⟨mb, off, e2, hb, _⟩ := D.at' h0; rw [e2] at e; cases e; exact hb⟩⟩)
  by_cases hl : lineR n X Y = 0
  rotate_left
  · have E : sampN n X Y = 0 := by unfold sampN; rw [if_neg hl]
    rw [E]
    generalize lineR n X Y = q at *
    clear D m
    go_enter Try.func15, Try.ntmps15
    go_wp2_with fail
    refine (V.out _ Q0.out.d).mono ?_
    rintro e w1 ⟨rfl, h⟩
    have Q1 := Lib.hid (Q0.out.more h)
    clear h
    go_wp2
    go_ret
    exact ⟨none, 0, rfl, ⟨by unfold maxLen; omega, by omega, fun i h => absurd h (by omega), fun h => absurd h (by omega)⟩, by have := Q1.out.f.f; show FxW _ _ _ _ (o || false) _; rw [Bool.or_false]; exact this, fun p e => by cases e⟩
  rw [hl] at V
  obtain ⟨l0, l1, l2⟩ := lineR_ok hl
  have E : sampN n X Y = n * 8 := by unfold sampN; rw [if_pos hl]
  rw [E]
  have SA := Lib.hid (fun (j k : Nat) (hj : j < n) (hk : k < 8) => samp_at hl hj hk)
  have AT := Lib.hid (fun (j : Nat) (hj : j < n) (t : Int) (ht : In64 t) (W : World) (q : Bool) (Q : SmW w W b k q a n c X Y) => spPlace_any a n c X Y (j : Int) t b k q W hl (by unfold In64; omega) ht Q.d Q.f.m)
  obtain ⟨i0, hi, hz0, hz1, hz2⟩ := info_parts v2Info
  have U := Try.underlying22
  have OC := Lib.hid (sp_oct l1)
  clear E hl l2 D m
  go_enter Try.func15, Try.ntmps15
  go_wp2_with fail
  refine (V.out _ Q0.out.d).mono ?_
  rintro e w1 ⟨rfl, h⟩
  have Q1 := Lib.hid (Q0.out.more h)
  have hz : w.heap.size ≤ w1.heap.size := h.size
  clear h Q0 V
  obtain ⟨oc1, oc2⟩ := OC.out
  go_wp2_with (at_make; refine wpList_make_own _ rfl _ _ 22 rfl w.heap.size 32 i0 (.agg #[.int .i64 0, .int .i64 0]) 2 U hi hz0 hz1 .i64 .i64 _ (n * 8) rfl rfl rfl (by rw [hz2]; omega) (by unfold maxLen; omega) hz ?_; intro w2 hown2 hgrow2; clear oc1 oc2; have Q2 := Lib.hid (Q1.out.more (sp_made hgrow2)); have O2 := Lib.hid hown2; clear hown2 hgrow2 Q1)
  go_loopw [5, 17] (fun v i wr => ∃ j : Nat, j ≤ n ∧ i = .int .i64 j ∧ wr.ownsRow w.heap.size 32 2 v (j * 8) (dotL (sampX n X) (sampX n Y) (j * 8)) ∧ SmW w wr b k (o || sampO n X Y (j * 8)) a n c X Y) (fun _ i _ => n - (intOf i).toNat)
  case atStart => exact ⟨0, by omega, rfl, O2.out, by have := Q2.out; show SmW _ _ _ _ (o || false) _ _ _ _ _; rw [Bool.or_false]; exact this⟩
  case round =>
    obtain ⟨j, hj, rfl, hO, hQ⟩ := hrel
    have O3 := Lib.hid hO
    have Q3 := Lib.hid hQ
    clear hO hQ Q2 O2
    by_cases hlj : j < n
    · go_wp2
      go_loopw [5, 20] (fun v i wr => ∃ r : Nat, r ≤ 8 ∧ i = .int .i64 r ∧ wr.ownsRow w.heap.size 32 2 v (j * 8 + r) (dotL (sampX n X) (sampX n Y) (j * 8 + r)) ∧ SmW w wr b k (o || sampO n X Y (j * 8 + r)) a n c X Y) (fun _ i _ => 8 - (intOf i).toNat)
      case atStart => exact ⟨0, by omega, rfl, O3.out, Q3.out⟩
      case round =>
        obtain ⟨r, hr, rfl, hO, hQ⟩ := hrel
        have O4 := Lib.hid hO
        have Q4 := Lib.hid hQ
        clear hO hQ O3 Q3
        by_cases hlr : r < 8
        · have z0 : (r : Int) < 8 := by omega
          have AX := Lib.hid (AT.out j hlj ((r : Int) * 536870912) (by unfold In64; omega))
          rw [(SA.out j r hlj hlr).1, (SA.out j r hlj hlr).2.1] at AX
          have SO := Lib.hid ((SA.out j r hlj hlr).2.2 o)
          obtain ⟨m1, m2⟩ := wrap_in (n := (536870912 : Int) * (r : Int)) (by unfold In64; omega)
          have m3 : (536870912 : Int) * (r : Int) = (r : Int) * 536870912 := Int.mul_comm _ _
          go_wp2_with fail
          refine (AX.out _ _ Q4.out).mono ?_
          rintro e w5 ⟨rfl, h⟩
          rw [SO.out] at h
          have Q5 := Lib.hid (Q4.out.fx h)
          have O5 := Lib.hid (own_fx O4.out h Q4.out.f.lt)
          have hz5 : w.heap.size ≤ w5.heap.size := Q5.out.f.f.size
          clear h Q4 O4 AX SO m1 m2 m3
          go_wp2_with (at_builtin; refine wpList_append_lies _ rfl (.tmp 23) (.tmp 30) 22 rfl w.heap.size 32 i0 (.agg #[.int .i64 0, .int .i64 0]) 2 16 U hi hz0 hz1 hz2 rfl (by omega) _ (j * 8 + r) (dotL (sampX n X) (sampX n Y) (j * 8 + r)) rfl (O5.out.alloc _) ⟨w5.heap.size, 0, none⟩ 1 1 [.int .i64 (sampX n X (j * 8 + r)), .int .i64 (sampX n Y (j * 8 + r))] rfl rfl (World.news_of_block (heap_alloc_new w5 _)) (by simp [Value.oneCell']) (by omega) (by unfold maxLen; omega) (by omega) (by simp; omega) _ rfl ?_)
          intro g cap w6 hO hG hat hlt2
          have HB := (Below.refl w.heap.size (w5.alloc (.cells #[.int .i64 (sampX n X (j * 8 + r)), .int .i64 (sampX n Y (j * 8 + r))] 32))).grown hG (by simp; omega) (fun m e => (O5.out.lt m e).1)
          have HB2 := ((Below.refl w.heap.size w5).alloc hz5 (.cells #[.int .i64 (sampX n X (j * 8 + r)), .int .i64 (sampX n Y (j * 8 + r))] 32)).trans HB
          have Q6 := Lib.hid (Q5.out.below HB2 (Nat.le_refl _))
          have O6 := Lib.hid hO
          clear hO hG hat HB HB2 Q5 O5 hlt2
          go_wp2
          go_roundw
          case rel => exact ⟨r + 1, by omega, by go_num, O6.out, Q6.out⟩
          case measure => simp [intOf]; omega
        · have e : r = 8 := by omega
          subst e
          go_wp2
          go_roundw
          case rel => exact ⟨j + 1, by omega, by go_num, by rw [show (j + 1) * 8 = j * 8 + 8 by omega]; exact O4.out, by rw [show (j + 1) * 8 = j * 8 + 8 by omega]; exact Q4.out⟩
          case measure => simp [intOf]; omega
    · have e : j = n := by omega
      subst e
      obtain ⟨a', c', hv, D', hb⟩ := owned_dots O3.out (fun m hm => ⟨wf_in (oneF_in _ _ _ _ _), wf_in (oneF_in _ _ _ _ _)⟩)
      have D2 := Lib.hid D'
      have HB := Lib.hid hb
      subst hv
      clear D' O3 hb
      go_wp2
      go_ret
      exact ⟨a', c', rfl, D2.out, Q3.out.f.f, HB.out⟩
end Go.Proofs.Ytjdhjabbojceeaa

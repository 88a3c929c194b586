/- The contract of the document's Samples of curves. -/
import Derived.Test.YtjdhjabbojceeaaSc
namespace Go.Proofs.Ytjdhjabbojceeaa
open Go.RowKit
set_option linter.unusedVariables false
set_option linter.unusedSimpArgs false

theorem v2Info : (Try.prog.info? 32).map (fun i => (i.zero, i.size, i.bytes)) = some (some (.agg #[.int .i64 0, .int .i64 0]), 2, 16) := by kernel_rfl
theorem oneF_in (p0 p1 p2 p3 t : Int) : In64 (oneF p0 p1 p2 p3 t) := mulF_in _ _
theorem samp_at {n : Nat} {X Y : Nat → Int} (h : lineR n X Y = 0) {j k : Nat} (hj : j < n) (hk : k < 8) :
    placeX n X Y (j : Int) ((k : Int) * 536870912) = sampX n X (j * 8 + k) ∧ placeY n X Y (j : Int) ((k : Int) * 536870912) = sampX n Y (j * 8 + k) ∧
    ∀ o, (o || sampO n X Y (j * 8 + k) || placeO n X Y (j : Int) ((k : Int) * 536870912)) = (o || sampO n X Y (j * 8 + k + 1)) := by
  have e1 : (j * 8 + k) / 8 = j := by omega
  have e2 : (j * 8 + k) % 8 = k := by omega
  unfold placeX placeY placeO sampX
  rw [if_pos h, if_pos h, if_pos h, kOf_at hj, e1, e2]
  refine ⟨rfl, rfl, fun o => ?_⟩
  show _ = (o || (sampO n X Y (j * 8 + k) || (atO n X ((j * 8 + k) / 8) ((((j * 8 + k) % 8 : Nat) : Int) * 536870912) || atO n Y ((j * 8 + k) / 8) ((((j * 8 + k) % 8 : Nat) : Int) * 536870912))))
  rw [e1, e2, Bool.or_assoc]
/-- a line that came in, and a list that grows, beside a flag -/
structure SmW (w W : World) (b k : Nat) (o : Bool) (a : Option Addr) (n c : Nat) (X Y : Nat → Int) : Prop where
  d : Dots W a n c X Y
  f : Flag w W b k o
  e : 0 < n → ∀ p, a = some p → p.block ≠ b ∧ p.block < w.heap.size
theorem SmW.fx {w W W' : World} {b k : Nat} {o q : Bool} {a : Option Addr} {n c : Nat} {X Y : Nat → Int} (Q : SmW w W b k o a n c X Y) (h : FxW W.heap.size W b k q W') : SmW w W' b k q a n c X Y :=
  ⟨Q.d.fx h (fun h0 p e => (Q.e h0 p e).1), Q.f.fx h, Q.e⟩
theorem SmW.below {w W W' : World} {C b k : Nat} {o : Bool} {a : Option Addr} {n c : Nat} {X Y : Nat → Int} (Q : SmW w W b k o a n c X Y) (h : Below C W W') (hC : w.heap.size ≤ C) : SmW w W' b k o a n c X Y :=
  ⟨⟨Q.d.hm, Q.d.hl, Q.d.wf, fun h0 => by
    obtain ⟨m, off, e, hm, hc⟩ := Q.d.at' h0
    have hb := (Q.e h0 _ e).2
    have hb' : m < w.heap.size := hb
    exact ⟨m, off, e, by have := h.size; omega, fun i hi => ⟨(h.cell (p := ⟨m, _, none⟩) (by show m < C; omega)).trans (hc i hi).1, (h.cell (p := ⟨m, _, none⟩) (by show m < C; omega)).trans (hc i hi).2⟩⟩⟩,
   ⟨Q.f.m.below h (by have := Q.f.lt; omega), Q.f.f.then h hC, Q.f.lt⟩, Q.e⟩
theorem SmW.more {w W W' : World} {b k : Nat} {o : Bool} {a : Option Addr} {n c : Nat} {X Y : Nat → Int} (Q : SmW w W b k o a n c X Y) (h : Below W.heap.size W W') : SmW w W' b k o a n c X Y := Q.below h Q.f.f.size
set_option maxRecDepth 100000 in
set_option maxHeartbeats 8000000 in
theorem rSamples_any (a : Option Addr) (n c : Nat) (X Y : Nat → Int) (b k : Nat) (o : Bool) (w : World) (hmax : n ≤ 1000) (D : Dots w a n c X Y) (m : MAt w b k o) (hne : 0 < n → ∀ p, a = some p → p.block ≠ b) :
    Calls Try.prog 16 #[.pointer (some ⟨b, k, none⟩), .slice a n c] w fun e w' => ∃ a' c', e = .returned (.slice a' (sampN n X Y) c') ∧ Dots w' a' (sampN n X Y) c' (sampX n X) (sampX n Y) ∧ FxW w.heap.size w b k (o || sampO n X Y (sampN n X Y)) w' ∧ (∀ p, a' = some p → w.heap.size ≤ p.block) := by
  have V := Lib.hid (fun (W : World) (D : Dots W a n c X Y) => rSRight_any a n c X Y W hmax D)
  have hlt := m.lt
  have Q0 := Lib.hid (show SmW w w b k o a n c X Y from ⟨D, Flag.start m (Below.refl _ _), fun h0 p e => ⟨hne h0 p e, by obtain ⟨mb, off, e2, hb, _⟩ := D.at' h0; rw [e2] at e; cases e; exact hb⟩⟩)
  by_cases hl : lineR n X Y = 0
  rotate_left
  · have E : sampN n X Y = 0 := by unfold sampN; rw [if_neg hl]
    rw [E]
    generalize lineR n X Y = q at *
    clear D m
    go_enter Try.func16, Try.ntmps16
    go_wp2_with fail
    refine (V.out _ Q0.out.d).mono ?_
    rintro e w1 ⟨rfl, rfl⟩
    go_wp2
    go_ret
    exact ⟨none, 0, rfl, ⟨by unfold maxLen; omega, by omega, fun i h => absurd h (by omega), fun h => absurd h (by omega)⟩, by have := Q0.out.f.f; show FxW _ _ _ _ (o || false) _; rw [Bool.or_false]; exact this, fun p e => by cases e⟩
  rw [hl] at V
  obtain ⟨l0, l1, l2⟩ := lineR_ok hl
  have E : sampN n X Y = n * 8 := by unfold sampN; rw [if_pos hl]
  rw [E]
  have SA := Lib.hid (fun (j k : Nat) (hj : j < n) (hk : k < 8) => samp_at hl hj hk)
  have AT := Lib.hid (fun (j : Nat) (hj : j < n) (t : Int) (ht : In64 t) (W : World) (q : Bool) (Q : SmW w W b k q a n c X Y) => rAt_any a n c X Y (j : Int) t b k q W hmax (by unfold In64; omega) ht Q.d Q.f.m)
  obtain ⟨i0, hi, hz0, hz1, hz2⟩ := info_parts v2Info
  have U := Try.underlying22
  clear E hl l2 D m
  go_enter Try.func16, Try.ntmps16
  go_wp2_with fail
  refine (V.out _ Q0.out.d).mono ?_
  rintro e w1 ⟨rfl, rfl⟩
  go_wp2
  go_loopw [5, 6] (fun v i wr => ∃ j : Nat, j ≤ n ∧ i = .int .i64 j ∧ wr.ownsRow w1.heap.size 32 2 v (j * 8) (dotL (sampX n X) (sampX n Y) (j * 8)) ∧ SmW w1 wr b k (o || sampO n X Y (j * 8)) a n c X Y) (fun _ i _ => n - (intOf i).toNat)
  case atStart => exact ⟨0, by omega, rfl, World.ownsRow_nil _ _ _ _, by have := Q0.out; show SmW _ _ _ _ (o || false) _ _ _ _ _; rw [Bool.or_false]; exact this⟩
  case round =>
    obtain ⟨j, hj, rfl, hO, hQ⟩ := hrel
    have O1 := Lib.hid hO
    have Q1 := Lib.hid hQ
    clear hO hQ Q0 V
    by_cases hlj : j < n
    · go_wp2
      go_loopw [5, 7] (fun v i wr => ∃ r : Nat, r ≤ 8 ∧ i = .int .i64 r ∧ wr.ownsRow w1.heap.size 32 2 v (j * 8 + r) (dotL (sampX n X) (sampX n Y) (j * 8 + r)) ∧ SmW w1 wr b k (o || sampO n X Y (j * 8 + r)) a n c X Y) (fun _ i _ => 8 - (intOf i).toNat)
      case atStart => exact ⟨0, by omega, rfl, O1.out, Q1.out⟩
      case round =>
        obtain ⟨r, hr, rfl, hO, hQ⟩ := hrel
        have O2 := Lib.hid hO
        have Q2 := Lib.hid hQ
        clear hO hQ O1 Q1
        by_cases hlr : r < 8
        · have z0 : (r : Int) < 8 := by omega
          have AX := Lib.hid (AT.out j hlj ((r : Int) * 536870912) (by unfold In64; omega))
          rw [(SA.out j r hlj hlr).1, (SA.out j r hlj hlr).2.1] at AX
          have SO := Lib.hid ((SA.out j r hlj hlr).2.2 o)
          go_wp2_with fail
          refine (AX.out _ _ Q2.out).mono ?_
          rintro e w2 ⟨rfl, h⟩
          rw [SO.out] at h
          have Q3 := Lib.hid (Q2.out.fx h)
          have O3 := Lib.hid (own_fx O2.out h Q2.out.f.lt)
          have hz : w1.heap.size ≤ w2.heap.size := Q3.out.f.f.size
          clear h Q2 O2 AX SO
          go_wp2_with (at_builtin; refine wpList_append_lies _ rfl (.tmp 22) (.tmp 29) 22 rfl w1.heap.size 32 i0 (.agg #[.int .i64 0, .int .i64 0]) 2 16 U hi hz0 hz1 hz2 rfl (by omega) _ (j * 8 + r) (dotL (sampX n X) (sampX n Y) (j * 8 + r)) rfl (O3.out.alloc _) ⟨w2.heap.size, 0, none⟩ 1 1 [.int .i64 (sampX n X (j * 8 + r)), .int .i64 (sampX n Y (j * 8 + r))] rfl rfl (World.news_of_block (heap_alloc_new w2 _)) (by simp [Value.oneCell']) (by omega) (by unfold maxLen; omega) (by omega) (by simp; omega) _ rfl ?_)
          intro g cap w3 hO hG hat hlt2
          have HB := (Below.refl w1.heap.size (w2.alloc (.cells #[.int .i64 (sampX n X (j * 8 + r)), .int .i64 (sampX n Y (j * 8 + r))] 32))).grown hG (by simp; omega) (fun m e => (O3.out.lt m e).1)
          have HB2 := ((Below.refl w1.heap.size w2).alloc hz (.cells #[.int .i64 (sampX n X (j * 8 + r)), .int .i64 (sampX n Y (j * 8 + r))] 32)).trans HB
          have Q4 := Lib.hid (Q3.out.below HB2 (Nat.le_refl _))
          have O4 := Lib.hid hO
          clear hO hG hat HB HB2 Q3 O3 hlt2
          go_wp2
          go_roundw
          case rel => exact ⟨r + 1, by omega, by go_num, O4.out, Q4.out⟩
          case measure => simp [intOf]; omega
        · have e : r = 8 := by omega
          subst e
          have O4 := Lib.hid (show _ from (show (j + 1) * 8 = j * 8 + 8 by omega) ▸ O2.out)
          go_wp2
          go_roundw
          case rel => exact ⟨j + 1, by omega, by go_num, by rw [show (j + 1) * 8 = j * 8 + 8 by omega]; exact O2.out, by rw [show (j + 1) * 8 = j * 8 + 8 by omega]; exact Q2.out⟩
          case measure => simp [intOf]; omega
    · have e : j = n := by omega
      subst e
      obtain ⟨a', c', hv, D', hb⟩ := owned_dots O1.out (fun m hm => ⟨wf_in (oneF_in _ _ _ _ _), wf_in (oneF_in _ _ _ _ _)⟩)
      have D2 := Lib.hid D'
      have HB := Lib.hid hb
      subst hv
      clear D' O1 hb
      go_wp2
      go_ret
      exact ⟨a', c', rfl, D2.out, Q1.out.f.f, HB.out⟩
end Go.Proofs.Ytjdhjabbojceeaa

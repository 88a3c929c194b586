/- The program's ray: the nearest of the triangles between both ends. -/
import Derived.Test.YtinahmhiopgcnaaA6
namespace Go.Proofs.Ytinahmhiopgcnaa
open Go.RowKit
set_option linter.unusedVariables false
set_option linter.unusedSimpArgs false

def unfz (b : Nat) : Nat := ((floatToIntVal .f64 b .i64).getD 0).toNat
theorem unfz_fz {r : Nat} (h : r < 65) : unfz (fz r) = r := by unfold unfz; rw [(fz_int r h).1]; simp
def rowOf : Value → Nat
  | .complex _ _ i => unfz i
  | _ => 0
def colOf : Value → Nat
  | .complex _ x _ => unfz x
  | _ => 0
/-- what has been asked: rows, cells of a row, triangles of a cell -/
def Vr (c1 c2 r1 r : Nat) : Nat → Nat → Bool → Prop := fun c' r' _ => (c1 ≤ c' ∧ c' ≤ c2) ∧ r1 ≤ r' ∧ r' < r
def Vc (c1 c2 r1 r c : Nat) : Nat → Nat → Bool → Prop := fun c' r' up' => Vr c1 c2 r1 r c' r' up' ∨ (r' = r ∧ c1 ≤ c' ∧ c' < c)
def Vu (c1 c2 r1 r c i : Nat) : Nat → Nat → Bool → Prop := fun c' r' up' => Vc c1 c2 r1 r c c' r' up' ∨ (r' = r ∧ c' = c ∧ up'.toNat < i)
theorem Vu_next {c1 c2 r1 r c i : Nat} (h : i < 2) : ∀ c' r' up', Vu c1 c2 r1 r c (i + 1) c' r' up' → Vu c1 c2 r1 r c i c' r' up' ∨ (c' = c ∧ r' = r ∧ up' = decide (i = 1)) := by
  intro c' r' up' k
  rcases k with k | ⟨k1, k2, k3⟩
  · exact Or.inl (Or.inl k)
  · by_cases g : up'.toNat < i
    · exact Or.inl (Or.inr ⟨k1, k2, g⟩)
    · refine Or.inr ⟨k2, k1, ?_⟩
      cases up' <;> simp at g k3 ⊢ <;> omega
theorem Vc_next {c1 c2 r1 r c : Nat} : ∀ c' r' up', Vc c1 c2 r1 r (c + 1) c' r' up' → Vu c1 c2 r1 r c 2 c' r' up' := by
  intro c' r' up' k
  rcases k with k | ⟨k1, k2, k3⟩
  · exact Or.inl (Or.inl k)
  · by_cases g : c' < c
    · exact Or.inl (Or.inr ⟨k1, k2, g⟩)
    · exact Or.inr ⟨k1, by omega, by cases up' <;> simp⟩
theorem Vr_next {c1 c2 r1 r : Nat} : ∀ c' r' up', Vr c1 c2 r1 (r + 1) c' r' up' → Vc c1 c2 r1 r (c2 + 1) c' r' up' := by
  intro c' r' up' ⟨k1, k2, k3⟩
  by_cases g : r' < r
  · exact Or.inl ⟨k1, k2, g⟩
  · exact Or.inr ⟨by omega, k1.1, by omega⟩
theorem dst_in (t : Trk) (c r : Int) (up : Bool) (a : Ry) : In64 (dstF t c r up a) := by
  unfold dstF
  split
  · exact divF_in _ _
  · unfold In64; omega
set_option maxRecDepth 100000 in
set_option maxHeartbeats 8000000 in
theorem yNear_any (t : Trk) (a : Ry) (lo top f hb gb hc gc : Nat) (w : World) (P : FX lo top w f hb gb hc gc t) (ha : a.may) (hi : a.ins) :
    Calls Try.prog 43 #[bmW f a (fz (whK t a.ox)) (fz (whR t a.oy)) (whX t a.ox) (whY t a.oy), .int .i64 a.long] w fun e w' => (∃ L, e = .returned (.int .i64 L) ∧ Near t a (Vr (min (whK t a.ox) (whK t (pntF a.ox a.dx a.long))) (max (whK t a.ox) (whK t (pntF a.ox a.dx a.long))) (min (whR t a.oy) (whR t (pntF a.oy a.dy a.long))) (max (whR t a.oy) (whR t (pntF a.oy a.dy a.long)) + 1)) L) ∧ Below w.heap.size w w' := by
  have S0 := Lib.hid (FS.mk (w := w) P (Below.refl _ _))
  obtain ⟨hcn, hf⟩ := P.r
  obtain ⟨⟨m1, m2⟩, -⟩ := id hcn
  have k1 : whK t a.ox < t.cols.toNat := axK_lt (by omega)
  have k2 : whK t (pntF a.ox a.dx a.long) < t.cols.toNat := axK_lt (by omega)
  have k3 : whR t a.oy < t.rows.toNat := axK_lt (by omega)
  have k4 : whR t (pntF a.oy a.dy a.long) < t.rows.toNat := axK_lt (by omega)
  have SP := Lib.hid (fun (W : World) (Q : FX lo top W f hb gb hc gc t) => ySpan_any t a (whK t a.ox) (whR t a.oy) (whX t a.ox) (whY t a.oy) a.long lo top f hb gb hc gc W Q hi hi.l (by omega) (by omega))
  have RC := Lib.hid (fun (c r : Nat) (up : Bool) (h1 : c < t.cols.toNat) (h2 : r < t.rows.toNat) (W : World) (Q : FX lo top W f hb gb hc gc t) => yReach_any t a c r up lo top f hb gb hc gc W Q ha hi h1 h2)
  have IN := Lib.hid (fun (c r : Nat) (up : Bool) (s : Int) (hs : In64 s) (h1 : c < 65) (h2 : r < 65) (W : World) (Q : FX lo top W f hb gb hc gc t) => yIn_any t a (fz (whK t a.ox)) (fz (whR t a.oy)) c r up (whX t a.ox) (whY t a.oy) s lo top f hb gb hc gc W Q hi hs h1 h2)
  have c12 : min (whK t a.ox) (whK t (pntF a.ox a.dx a.long)) ≤ max (whK t a.ox) (whK t (pntF a.ox a.dx a.long)) ∧ max (whK t a.ox) (whK t (pntF a.ox a.dx a.long)) < t.cols.toNat := by omega
  have r12 : min (whR t a.oy) (whR t (pntF a.oy a.dy a.long)) ≤ max (whR t a.oy) (whR t (pntF a.oy a.dy a.long)) ∧ max (whR t a.oy) (whR t (pntF a.oy a.dy a.long)) < t.rows.toNat := by omega
  generalize min (whK t a.ox) (whK t (pntF a.ox a.dx a.long)) = c1 at *
  generalize max (whK t a.ox) (whK t (pntF a.ox a.dx a.long)) = c2 at *
  generalize min (whR t a.oy) (whR t (pntF a.oy a.dy a.long)) = r1 at *
  generalize max (whR t a.oy) (whR t (pntF a.oy a.dy a.long)) = r2 at *
  generalize fz (whK t a.ox) = H at *
  generalize fz (whR t a.oy) = V at *
  generalize whX t a.ox = p at *
  generalize whY t a.oy = q at *
  have cols : t.cols.toNat ≤ 64 ∧ t.rows.toNat ≤ 64 := by omega
  have AN := Lib.hid (fun (V : Nat → Nat → Bool → Prop) (v : ∀ c r up, ¬ V c r up) => Near.start (t := t) ha v)
  have u1 : IntKind.i64.wrap (a.long + 1) = a.long + 1 := (wrap_in' (by have := ha.2.2.2.2.2.2; unfold In64; omega)).1
  have v1 : wrap64 (a.long + 1) = a.long + 1 := (wrap_in' (by have := ha.2.2.2.2.2.2; unfold In64; omega)).2
  obtain ⟨c12a, c12b⟩ := c12
  obtain ⟨r12a, r12b⟩ := r12
  clear hcn hf m1 m2 P k1 k2 k3 k4 ha hi
  go_enter Try.func43, Try.ntmps43
  go_wp2_with fail
  refine calls_gen (S := fun W => BS w W lo top f hb gb hc gc t w.heap.size (bmL f a H V p q)) ⟨S0.out.step ((Below.refl _ _).alloc (Nat.le_refl _) _), BW.new _ _ [_, _, _, _, _, _, _, _, _, _] _ rfl⟩ (fun W1 hS => ?_)
  have B1 := Lib.hid hS
  clear hS S0 u1 v1
  refine (SP.out _ B1.out.s.p).mono ?_
  rintro e w2 ⟨rfl, h⟩
  have B2 := Lib.hid (B1.out.step h)
  clear h B1 SP
  go_wp2_with fail
  go_loopw [5, 8] (fun l row wr => ∃ r : Nat, ∃ L : Int, (r1 ≤ r ∧ r ≤ r2 + 1) ∧ row = .complex .f64 (fz c1) (fz r) ∧ l = .int .i64 L ∧ Near t a (Vr c1 c2 r1 r) L ∧ BS w wr lo top f hb gb hc gc t w.heap.size (bmL f a H V p q)) (fun _ row _ => 70 - rowOf row)
  case atStart => exact ⟨r1, a.long + 1, ⟨Nat.le_refl _, by omega⟩, rfl, rfl, AN.out _ (fun c r up h => by have := h.2; omega), B2.out⟩
  case round =>
    obtain ⟨r, L, ⟨hr1, hr2⟩, rfl, rfl, hN, hB⟩ := hrel
    have N3 := Lib.hid hN
    have B3 := Lib.hid hB
    clear hN hB B2
    have eR := fz_leq (a := r) (b := r2) (by omega) (by omega)
    by_cases hlr : r ≤ r2
    · rw [decide_eq_true hlr] at eR
      go_wp2_with fail
      clear eR
      go_loopw [5, 9] (fun l cell wr => ∃ c : Nat, ∃ L : Int, (c1 ≤ c ∧ c ≤ c2 + 1) ∧ cell = .complex .f64 (fz c) (fz r) ∧ l = .int .i64 L ∧ Near t a (Vc c1 c2 r1 r c) L ∧ BS w wr lo top f hb gb hc gc t w.heap.size (bmL f a H V p q)) (fun _ cell _ => 70 - colOf cell)
      case atStart => exact ⟨c1, L, ⟨Nat.le_refl _, by omega⟩, rfl, rfl, N3.out.sub (fun c' r' up' h => h.elim id (fun h => by have := h.2; omega)), B3.out⟩
      case round =>
        obtain ⟨c, L1, ⟨hc1, hc2⟩, rfl, rfl, hN, hB⟩ := hrel
        have N4 := Lib.hid hN
        have B4 := Lib.hid hB
        clear hN hB B3 N3
        have eC := fz_leq (a := c) (b := c2) (by omega) (by omega)
        by_cases hlc : c ≤ c2
        · rw [decide_eq_true hlc] at eC
          go_wp2_with fail
          clear eC
          go_loopw [5, 39] (fun l ix wr => ∃ i : Nat, ∃ L : Int, i ≤ 2 ∧ ix = .int .i64 i ∧ l = .int .i64 L ∧ Near t a (Vu c1 c2 r1 r c i) L ∧ BS w wr lo top f hb gb hc gc t w.heap.size (bmL f a H V p q)) (fun _ ix _ => 2 - (intOf ix).toNat)
          case atStart => exact ⟨0, L1, by omega, rfl, rfl, N4.out.sub (fun c' r' up' h => h.elim id (fun h => by have := h.2.2; omega)), B4.out⟩
          case round =>
            obtain ⟨i, L2, hi2, rfl, rfl, hN, hB⟩ := hrel
            have N5 := Lib.hid hN
            have B5 := Lib.hid hB
            clear hN hB B4 N4
            by_cases hli : i < 2
            · have ix : ∀ w, (Instr.index 118 (.agg #[.bool false, .bool true]) (.int .i64 i)).run Try.prog w = .ok (.bool (decide (i = 1))) w := by
                intro w
                rcases (show i = 0 ∨ i = 1 by omega) with rfl | rfl <;> kernel_rfl
              have NO := Lib.hid (fun (h : ¬ (hitP t a c r (decide (i = 1)) ∧ dstF t c r (decide (i = 1)) a < L2)) => N5.out.no (Vu_next hli) h)
              have YES := Lib.hid (fun (h : hitP t a c r (decide (i = 1))) (l : dstF t c r (decide (i = 1)) a < L2) => N5.out.yes (show c < t.cols.toNat by omega) (show r < t.rows.toNat by omega) (Vu_next hli) h l)
              unfold hitP at NO YES
              have R5 := Lib.hid (fun (W : World) (Q : FX lo top W f hb gb hc gc t) => RC.out c r (decide (i = 1)) (by omega) (by omega) W Q)
              have I5 := Lib.hid (fun (W : World) (Q : FX lo top W f hb gb hc gc t) => IN.out c r (decide (i = 1)) (dstF t c r (decide (i = 1)) a) (dst_in t c r _ a) (by omega) (by omega) W Q)
              have zi : (i : Int) < 2 := by omega
              have zi0 : (0 : Int) ≤ i := by omega
              have b0 := B5.out.b.c 0 _ rfl
              have b1 := B5.out.b.c 1 _ rfl
              have b2 := B5.out.b.c 2 _ rfl
              have b3 := B5.out.b.c 3 _ rfl
              have b4 := B5.out.b.c 4 _ rfl
              have b5 := B5.out.b.c 5 _ rfl
              have b6 := B5.out.b.c 6 _ rfl
              have b7 := B5.out.b.c 7 _ rfl
              have b8 := B5.out.b.c 8 _ rfl
              have b9 := B5.out.b.c 9 _ rfl
              generalize decide (i = 1) = up at *
              generalize dstF t c r up a = ds at *
              generalize inTri t c r up (pntF a.ox a.dx ds) (pntF a.oy a.dy ds) = it at *
              generalize stpF t c r up a = st at *
              clear N5
              go_wp2_with fail
              refine (R5.out _ B5.out.s.p).mono ?_
              rintro e w6 ⟨rfl, h⟩
              have B6 := Lib.hid (B5.out.step h)
              clear h B5 R5 b0 b1 b2 b3 b4 b5 b6 b7 b8 b9 ix
              by_cases s1 : st < 0
              rotate_left
              · rw [if_neg s1, decide_eq_false s1]
                clear I5 YES
                go_wp2
                go_roundw
                case rel => exact ⟨i + 1, L2, by omega, by go_num, rfl, NO.out (fun k => by have := k.1.1; omega), B6.out⟩
                case measure => simp [intOf]; omega
              rw [if_pos s1, decide_eq_true s1]
              by_cases s2 : ds < L2
              rotate_left
              · clear I5 YES
                go_wp2
                go_roundw
                case rel => exact ⟨i + 1, L2, by omega, by go_num, rfl, NO.out (fun k => by have := k.2; omega), B6.out⟩
                case measure => simp [intOf]; omega
              have b0 := B6.out.b.c 0 _ rfl
              have b1 := B6.out.b.c 1 _ rfl
              have b2 := B6.out.b.c 2 _ rfl
              have b3 := B6.out.b.c 3 _ rfl
              have b4 := B6.out.b.c 4 _ rfl
              have b5 := B6.out.b.c 5 _ rfl
              have b6 := B6.out.b.c 6 _ rfl
              have b7 := B6.out.b.c 7 _ rfl
              have b8 := B6.out.b.c 8 _ rfl
              have b9 := B6.out.b.c 9 _ rfl
              go_wp2_with fail
              refine (I5.out _ B6.out.s.p).mono ?_
              rintro e w7 ⟨rfl, h⟩
              have B7 := Lib.hid (B6.out.step h)
              clear h B6 I5 b0 b1 b2 b3 b4 b5 b6 b7 b8 b9
              cases it with
              | false =>
                clear YES
                go_wp2
                go_roundw
                case rel => exact ⟨i + 1, L2, by omega, by go_num, rfl, NO.out (fun k => absurd k.1.2 (by simp)), B7.out⟩
                case measure => simp [intOf]; omega
              | true =>
                have Y := Lib.hid (YES.out ⟨s1, rfl⟩ s2)
                clear YES NO
                go_wp2
                go_roundw
                case rel => exact ⟨i + 1, ds, by omega, by go_num, rfl, Y.out, B7.out⟩
                case measure => simp [intOf]; omega
            · have e : i = 2 := by omega
              subst e
              obtain ⟨c', hc'⟩ : ∃ c', c + 1 = c' := ⟨_, rfl⟩
              have hrt : ∀ w, (binOp .add 90 (.complex .f64 (fz c) (fz r)) (.complex .f64 4607182418800017408 0)).run Try.prog w = .ok (.complex .f64 (fz c') (fz r)) w := fun w => by rw [← hc']; exact fz_right w (by omega) (by omega) _
              have N6 := Lib.hid (show Near t a (Vc c1 c2 r1 r c') L2 by rw [← hc']; exact N5.out.sub Vc_next)
              have M6 := Lib.hid (show 70 - unfz (fz c') < 70 - unfz (fz c) by rw [unfz_fz (by omega), unfz_fz (by omega)]; omega)
              have C6 := Lib.hid (show c1 ≤ c' ∧ c' ≤ c2 + 1 by omega)
              clear N5 hc' hli
              go_wp2
              go_roundw
              case rel => exact ⟨c', L2, C6.out, rfl, rfl, N6.out, B5.out⟩
              case measure => exact M6.out
        · have e : c = c2 + 1 := by omega
          rw [decide_eq_false hlc] at eC
          obtain ⟨r', hr'⟩ : ∃ r', r + 1 = r' := ⟨_, rfl⟩
          have hdn : ∀ w, (binOp .add 90 (.complex .f64 (fz c1) (fz r)) (.complex .f64 0 4607182418800017408)).run Try.prog w = .ok (.complex .f64 (fz c1) (fz r')) w := fun w => by rw [← hr']; exact fz_down w (by omega) (by omega) _
          have N6 := Lib.hid (show Near t a (Vr c1 c2 r1 r') L1 by rw [← hr']; exact N4.out.sub (fun c' r' up' h => by rw [e]; exact Vr_next c' r' up' h))
          have M6 := Lib.hid (show 70 - unfz (fz r') < 70 - unfz (fz r) by rw [unfz_fz (by omega), unfz_fz (by omega)]; omega)
          have C6 := Lib.hid (show r1 ≤ r' ∧ r' ≤ r2 + 1 by omega)
          clear N4 hr' hlc e
          go_wp2
          go_roundw
          case rel => exact ⟨r', L1, C6.out, rfl, rfl, N6.out, B4.out⟩
          case measure => exact M6.out
    · have e : r = r2 + 1 := by omega
      rw [decide_eq_false hlr] at eR
      have N4 := Lib.hid (show Near t a (Vr c1 c2 r1 (r2 + 1)) L by rw [← e]; exact N3.out)
      clear N3 e hlr
      go_wp2
      go_ret
      exact ⟨⟨L, rfl, N4.out⟩, B3.out.s.l⟩
end Go.Proofs.Ytinahmhiopgcnaa

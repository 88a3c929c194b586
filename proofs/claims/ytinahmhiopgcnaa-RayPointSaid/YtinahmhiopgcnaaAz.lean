/- The program's ray: the nearest of the triangles between both ends. -/
import Derived.Test.YtinahmhiopgcnaaAy
import Derived.Test.YtinahmhiopgcnaaAe
namespace Go.Proofs.Ytinahmhiopgcnaa
open Go.RowKit
set_option linter.unusedVariables false
set_option linter.unusedSimpArgs false

def unfz (b : Nat) : Nat := ((floatToIntVal .f64 b .i64).getD 0).toNat
theorem unfz_fz {r : Nat} (h : r < 65) : unfz (fz r) = r := by unfold unfz; rw [(fz_int r h).1]; simp
def rowOf : Value → Nat
  | .complex _ _ i => unfz i
  | _ => 0
def colOf : Value → Nat
  | .complex _ x _ => unfz x
  | _ => 0
/-- what has been asked: rows, cells of a row, triangles of a cell -/
def Vr (c1 c2 r1 r : Nat) : Nat → Nat → Bool → Prop := fun c' r' _ => (c1 ≤ c' ∧ c' ≤ c2) ∧ r1 ≤ r' ∧ r' < r
def Vc (c1 c2 r1 r c : Nat) : Nat → Nat → Bool → Prop := fun c' r' up' => Vr c1 c2 r1 r c' r' up' ∨ (r' = r ∧ c1 ≤ c' ∧ c' < c)
def Vu (c1 c2 r1 r c i : Nat) : Nat → Nat → Bool → Prop := fun c' r' up' => Vc c1 c2 r1 r c c' r' up' ∨ (r' = r ∧ c' = c ∧ up'.toNat < i)
theorem Vu_next {c1 c2 r1 r c i : Nat} (h : i < 2) : ∀ c' r' up', Vu c1 c2 r1 r c (i + 1) c' r' up' → Vu c1 c2 r1 r c i c' r' up' ∨ (c' = c ∧ r' = r ∧ up' = decide (i = 1)) := by
  intro c' r' up' k
  rcases k with k | ⟨k1, k2, k3⟩
  · exact Or.inl (Or.inl k)
  · by_cases g : up'.toNat < i
    · exact Or.inl (Or.inr ⟨k1, k2, g⟩)
    · refine Or.inr ⟨k2, k1, ?_⟩
      cases up' <;> simp at g k3 ⊢ <;> omega
theorem Vc_next {c1 c2 r1 r c : Nat} : ∀ c' r' up', Vc c1 c2 r1 r (c + 1) c' r' up' → Vu c1 c2 r1 r c 2 c' r' up' := by
  intro c' r' up' k
  rcases k with k | ⟨k1, k2, k3⟩
  · exact Or.inl (Or.inl k)
  · by_cases g : c' < c
    · exact Or.inl (Or.inr ⟨k1, k2, g⟩)
    · exact Or.inr ⟨k1, by omega, by cases up' <;> simp⟩
theorem Vr_next {c1 c2 r1 r : Nat} : ∀ c' r' up', Vr c1 c2 r1 (r + 1) c' r' up' → Vc c1 c2 r1 r (c2 + 1) c' r' up' := by
  intro c' r' up' ⟨k1, k2, k3⟩
  by_cases g : r' < r
  · exact Or.inl ⟨k1, k2, g⟩
  · exact Or.inr ⟨by omega, k1.1, by omega⟩
theorem dst_in (t : Trk) (c r : Int) (up : Bool) (a : Ry) : In64 (dstF t c r up a) := by
  unfold dstF
  split
  · exact divF_in _ _
  · unfold In64; omega
set_option maxRecDepth 100000 in
set_option maxHeartbeats 8000000 in
theorem yNear_any (t : Trk) (a : Ry) (lo top f hb gb hc gc : Nat) (w : World) (P : FX lo top w f hb gb hc gc t) (ha : a.may) (hi : a.ins) :
    Calls Try.prog 43 #[bmW f a (fz (whK t a.ox)) (fz (whR t a.oy)) (whX t a.ox) (whY t a.oy), .int .i64 a.long] w fun e w' => (∃ L, e = .returned (.int .i64 L) ∧ Near t a (Vr (min (whK t a.ox) (whK t (pntF a.ox a.dx a.long))) (max (whK t a.ox) (whK t (pntF a.ox a.dx a.long))) (min (whR t a.oy) (whR t (pntF a.oy a.dy a.long))) (max (whR t a.oy) (whR t (pntF a.oy a.dy a.long)) + 1)) L) ∧ Below w.heap.size w w' := by
  have S0 := Lib.hid (FS.mk (w := w) P (Below.refl _ _))
  obtain ⟨hcn, hf⟩ := P.r
  obtain ⟨⟨m1, m2⟩, -⟩ := id hcn
  have k1 : whK t a.ox < t.cols.toNat := axK_lt (by omega)
  have k2 : whK t (pntF a.ox a.dx a.long) < t.cols.toNat := axK_lt (by omega)
  have k3 : whR t a.oy < t.rows.toNat := axK_lt (by omega)
  have k4 : whR t (pntF a.oy a.dy a.long) < t.rows.toNat := axK_lt (by omega)
  have SP := Lib.hid (fun (W : World) (Q : FX lo top W f hb gb hc gc t) => ySpan_any t a (whK t a.ox) (whR t a.oy) (whX t a.ox) (whY t a.oy) a.long lo top f hb gb hc gc W Q hi hi.l (by omega) (by omega))
  have RC := Lib.hid (fun (c r : Nat) (up : Bool) (h1 : c < t.cols.toNat) (h2 : r < t.rows.toNat) (W : World) (Q : FX lo top W f hb gb hc gc t) => yReach_any t a c r up lo top f hb gb hc gc W Q ha hi h1 h2)
  have IN := Lib.hid (fun (c r : Nat) (up : Bool) (s : Int) (hs : In64 s) (h1 : c < 65) (h2 : r < 65) (W : World) (Q : FX lo top W f hb gb hc gc t) => yIn_any t a (fz (whK t a.ox)) (fz (whR t a.oy)) c r up (whX t a.ox) (whY t a.oy) s lo top f hb gb hc gc W Q hi hs h1 h2)
  have c12 : min (whK t a.ox) (whK t (pntF a.ox a.dx a.long)) ≤ max (whK t a.ox) (whK t (pntF a.ox a.dx a.long)) ∧ max (whK t a.ox) (whK t (pntF a.ox a.dx a.long)) < t.cols.toNat := by omega
  have r12 : min (whR t a.oy) (whR t (pntF a.oy a.dy a.long)) ≤ max (whR t a.oy) (whR t (pntF a.oy a.dy a.long)) ∧ max (whR t a.oy) (whR t (pntF a.oy a.dy a.long)) < t.rows.toNat := by omega
  generalize min (whK t a.ox) (whK t (pntF a.ox a.dx a.long)) = c1 at *
  generalize max (whK t a.ox) (whK t (pntF a.ox a.dx a.long)) = c2 at *
  generalize min (whR t a.oy) (whR t (pntF a.oy a.dy a.long)) = r1 at *
  generalize max (whR t a.oy) (whR t (pntF a.oy a.dy a.long)) = r2 at *
  generalize fz (whK t a.ox) = H at *
  generalize fz (whR t a.oy) = V at *
  generalize whX t a.ox = p at *
  generalize whY t a.oy = q at *
  have cols : t.cols.toNat ≤ 64 ∧ t.rows.toNat ≤ 64 := by omega
  have AN := Lib.hid (fun (V : Nat → Nat → Bool → Prop) (v : ∀ c r up, ¬ V c r up) => Near.start (t := t) ha v)
  have u1 : IntKind.i64.wrap (a.long + 1) = a.long + 1 := (wrap_in' (by have := ha.2.2.2.2.2.2; unfold In64; omega)).1
  have v1 : wrap64 (a.long + 1) = a.long + 1 := (wrap_in' (by have := ha.2.2.2.2.2.2; unfold In64; omega)).2
  obtain ⟨c12a, c12b⟩ := c12
  obtain ⟨r12a, r12b⟩ := r12
  clear hcn hf m1 m2 P k1 k2 k3 k4 ha hi
  go_enter Try.func43, Try.ntmps43
  go_wp2_with fail
  refine calls_gen (S := fun W => BS w W lo top f hb gb hc gc t w.heap.size (bmL f a H V p q)) ⟨S0.out.step ((Below.refl _ _).alloc (Nat.le_refl _) _), BW.new _ _ [_, _, _, _, _, _, _, _, _, _] _ rfl⟩ (fun W1 hS => ?_)
  have B1 := Lib.hid hS
  clear hS S0 u1 v1
  refine (SP.out _ B1.out.s.p).mono ?_
  rintro e w2 ⟨rfl, h⟩
  have B2 := Lib.hid (B1.out.step h)
  clear h B1 SP
  go_wp2_with fail
  go_loopw [5, 8] (fun l row wr => ∃ r : Nat, ∃ L : Int, (r1 ≤ r ∧ r ≤ r2 + 1) ∧ row = .complex .f64 (fz c1) (fz r) ∧ l = .int .i64 L ∧ Near t a (Vr c1 c2 r1 r) L ∧ BS w wr lo top f hb gb hc gc t w.heap.size (bmL f a H V p q)) (fun _ row _ => 70 - rowOf row)
  case atStart => exact ⟨r1, a.long + 1, ⟨Nat.le_refl _, by omega⟩, rfl, rfl, AN.out _ (fun c r up h => by have := h.2; omega), B2.out⟩
  case round =>
    obtain ⟨r, L, ⟨hr1, hr2⟩, rfl, rfl, hN, hB⟩ := hrel
    have N3 := Lib.hid hN
    have B3 := Lib.hid hB
    clear hN hB B2
    have eR := fz_leq (a := r) (b := r2) (by omega) (by omega)
    by_cases hlr : r ≤ r2
    · rw [decide_eq_true hlr] at eR
      go_wp2_with fail
      clear eR
      go_loopw [5, 9] (fun l cell wr => ∃ c : Nat, ∃ L : Int, (c1 ≤ c ∧ c ≤ c2 + 1) ∧ cell = .complex .f64 (fz c) (fz r) ∧ l = .int .i64 L ∧ Near t a (Vc c1 c2 r1 r c) L ∧ BS w wr lo top f hb gb hc gc t w.heap.size (bmL f a H V p q)) (fun _ cell _ => 70 - colOf cell)
      case atStart => exact ⟨c1, L, ⟨Nat.le_refl _, by omega⟩, rfl, rfl, N3.out.sub (fun c' r' up' h => h.elim id (fun h => by have := h.2; omega)), B3.out⟩
      case round =>
        obtain ⟨c, L1, ⟨hc1, hc2⟩, rfl, rfl, hN, hB⟩ := hrel
        have N4 := Lib.hid hN
        have B4 := Lib.hid hB
        clear hN hB B3 N3
        have eC := fz_leq (a := c) (b := c2) (by omega) (by omega)
        by_cases hlc : c ≤ c2
        · rw [decide_eq_true hlc] at eC
          go_wp2_with fail
          clear eC
          go_loopw [5, 39] (fun l ix wr => ∃ i : Nat, ∃ L : Int, i ≤ 2 ∧ ix = .int .i64 i ∧ l = .int .i64 L ∧ Near t a (Vu c1 c2 r1 r c i) L ∧ BS w wr lo top f hb gb hc gc t w.heap.size (bmL f a H V p q)) (fun _ ix _ => 2 - (intOf ix).toNat)
          case atStart => exact ⟨0, L1, by omega, rfl, rfl, N4.out.sub (fun c' r' up' h => h.elim id (fun h => by have := h.2.2; omega)), B4.out⟩
          case round =>
            obtain ⟨i, L2, hi2, rfl, rfl, hN, hB⟩ := hrel
            have N5 := Lib.hid hN
            have B5 := Lib.hid hB
            clear hN hB B4 N4
            by_cases hli : i < 2
            · have ix : ∀ w, (Instr.index 118 (.agg #[.bool false, .bool true]) (.int .i64 i)).run Try.prog w = .ok (.bool (decide (i = 1))) w := by
                intro w
                rcases (show i = 0 ∨ i = 1 by omega) with rfl | rfl <;> kernel_rfl
              have NO := Lib.hid (fun (h : ¬ (hitP t a c r (decide (i = 1)) ∧ dstF t c r (decide (i = 1)) a < L2)) => N5.out.no (Vu_next hli) h)
              have YES := Lib.hid (fun (h : hitP t a c r (decide (i = 1))) (l : dstF t c r (decide (i = 1)) a < L2) => N5.out.yes (show c < t.cols.toNat by omega) (show r < t.rows.toNat by omega) (Vu_next hli) h l)
              unfold hitP at NO YES
              have R5 := Lib.hid (fun (W : World) (Q : FX lo top W f hb gb hc gc t) => RC.out c r (decide (i = 1)) (by omega) (by omega) W Q)
              have I5 := Lib.hid (fun (W : World) (Q : FX lo top W f hb gb hc gc t) => IN.out c r (decide (i = 1)) (dstF t c r (decide (i = 1)) a) (dst_in t c r _ a) (by omega) (by omega) W Q)
              have zi : (i : Int) < 2 := by omega
              have zi0 : (0 : Int) ≤ i := by omega
              have b0 := B5.out.b.c 0 _ rfl
              have b1 := B5.out.b.c 1 _ rfl
              have b2 := B5.out.b.c 2 _ rfl
              have b3 := B5.out.b.c 3 _ rfl
              have b4 := B5.out.b.c 4 _ rfl
              have b5 := B5.out.b.c 5 _ rfl
              have b6 := B5.out.b.c 6 _ rfl
              have b7 := B5.out.b.c 7 _ rfl
              have b8 := B5.out.b.c 8 _ rfl
              have b9 := B5.out.b.c 9 _ rfl
              generalize decide (i = 1) = up at *
              generalize dstF t c r up a = ds at *
              generalize inTri t c r up (pntF a.ox a.dx ds) (pntF a.oy a.dy ds) = it at *
              generalize stpF t c r up a = st at *
              clear N5
              go_wp2_with fail
              refine (R5.out _ B5.out.s.p).mono ?_
              rintro e w6 ⟨rfl, h⟩
              have B6 := Lib.hid (B5.out.step h)
              clear h B5 R5 b0 b1 b2 b3 b4 b5 b6 b7 b8 b9 ix
              by_cases s1 : st < 0
              rotate_left
              · rw [if_neg s1, decide_eq_false s1]
                clear I5 YES
                go_wp2
                go_roundw
                case rel => exact ⟨i + 1, L2, by omega, by go_num, rfl, NO.out (fun k => by have := k.1.1; omega), B6.out⟩
                case measure => simp [intOf]; omega
              rw [if_pos s1, decide_eq_true s1]
              by_cases s2 : ds < L2
              rotate_left
              · clear I5 YES
                go_wp2
                go_roundw
                case rel => exact ⟨i + 1, L2, by omega, by go_num, rfl, NO.out (fun k => by have := k.2; omega), B6.out⟩
                case measure => simp [intOf]; omega
              have b0 := B6.out.b.c 0 _ rfl
              have b1 := B6.out.b.c 1 _ rfl
              have b2 := B6.out.b.c 2 _ rfl
              have b3 := B6.out.b.c 3 _ rfl
              have b4 := B6.out.b.c 4 _ rfl
              have b5 := B6.out.b.c 5 _ rfl
              have b6 := B6.out.b.c 6 _ rfl
              have b7 := B6.out.b.c 7 _ rfl
              have b8 := B6.out.b.c 8 _ rfl
              have b9 := B6.out.b.c 9 _ rfl
              go_wp2_with fail
              refine (I5.out _ B6.out.s.p).mono ?_
              rintro e w7 ⟨rfl, h⟩
              have B7 := Lib.hid (B6.out.step h)
              clear h B6 I5 b0 b1 b2 b3 b4 b5 b6 b7 b8 b9
              cases it with
              | false =>
                clear YES
                go_wp2
                go_roundw
                case rel => exact ⟨i + 1, L2, by omega, by go_num, rfl, NO.out (fun k => absurd k.1.2 (by simp)), B7.out⟩
                case measure => simp [intOf]; omega
              | true =>
                have Y := Lib.hid (YES.out ⟨s1, rfl⟩ s2)
                clear YES NO
                go_wp2
                go_roundw
                case rel => exact ⟨i + 1, ds, by omega, by go_num, rfl, Y.out, B7.out⟩
                case measure => simp [intOf]; omega
            · have e : i = 2 := by omega
              subst e
              obtain ⟨c', hc'⟩ : ∃ c', c + 1 = c' := ⟨_, rfl⟩
              have hrt : ∀ w, (binOp .add 90 (.complex .f64 (fz c) (fz r)) (.complex .f64 4607182418800017408 0)).run Try.prog w = .ok (.complex .f64 (fz c') (fz r)) w := fun w => by rw [← hc']; exact fz_right w (by omega) (by omega) _
              have N6 := Lib.hid (show Near t a (Vc c1 c2 r1 r c') L2 by rw [← hc']; exact N5.out.sub Vc_next)
              have M6 := Lib.hid (show 70 - unfz (fz c') < 70 - unfz (fz c) by rw [unfz_fz (by omega), unfz_fz (by omega)]; omega)
              have C6 := Lib.hid (show c1 ≤ c' ∧ c' ≤ c2 + 1 by omega)
              clear N5 hc' hli
              go_wp2
              go_roundw
              case rel => exact ⟨c', L2, C6.out, rfl, rfl, N6.out, B5.out⟩
              case measure => exact M6.out
        · have e : c = c2 + 1 := by omega
          rw [decide_eq_false hlc] at eC
          obtain ⟨r', hr'⟩ : ∃ r', r + 1 = r' := ⟨_, rfl⟩
          have hdn : ∀ w, (binOp .add 90 (.complex .f64 (fz c1) (fz r)) (.complex .f64 0 4607182418800017408)).run Try.prog w = .ok (.complex .f64 (fz c1) (fz r')) w := fun w => by rw [← hr']; exact fz_down w (by omega) (by omega) _
          have N6 := Lib.hid (show Near t a (Vr c1 c2 r1 r') L1 by rw [← hr']; exact N4.out.sub (fun c' r' up' h => by rw [e]; exact Vr_next c' r' up' h))
          have M6 := Lib.hid (show 70 - unfz (fz r') < 70 - unfz (fz r) by rw [unfz_fz (by omega), unfz_fz (by omega)]; omega)
          have C6 := Lib.hid (show r1 ≤ r' ∧ r' ≤ r2 + 1 by omega)
          clear N4 hr' hlc e
          go_wp2
          go_roundw
          case rel => exact ⟨r', L1, C6.out, rfl, rfl, N6.out, B4.out⟩
          case measure => exact M6.out
    · have e : r = r2 + 1 := by omega
      rw [decide_eq_false hlr] at eR
      have N4 := Lib.hid (show Near t a (Vr c1 c2 r1 (r2 + 1)) L by rw [← e]; exact N3.out)
      clear N3 e hlr
      go_wp2
      go_ret
      exact ⟨⟨L, rfl, N4.out⟩, B3.out.s.l⟩
end Go.Proofs.Ytinahmhiopgcnaa
namespace Go.Proofs.Ytinahmhiopgcnaa
open Go.RowKit
set_option linter.unusedVariables false
set_option linter.unusedSimpArgs false
attribute [local go_sem] st_cx

theorem tcV_no (t : Trk) (a : Ry) : tcV t a (-1) = .agg #[.int .i64 0, .int .i64 0, .int .i64 0, .int .i64 0, .int .i64 0] := by
  unfold tcV tcS tcX tcY tcZ tcK
  rw [if_pos (by omega), if_pos (by omega), if_pos (by omega), if_pos (by omega), if_pos (by omega)]
theorem tcV_yes {t : Trk} {a : Ry} {i : Int} (h : 0 ≤ i) : tcV t a i = .agg #[.int .i64 (tcS t a i), .int .i64 (upX (tcA t i) (tcB t i)), .int .i64 (upY (tcA t i) (tcB t i)), .int .i64 (upZ (tcA t i) (tcB t i)), .int .i64 (tcK t i)] := by
  unfold tcV tcX tcY tcZ
  rw [if_neg (by omega), if_neg (by omega), if_neg (by omega)]
/-- the walk of Cast: the field, the flag, a ray's place and way, what is told -/
structure CStt (w W : World) (lo top f hb gb hc gc b k : Nat) (o : Bool) (t : Trk) (a : Ry) : Prop where
  s : FS w lo top W f hb gb hc gc t
  g : Flag w W b k o
  A : VW W w.heap.size a.ox a.oy a.oz
  D : VW W (w.heap.size + 1) a.dx a.dy a.dz
  z : BW W (w.heap.size + 1 + 1) [.int .i64 0, .int .i64 0, .int .i64 0, .int .i64 0, .int .i64 0]
theorem CStt.step {w W W' : World} {lo top f hb gb hc gc b k : Nat} {o : Bool} {t : Trk} {a : Ry} (Q : CStt w W lo top f hb gb hc gc b k o t a) (h : Below W.heap.size W W') : CStt w W' lo top f hb gb hc gc b k o t a :=
  ⟨Q.s.step h, Q.g.more h, Q.A.below h Q.A.lt, Q.D.below h Q.D.lt, Q.z.below h Q.z.lt⟩
theorem flag_put5 {w W : World} {b k r : Nat} {o : Bool} (t : Flag w W b k o) (h : w.heap.size ≤ r) (u0 u1 u2 u3 u4 : Value) : FxW w.heap.size w b k o (((((W.setCell ⟨r, 0, none⟩ u0).setCell ⟨r, 1, none⟩ u1).setCell ⟨r, 2, none⟩ u2).setCell ⟨r, 3, none⟩ u3).setCell ⟨r, 4, none⟩ u4) :=
  Flag.set (Flag.set (Flag.set (Flag.set (Flag.set t.f h 0 u0) h 1 u1) h 2 u2) h 3 u3) h 4 u4
set_option maxRecDepth 100000 in
set_option maxHeartbeats 8000000 in
theorem yCast_any (t : Trk) (a : Ry) (b k : Nat) (o : Bool) (lo top f hb gb hc gc : Nat) (w : World) (P : FX lo top w f hb gb hc gc t) (hi : a.ins) (m : MAt w b k o) :
    Calls Try.prog 14 #[.pointer (some ⟨b, k, none⟩), .pointer (some ⟨f, 0, none⟩), a.o, a.d, .int .i64 a.long] w fun e w' => e = .returned (.tuple #[tcV t a (casI t a), .bool (decide (0 ≤ casI t a))]) ∧ FxW w.heap.size w b k o w' := by
  have S0 := Lib.hid (FS.mk (w := w) P (Below.refl _ _))
  have HM := Lib.hid m
  obtain ⟨hcn, hf⟩ := P.r
  have VD := Lib.hid (fun (W : World) (Q : FX lo top W f hb gb hc gc t) => fSide_any t lo top f hb gb hc gc W Q)
  have VV := Lib.hid (fun (W : World) => yValid_any a W)
  have zc : ¬ t.cell = 0 := by have := hf.1; omega
  have zc1 : (t.cell == 0) = false := by simp; exact zc
  obtain ⟨tv, htv⟩ : ∃ v, tcV t a (casI t a) = v := ⟨_, rfl⟩
  obtain ⟨kk, hkk⟩ : ∃ v, decide (0 ≤ casI t a) = v := ⟨_, rfl⟩
  have CN := Lib.hid (fun (h : casI t a = -1) => (show (.agg #[.int .i64 0, .int .i64 0, .int .i64 0, .int .i64 0, .int .i64 0] : Value) = tv ∧ false = kk from ⟨by rw [← htv, h, tcV_no], by rw [← hkk, h]; rfl⟩))
  have CY := Lib.hid (fun (h : 0 ≤ casI t a) => (show (.agg #[.int .i64 (tcS t a (casI t a)), .int .i64 (upX (tcA t (casI t a)) (tcB t (casI t a))), .int .i64 (upY (tcA t (casI t a)) (tcB t (casI t a))), .int .i64 (upZ (tcA t (casI t a)) (tcB t (casI t a))), .int .i64 (tcK t (casI t a))] : Value) = tv ∧ true = kk from ⟨by rw [← htv, tcV_yes h], by rw [← hkk]; exact (decide_eq_true h).symm⟩))
  rw [htv, hkk]
  clear m P htv hkk
  by_cases hm : a.may
  rotate_left
  · have E := Lib.hid (CN.out (by unfold casI; rw [if_neg hm]))
    rw [decide_eq_false hm] at VV
    clear hcn hf hi hm CN CY
    go_enter Try.func14, Try.ntmps14
    go_wp2_with fail
    refine calls_gen (S := fun W => CStt w W lo top f hb gb hc gc b k o t a) ⟨S0.out.step (by repeat (first | exact Below.refl _ _ | assumption | refine Below.setCell ?_ (by first | omega | (simp; done) | (simp; omega)) _ | refine Below.alloc ?_ (by first | omega | (simp; done) | (simp; omega)) _ | refine below_drewN ?_ _ | refine Below.drew ?_ | refine Below.trans ?_ (Below.mono (by assumption) (by first | omega | (simp; done) | (simp; omega))))), Flag.start HM.out (by repeat (first | exact Below.refl _ _ | assumption | refine Below.setCell ?_ (by first | omega | (simp; done) | (simp; omega)) _ | refine Below.alloc ?_ (by first | omega | (simp; done) | (simp; omega)) _ | refine below_drewN ?_ _ | refine Below.drew ?_ | refine Below.trans ?_ (Below.mono (by assumption) (by first | omega | (simp; done) | (simp; omega))))), ((VW.new w w.heap.size a.ox a.oy a.oz _ rfl).alloc _).alloc _, (VW.new _ _ a.dx a.dy a.dz _ (by simp)).alloc _, BW.new _ _ [_, _, _, _, _] _ (by simp)⟩ (fun W1 hS => ?_)
    have Q1 := Lib.hid hS
    clear hS S0 HM
    refine (VD.out _ Q1.out.s.p).mono ?_
    rintro e w2 ⟨rfl, h⟩
    have Q2 := Lib.hid (Q1.out.step h)
    clear h Q1 VD
    obtain ⟨a0, a1, a2⟩ := Q2.out.A.held
    obtain ⟨d0, d1, d2⟩ := Q2.out.D.held
    go_wp2_with fail
    refine (VV.out _).mono ?_
    rintro e w3 ⟨rfl, h⟩
    have Q3 := Lib.hid (Q2.out.step h)
    clear h Q2 VV a0 a1 a2 d0 d1 d2 zc zc1
    have r0 := Q3.out.z.c 0 _ rfl
    have r1 := Q3.out.z.c 1 _ rfl
    have r2 := Q3.out.z.c 2 _ rfl
    have r3 := Q3.out.z.c 3 _ rfl
    have r4 := Q3.out.z.c 4 _ rfl
    have rf := Q3.out.z.f
    go_wp2
    exact bodyPost_ret (v := .tuple #[.agg #[.int .i64 0, .int .i64 0, .int .i64 0, .int .i64 0, .int .i64 0], .bool false]) (by simp [results, Try.results14, go_sem, r0, r1, r2, r3, r4]) rfl ⟨by rw [← E.out.1, ← E.out.2], flag_put5 Q3.out.g (by omega) _ _ _ _ _⟩
  rw [decide_eq_true hm] at VV
  have NB := Lib.hid (fun (W : World) (Q : FX lo top W f hb gb hc gc t) => yBeam_any t a lo top f hb gb hc gc W Q)
  have NR := Lib.hid (fun (W : World) (Q : FX lo top W f hb gb hc gc t) => yNear_any t a lo top f hb gb hc gc W Q hm hi)
  have DN := Lib.hid (fun (L : Int) (N : Near t a _ L) => Near.done (V := Vr (min (whK t a.ox) (whK t (pntF a.ox a.dx a.long))) (max (whK t a.ox) (whK t (pntF a.ox a.dx a.long))) (min (whR t a.oy) (whR t (pntF a.oy a.dy a.long))) (max (whR t a.oy) (whR t (pntF a.oy a.dy a.long)) + 1)) N hcn hf hi hm (fun c r up h1 h2 => ⟨h1, h2.1, by omega⟩))
  have NN := Lib.hid (fun (V : Nat → Nat → Bool → Prop) (L : Int) (N : Near t a V L) => (show 0 ≤ L ∧ L ≤ 274877906945 from ⟨N.nn, by have := N.le; have := hm.2.2.2.2.2.2.2; omega⟩))
  have PN := Lib.hid (fun (s : Int) (hs : In64 s) (W : World) => yPoint_nil a s W hi hs)
  have NO := Lib.hid (fun (x y : Int) (W : World) (Q : FX lo top W f hb gb hc gc t) => fNormal_nil t x y lo top f hb gb hc gc W Q)
  have KI := Lib.hid (fun (x y : Int) (W : World) (Q : FX lo top W f hb gb hc gc t) => fKind_any t x y lo top f hb gb hc gc W Q)
  generalize fz (whK t a.ox) = H at *
  generalize fz (whR t a.oy) = V at *
  generalize whX t a.ox = p at *
  generalize whY t a.oy = q at *
  clear hcn hf hi hm
  go_enter Try.func14, Try.ntmps14
  go_wp2_with fail
  refine calls_gen (S := fun W => CStt w W lo top f hb gb hc gc b k o t a) ⟨S0.out.step (by repeat (first | exact Below.refl _ _ | assumption | refine Below.setCell ?_ (by first | omega | (simp; done) | (simp; omega)) _ | refine Below.alloc ?_ (by first | omega | (simp; done) | (simp; omega)) _ | refine below_drewN ?_ _ | refine Below.drew ?_ | refine Below.trans ?_ (Below.mono (by assumption) (by first | omega | (simp; done) | (simp; omega))))), Flag.start HM.out (by repeat (first | exact Below.refl _ _ | assumption | refine Below.setCell ?_ (by first | omega | (simp; done) | (simp; omega)) _ | refine Below.alloc ?_ (by first | omega | (simp; done) | (simp; omega)) _ | refine below_drewN ?_ _ | refine Below.drew ?_ | refine Below.trans ?_ (Below.mono (by assumption) (by first | omega | (simp; done) | (simp; omega))))), ((VW.new w w.heap.size a.ox a.oy a.oz _ rfl).alloc _).alloc _, (VW.new _ _ a.dx a.dy a.dz _ (by simp)).alloc _, BW.new _ _ [_, _, _, _, _] _ (by simp)⟩ (fun W1 hS => ?_)
  have Q1 := Lib.hid hS
  clear hS S0 HM
  refine (VD.out _ Q1.out.s.p).mono ?_
  rintro e w2 ⟨rfl, h⟩
  have Q2 := Lib.hid (Q1.out.step h)
  clear h Q1 VD
  obtain ⟨a0, a1, a2⟩ := Q2.out.A.held
  obtain ⟨d0, d1, d2⟩ := Q2.out.D.held
  go_wp2_with fail
  refine (VV.out _).mono ?_
  rintro e w3 ⟨rfl, h⟩
  have Q3 := Lib.hid (Q2.out.step h)
  clear h Q2 VV a0 a1 a2 d0 d1 d2 zc zc1
  obtain ⟨a0, a1, a2⟩ := Q3.out.A.held
  obtain ⟨d0, d1, d2⟩ := Q3.out.D.held
  go_wp2_with fail
  refine (NB.out _ Q3.out.s.p).mono ?_
  rintro e w4 ⟨rfl, h⟩
  have Q4 := Lib.hid (Q3.out.step h)
  clear h Q3 NB a0 a1 a2 d0 d1 d2
  go_wp2_with fail
  refine calls_gen (S := fun W => CStt w W lo top f hb gb hc gc b k o t a) (Q4.out.step ((Below.refl _ _).alloc (Nat.le_refl _) _)) (fun W5 hS => ?_)
  have Q5 := Lib.hid hS
  clear hS Q4
  refine (NR.out _ Q5.out.s.p).mono ?_
  rintro e w6 ⟨⟨L, rfl, hN⟩, h⟩
  have Q6 := Lib.hid (Q5.out.step h)
  have LL := NN.out _ L hN
  have D := DN.out L hN
  clear h Q5 NR DN NN hN
  rcases D with ⟨e1, e2⟩ | ⟨e1, e2, e3, e4, e5, e6⟩
  · have E := Lib.hid (CN.out e1)
    have g : a.long < L := by omega
    clear e1 e2 LL PN NO KI CN CY
    have r0 := Q6.out.z.c 0 _ rfl
    have r1 := Q6.out.z.c 1 _ rfl
    have r2 := Q6.out.z.c 2 _ rfl
    have r3 := Q6.out.z.c 3 _ rfl
    have r4 := Q6.out.z.c 4 _ rfl
    have rf := Q6.out.z.f
    go_wp2
    exact bodyPost_ret (v := .tuple #[.agg #[.int .i64 0, .int .i64 0, .int .i64 0, .int .i64 0, .int .i64 0], .bool false]) (by simp [results, Try.results14, go_sem, r0, r1, r2, r3, r4]) rfl ⟨by rw [← E.out.1, ← E.out.2], flag_put5 Q6.out.g (by omega) _ _ _ _ _⟩
  have E' := CY.out e1
  rw [e3, ← e4, ← e5, ← e6] at E'
  have E := Lib.hid E'
  have P7 := Lib.hid (fun (W : World) => PN.out L (by unfold In64; omega) W)
  have N7 := Lib.hid (fun (W : World) (Q : FX lo top W f hb gb hc gc t) => NO.out (pntF a.ox a.dx L) (pntF a.oy a.dy L) W Q)
  have K7 := Lib.hid (fun (W : World) (Q : FX lo top W f hb gb hc gc t) => KI.out (pntF a.ox a.dx L) (pntF a.oy a.dy L) W Q)
  have g : ¬ a.long < L := by omega
  clear e1 e2 e3 e4 e5 e6 E' LL PN NO KI CN CY
  generalize upX (slpA t (pntF a.ox a.dx L) (pntF a.oy a.dy L)) (slpB t (pntF a.ox a.dx L) (pntF a.oy a.dy L)) = n1 at *
  generalize upY (slpA t (pntF a.ox a.dx L) (pntF a.oy a.dy L)) (slpB t (pntF a.ox a.dx L) (pntF a.oy a.dy L)) = n2 at *
  generalize upZ (slpA t (pntF a.ox a.dx L) (pntF a.oy a.dy L)) (slpB t (pntF a.ox a.dx L) (pntF a.oy a.dy L)) = n3 at *
  generalize kindFd t (pntF a.ox a.dx L) (pntF a.oy a.dy L) = n4 at *
  generalize pntF a.ox a.dx L = X at *
  generalize pntF a.oy a.dy L = Y at *
  generalize pntF a.oz a.dz L = Z at *
  obtain ⟨a0, a1, a2⟩ := Q6.out.A.held
  obtain ⟨d0, d1, d2⟩ := Q6.out.D.held
  go_wp2_with fail
  refine (P7.out _).mono ?_
  rintro e w7 ⟨rfl, h⟩
  have Q7 := Lib.hid (Q6.out.step h)
  clear h Q6 P7 a0 a1 a2 d0 d1 d2 g
  go_wp2_with fail
  refine wp_gen (S := fun W => CStt w W lo top f hb gb hc gc b k o t a ∧ VW W w7.heap.size X Y Z) ⟨Q7.out.step ((Below.refl _ _).alloc (Nat.le_refl _) _), VW.new _ _ X Y Z _ rfl⟩ (fun W8 hS => ?_)
  have Q8 := Lib.hid (hS.1.step (Below.refl _ _).drew)
  have X8 := Lib.hid hS.2.drew
  have hne : w.heap.size + 1 + 1 < w7.heap.size := Q7.out.z.lt
  generalize w7.heap.size = nb at *
  clear hS Q7
  refine wp_region_held_drew (S := fun W => (W.cell? ⟨nb, 0, none⟩ = some (.int .i64 (X)) ∧ W.cell? ⟨nb, 1, none⟩ = some (.int .i64 (Y)) ∧ W.cell? ⟨nb, 2, none⟩ = some (.int .i64 (Z)))) (by kernel_rfl) X8.out.held (fun hHeld => ?_)
  generalize W8.drew = w8 at *
  refine wpAnyH_takeD 0 41 (v := ?_) (by kernel_rfl) (by kernel_rfl) (by kernel_rfl) (by kernel_rfl) (by rfl) (fun _ _ _ h => h) ?_ hHeld ?_
  rotate_left 1
  (intro o ho W hSw; simp only [List.getElem?_toArray, List.getElem?_cons_succ, List.getElem?_cons_zero, Option.some.injEq] at ho; subst ho; (try dsimp only at hSw); go_simp; try with_reducible rfl)
  (try simp only [Act.put, List.setIfInBounds_toArray, List.set_cons_zero, List.set_cons_succ])
  refine wpAnyH_takeD 1 42 (v := ?_) (by kernel_rfl) (by kernel_rfl) (by kernel_rfl) (by kernel_rfl) (by rfl) (fun _ _ _ h => h) ?_ hHeld ?_
  rotate_left 1
  (intro o ho W hSw; simp only [List.getElem?_toArray, List.getElem?_cons_succ, List.getElem?_cons_zero, Option.some.injEq] at ho; subst ho; (try dsimp only at hSw); go_simp; try with_reducible rfl)
  (try simp only [Act.put, List.setIfInBounds_toArray, List.set_cons_zero, List.set_cons_succ])
  refine wpAnyH_takeD 2 43 (v := ?_) (by kernel_rfl) (by kernel_rfl) (by kernel_rfl) (by kernel_rfl) (by rfl) (fun _ _ _ h => h) ?_ hHeld ?_
  rotate_left 1
  (intro o ho W hSw; simp only [List.getElem?_toArray, List.getElem?_cons_succ, List.getElem?_cons_zero, Option.some.injEq] at ho; subst ho; (try dsimp only at hSw); go_simp; try with_reducible rfl)
  (try simp only [Act.put, List.setIfInBounds_toArray, List.set_cons_zero, List.set_cons_succ])
  refine wpAnyH_takeD 3 44 (v := ?_) (by kernel_rfl) (by kernel_rfl) (by kernel_rfl) (by kernel_rfl) (by rfl) (fun _ _ _ h => h) ?_ hHeld ?_
  rotate_left 1
  (intro o ho W hSw; simp only [List.getElem?_toArray, List.getElem?_cons_succ, List.getElem?_cons_zero, Option.some.injEq] at ho; subst ho; (try dsimp only at hSw); go_simp; try with_reducible rfl)
  (try simp only [Act.put, List.setIfInBounds_toArray, List.set_cons_zero, List.set_cons_succ])
  refine wpAnyH_takeD 4 45 (v := ?_) (by kernel_rfl) (by kernel_rfl) (by kernel_rfl) (by kernel_rfl) (by rfl) (fun _ _ _ h => h) ?_ hHeld ?_
  rotate_left 1
  (intro o ho W hSw; simp only [List.getElem?_toArray, List.getElem?_cons_succ, List.getElem?_cons_zero, Option.some.injEq] at ho; subst ho; (try dsimp only at hSw); go_simp; try with_reducible rfl)
  (try simp only [Act.put, List.setIfInBounds_toArray, List.set_cons_zero, List.set_cons_succ])
  refine wpAnyH_takeD 5 46 (v := ?_) (by kernel_rfl) (by kernel_rfl) (by kernel_rfl) (by kernel_rfl) (by rfl) (fun _ _ _ h => h) ?_ hHeld ?_
  rotate_left 1
  (intro o ho W hSw; simp only [List.getElem?_toArray, List.getElem?_cons_succ, List.getElem?_cons_zero, Option.some.injEq] at ho; subst ho; (try dsimp only at hSw); go_simp; try with_reducible rfl)
  (try simp only [Act.put, List.setIfInBounds_toArray, List.set_cons_zero, List.set_cons_succ])
  refine wpAnyH_takeD 7 48 (v := ?_) (by kernel_rfl) (by kernel_rfl) (by kernel_rfl) (by kernel_rfl) (by rfl) (fun _ _ _ h => h) ?_ hHeld ?_
  rotate_left 1
  (intro o ho W hSw; simp only [List.getElem?_toArray, List.getElem?_cons_succ, List.getElem?_cons_zero, Option.some.injEq] at ho; subst ho; (try dsimp only at hSw); go_simp; try with_reducible rfl)
  (try simp only [Act.put, List.setIfInBounds_toArray, List.set_cons_zero, List.set_cons_succ])
  refine wpAnyH_takeD 8 49 (v := ?_) (by kernel_rfl) (by kernel_rfl) (by kernel_rfl) (by kernel_rfl) (by rfl) (fun _ _ _ h => h) ?_ hHeld ?_
  rotate_left 1
  (intro o ho W hSw; simp only [List.getElem?_toArray, List.getElem?_cons_succ, List.getElem?_cons_zero, Option.some.injEq] at ho; subst ho; (try dsimp only at hSw); go_simp; try with_reducible rfl)
  (try simp only [Act.put, List.setIfInBounds_toArray, List.set_cons_zero, List.set_cons_succ])
  refine wpAnyH_takeD 9 50 (v := ?_) (by kernel_rfl) (by kernel_rfl) (by kernel_rfl) (by kernel_rfl) (by rfl) (fun _ _ _ h => h) ?_ hHeld ?_
  rotate_left 1
  (intro o ho W hSw; simp only [List.getElem?_toArray, List.getElem?_cons_succ, List.getElem?_cons_zero, Option.some.injEq] at ho; subst ho; (try dsimp only at hSw); go_simp; try with_reducible rfl)
  (try simp only [Act.put, List.setIfInBounds_toArray, List.set_cons_zero, List.set_cons_succ])
  refine wpAnyH_takeD 10 51 (v := ?_) (by kernel_rfl) (by kernel_rfl) (by kernel_rfl) (by kernel_rfl) (by rfl) (fun _ _ _ h => h) ?_ hHeld ?_
  rotate_left 1
  (intro o ho W hSw; simp only [List.getElem?_toArray, List.getElem?_cons_succ, List.getElem?_cons_zero, Option.some.injEq] at ho; subst ho; (try dsimp only at hSw); go_simp; try with_reducible rfl)
  (try simp only [Act.put, List.setIfInBounds_toArray, List.set_cons_zero, List.set_cons_succ])
  refine wpAnyH_takeD 11 52 (v := ?_) (by kernel_rfl) (by kernel_rfl) (by kernel_rfl) (by kernel_rfl) (by rfl) (fun _ _ _ h => h) ?_ hHeld ?_
  rotate_left 1
  (intro o ho W hSw; simp only [List.getElem?_toArray, List.getElem?_cons_succ, List.getElem?_cons_zero, Option.some.injEq] at ho; subst ho; (try dsimp only at hSw); go_simp; try with_reducible rfl)
  (try simp only [Act.put, List.setIfInBounds_toArray, List.set_cons_zero, List.set_cons_succ])
  refine wpAnyH_onlyD 6 (by kernel_rfl) (fun o ho K hK => ?_) (by kernel_rfl)
  simp only [List.getElem?_toArray, List.getElem?_cons_succ, List.getElem?_cons_zero, Option.some.injEq] at ho
  subst ho
  go_simp
  refine (N7.out _ Q8.out.s.p).mono ?_
  rintro e w9 ⟨rfl, h⟩
  have Q9 := Lib.hid (Q8.out.step h)
  have X9 := Lib.hid (X8.out.below h X8.out.lt)
  go_wp2_with fail
  refine hK.out _ _ (X9.out.held) ?_
  clear hK K hHeld
  intro hHeld
  clear h Q8 X8 N7
  refine wpAnyH_onlyD 12 (by kernel_rfl) (fun o ho K hK => ?_) (by kernel_rfl)
  simp only [List.getElem?_toArray, List.getElem?_cons_succ, List.getElem?_cons_zero, Option.some.injEq] at ho
  subst ho
  go_simp
  refine (K7.out _ Q9.out.s.p).mono ?_
  rintro e w10 ⟨rfl, h⟩
  have Q10 := Lib.hid (Q9.out.step h)
  have X10 := Lib.hid (X9.out.below h X9.out.lt)
  go_wp2_with fail
  refine hK.out _ _ (X10.out.held) ?_
  clear hK K hHeld
  intro hHeld
  clear h Q9 X9 K7
  refine wpAnyH_takeD 13 54 (v := ?_) (by kernel_rfl) (by kernel_rfl) (by kernel_rfl) (by kernel_rfl) (by rfl) (fun _ _ _ h => h) ?_ hHeld ?_
  rotate_left 1
  (intro o ho W hSw; simp only [List.getElem?_toArray, List.getElem?_cons_succ, List.getElem?_cons_zero, Option.some.injEq] at ho; subst ho; (try dsimp only at hSw); go_simp; try with_reducible rfl)
  (try simp only [Act.put, List.setIfInBounds_toArray, List.set_cons_zero, List.set_cons_succ])
  have r0 := Q10.out.z.c 0 _ rfl
  have r1 := Q10.out.z.c 1 _ rfl
  have r2 := Q10.out.z.c 2 _ rfl
  have r3 := Q10.out.z.c 3 _ rfl
  have r4 := Q10.out.z.c 4 _ rfl
  have rf := Q10.out.z.f
  refine wpAnyH_onlyD 14 (by kernel_rfl) (fun o ho K hK => ?_) (by kernel_rfl)
  simp only [List.getElem?_toArray, List.getElem?_cons_succ, List.getElem?_cons_zero, Option.some.injEq] at ho
  subst ho
  go_simp
  refine hK.out _ _ ((vw_far5 X10.out (by omega) _ _ _ _ _).held) ?_
  clear hK K hHeld
  intro hHeld
  refine wpAnyH_takeD 15 11 (v := ?_) (by kernel_rfl) (by kernel_rfl) (by kernel_rfl) (by kernel_rfl) (by rfl) (fun _ _ _ h => h) ?_ hHeld ?_
  rotate_left 1
  (intro o ho W hSw; simp only [List.getElem?_toArray, List.getElem?_cons_succ, List.getElem?_cons_zero, Option.some.injEq] at ho; subst ho; (try dsimp only at hSw); go_simp; try with_reducible rfl)
  (try simp only [Act.put, List.setIfInBounds_toArray, List.set_cons_zero, List.set_cons_succ])
  refine wpAnyH_done (by kernel_rfl) ?_ _
  clear hHeld
  go_wp2
  exact bodyPost_ret (v := .tuple #[.agg #[.int .i64 L, .int .i64 n1, .int .i64 n2, .int .i64 n3, .int .i64 n4], .bool true]) (by simp [results, Try.results14, go_sem, r0, r1, r2, r3, r4]) rfl ⟨by rw [← E.out.1, ← E.out.2], flag_put5 Q10.out.g (by omega) _ _ _ _ _⟩
/-- what the program's ray tells -/
theorem rayC : RayC fieldT where
  point := fun a s b k o w ha hs m => yPoint_any a s b k o w ha hs m
  cast := fun t a b k o lo top f w _ hi ⟨hb, gb, hc, gc, P⟩ _ m => yCast_any t a b k o lo top f hb gb hc gc w P hi m
end Go.Proofs.Ytinahmhiopgcnaa

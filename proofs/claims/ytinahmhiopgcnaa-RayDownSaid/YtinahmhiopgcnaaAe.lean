/- What package ray is to tell; few, the example, awake of the rays' laws. -/
import Derived.Test.YtinahmhiopgcnaaBa
import Derived.Test.YtinahmhiopgcnaaEk
namespace Go.Proofs.Ytinahmhiopgcnaa
open Go.RowKit
set_option linter.unusedVariables false
set_option linter.unusedSimpArgs false

/-- what package field tells, as far as rays ask it -/
structure FieldR (F : FieldT) : Prop where
  yes : ∀ (t : Trk) (lo B : Nat) (w : World), B ≤ w.heap.size → TrkM B w t → lo ≤ w.heap.size → TrkLo lo t → rightFd t = 0 → Calls Try.prog 11 #[trkV t] w fun e w' => (∃ f, e = .returned (.tuple #[.pointer (some ⟨f, 0, none⟩), .int .i64 0]) ∧ F.P lo w'.heap.size w' f t) ∧ Below w.heap.size w w'
  height : ∀ (t : Trk) (x y : Int) (b k : Nat) (o : Bool) (lo top f : Nat) (w : World), In64 x → In64 y → F.P lo top w f t → (b < lo ∨ top ≤ b) → MAt w b k o → Calls Try.prog 13 #[.pointer (some ⟨f, 0, none⟩), .pointer (some ⟨b, k, none⟩), .int .i64 x, .int .i64 y] w fun e w' => e = .returned (.int .i64 (heightF t x y)) ∧ FxW w.heap.size w b k o w'
  normal : ∀ (t : Trk) (x y : Int) (b k : Nat) (o : Bool) (lo top f : Nat) (w : World), In64 x → In64 y → F.P lo top w f t → (b < lo ∨ top ≤ b) → MAt w b k o → Calls Try.prog 15 #[.pointer (some ⟨f, 0, none⟩), .pointer (some ⟨b, k, none⟩), .int .i64 x, .int .i64 y] w fun e w' => e = .returned (.agg #[.int .i64 (upX (slpA t x y) (slpB t x y)), .int .i64 (upY (slpA t x y) (slpB t x y)), .int .i64 (upZ (slpA t x y) (slpB t x y))]) ∧ FxW w.heap.size w b k o w'
  kind : ∀ (t : Trk) (x y : Int) (lo top f : Nat) (w : World), In64 x → In64 y → F.P lo top w f t → Calls Try.prog 16 #[.pointer (some ⟨f, 0, none⟩), .int .i64 x, .int .i64 y] w fun e w' => e = .returned (.int .i64 (kindFd t x y)) ∧ Below w.heap.size w w'
/-- of it, what a walk of Cast alone asks -/
structure FieldY (F : FieldT) : Prop where
  yes : ∀ (t : Trk) (lo B : Nat) (w : World), B ≤ w.heap.size → TrkM B w t → lo ≤ w.heap.size → TrkLo lo t → rightFd t = 0 → Calls Try.prog 11 #[trkV t] w fun e w' => (∃ f, e = .returned (.tuple #[.pointer (some ⟨f, 0, none⟩), .int .i64 0]) ∧ F.P lo w'.heap.size w' f t) ∧ Below w.heap.size w w'
/-- what package ray tells -/
structure RayC (F : FieldT) : Prop where
  point : ∀ (a : Ry) (s : Int) (b k : Nat) (o : Bool) (w : World), a.ins → In64 s → MAt w b k o → Calls Try.prog 6 #[.pointer (some ⟨b, k, none⟩), a.o, a.d, .int .i64 s] w fun e w' => e = .returned (.agg #[.int .i64 (pntF a.ox a.dx s), .int .i64 (pntF a.oy a.dy s), .int .i64 (pntF a.oz a.dz s)]) ∧ FxW w.heap.size w b k (o || pntO a s) w'
  cast : ∀ (t : Trk) (a : Ry) (b k : Nat) (o : Bool) (lo top f : Nat) (w : World), rightFd t = 0 → a.ins → F.P lo top w f t → (b < lo ∨ top ≤ b) → MAt w b k o → Calls Try.prog 14 #[.pointer (some ⟨b, k, none⟩), .pointer (some ⟨f, 0, none⟩), a.o, a.d, .int .i64 a.long] w fun e w' => e = .returned (.tuple #[tcV t a (casI t a), .bool (decide (0 ≤ casI t a))]) ∧ FxW w.heap.size w b k o w'
def rfewT (t : Trk) : Prop := fewT t ∧ t.G.n ≤ 100 ∧ rightFd t = 0
instance (t : Trk) : Decidable (rfewT t) := by unfold rfewT; exact inferInstance
theorem rfew_any (t : Trk) (B : Nat) (w : World) (hB : B ≤ w.heap.size) (K : TrkM B w t) :
    Calls Try.prog 9 #[trkV t] w fun e w' => e = .returned (.bool (decide (rfewT t))) ∧ Below w.heap.size w w' := by
  have Q0 := Lib.hid (PT.new 45 K hB)
  have XF := Lib.hid (fun (W : World) (Q : PT w W B w.heap.size t) => gfew_any t B W Q.bz Q.t)
  have XR := Lib.hid (fun (W : World) (Q : PT w W B w.heap.size t) => rFRight_any t B W Q.bz Q.t)
  obtain ⟨q, hq⟩ : ∃ q, decide (rfewT t) = q := ⟨_, rfl⟩
  rw [hq]
  have HQ := Lib.hid hq
  clear K hB hq
  by_cases h1 : fewT t
  rotate_left
  · have E := Lib.hid (show false = q by rw [← HQ.out]; symm; exact decide_eq_false (fun h => h1 h.1))
    rw [decide_eq_false h1] at XF
    clear XR HQ h1
    go_enter Try.func9, Try.ntmps9
    go_wp2_with fail
    refine calls_gen (S := fun W => PT w W B w.heap.size t) Q0.out (fun W1 hS => ?_)
    have Q1 := Lib.hid hS
    clear hS Q0
    refine (XF.out _ Q1.out).mono ?_
    rintro e w2 ⟨rfl, h⟩
    have Q2 := Lib.hid (Q1.out.step h)
    clear h Q1 XF
    go_wp2
    go_ret
    exact ⟨by rw [← E.out]; rfl, Q2.out.l⟩
  rw [decide_eq_true h1] at XF
  by_cases h2 : t.G.n ≤ 100
  rotate_left
  · have E := Lib.hid (show false = q by rw [← HQ.out]; symm; exact decide_eq_false (fun h => h2 h.2.1))
    have g2 : ¬ (t.G.n : Int) ≤ 100 := by omega
    clear XR HQ h1
    go_enter Try.func9, Try.ntmps9
    go_wp2_with fail
    refine calls_gen (S := fun W => PT w W B w.heap.size t) Q0.out (fun W1 hS => ?_)
    have Q1 := Lib.hid hS
    clear hS Q0
    refine (XF.out _ Q1.out).mono ?_
    rintro e w2 ⟨rfl, h⟩
    have Q2 := Lib.hid (Q1.out.step h)
    clear h Q1 XF
    have c7 := Q2.out.c.c 7 _ rfl
    go_wp2
    go_ret
    exact ⟨by rw [← E.out]; rfl, Q2.out.l⟩
  have g2 : (t.G.n : Int) ≤ 100 := by omega
  have E := Lib.hid (show decide (rightFd t = 0) = q by rw [← HQ.out, decide_eq_decide]; exact ⟨fun h => ⟨h1, h2, h⟩, fun h => h.2.2⟩)
  clear HQ h1 h2
  generalize rightFd t = er at *
  go_enter Try.func9, Try.ntmps9
  go_wp2_with fail
  refine calls_gen (S := fun W => PT w W B w.heap.size t) Q0.out (fun W1 hS => ?_)
  have Q1 := Lib.hid hS
  clear hS Q0
  refine (XF.out _ Q1.out).mono ?_
  rintro e w2 ⟨rfl, h⟩
  have Q2 := Lib.hid (Q1.out.step h)
  clear h Q1 XF
  obtain ⟨q0, q1, q2, q3, q4, q5, q6, q7, q8, q9, q10, q11, q12, q13, q14, q15⟩ := Q2.out.all
  go_wp2_with fail
  refine (XR.out _ Q2.out).mono ?_
  rintro e w3 ⟨rfl, h⟩
  have Q3 := Lib.hid (Q2.out.step h)
  clear h Q2 XR q0 q1 q2 q3 q4 q5 q6 q7 q8 q9 q10 q11 q12 q13 q14 q15
  by_cases k : er = 0
  · have E2 := Lib.hid (show true = q by rw [← E.out]; exact (decide_eq_true k).symm)
    clear E
    go_wp2
    go_ret
    exact ⟨by rw [← E2.out]; rfl, Q3.out.l⟩
  · have E2 := Lib.hid (show false = q by rw [← E.out]; exact (decide_eq_false k).symm)
    have kb : (er == 0) = false := beq_false_of_ne k
    clear E
    go_wp2
    go_ret
    exact ⟨by rw [← E2.out]; rfl, Q3.out.l⟩
/-- the example -/
def flev (n : Nat) : Trk := ⟨0, 34359738368, 1, 1, 0, 0, ⟨some ⟨n, 0, none⟩, 4, 4, fun _ => 0⟩, ⟨some ⟨n + 1, 0, none⟩, 1, 1, fun _ => 0⟩, some ⟨n + 1 + 1, 0, none⟩, 1, 1, fun _ => 4294967296, fun _ => 0, fun _ => false, none, 0, 0, none, 0, 0, none, 0, 0, 0, 0, 0, 0⟩
theorem flev_right (n : Nat) : rightFd (flev n) = 0 := by
  have h : rightFd (flev 0) = 0 := by decide +kernel
  exact h
theorem flev_lo {n lo : Nat} (h : lo ≤ n) : TrkLo lo (flev n) := by
  intro p hp
  rcases hp with e | e | e | e | e | e
  · cases e; exact h
  · cases e; show lo ≤ n + 1; omega
  · cases e; show lo ≤ n + 1 + 1; omega
  · cases e
  · cases e
  · cases e
theorem flev_m {W : World} {n : Nat} (h : BW W n [.int .i64 0, .int .i64 0, .int .i64 0, .int .i64 0]) (g : BW W (n + 1) [.int .i64 0]) (k : BW W (n + 1 + 1) [.int .i64 4294967296, .int .i64 0, .bool false]) : TrkM W.heap.size W (flev n) := by
  refine ⟨⟨by unfold maxLen flev; simp, Nat.le_refl _, fun i hi => ?_, fun _ => ⟨n, 0, rfl, h.lt, fun i hi => ?_⟩⟩, ⟨by unfold maxLen flev; simp, Nat.le_refl _, fun i hi => ?_, fun _ => ⟨n + 1, 0, rfl, g.lt, fun i hi => ?_⟩⟩, by unfold maxLen flev; simp, Nat.le_refl _, fun i hi => ?_, fun _ => ⟨n + 1 + 1, 0, rfl, k.lt, fun i hi => ?_⟩, by unfold In64 flev; simp⟩
  · show (Lit.int .i64 0).wf = true
    decide
  · have hi : i < 4 := hi
    match i, hi with
    | 0, _ => exact h.c 0 _ rfl
    | 1, _ => exact h.c 1 _ rfl
    | 2, _ => exact h.c 2 _ rfl
    | 3, _ => exact h.c 3 _ rfl
  · show (Lit.int .i64 0).wf = true
    decide
  · have hi : i < 1 := hi
    obtain rfl : i = 0 := by omega
    exact g.c 0 _ rfl
  · unfold In64 flev; simp
  · have hi : i < 1 := hi
    obtain rfl : i = 0 := by omega
    exact ⟨k.c 0 _ rfl, k.c 1 _ rfl, k.c 2 _ rfl⟩
set_option maxRecDepth 100000 in
theorem level_any (w : World) :
    Calls Try.prog 22 #[] w fun e w' => (∃ n, w.heap.size < n ∧ e = .returned (trkV (flev n)) ∧ TrkM w'.heap.size w' (flev n)) ∧ Below w.heap.size w w' := by
  go_enter Try.func22, Try.ntmps22
  go_wp2
  exact bodyPost_ret (v := .agg #[.int .i64 0, .int .i64 34359738368, .int .i64 1, .int .i64 1, .int .i64 0, .int .i64 0, .slice (some ⟨w.heap.size + 1, 0, none⟩) 4 4, .slice (some ⟨w.heap.size + 1 + 1, 0, none⟩) 1 1, .slice (some ⟨w.heap.size + 1 + 1 + 1, 0, none⟩) 1 1, .slice none 0 0, .slice none 0 0, .slice none 0 0, .int .i64 0, .int .i64 0, .int .u32 0, .int .i64 0]) (by simp [results, Try.results22, go_sem]) rfl
    ⟨⟨w.heap.size + 1, by omega, rfl, flev_m (((BW.new _ _ [_, _, _, _] _ (by simp)).alloc _).alloc _) ((BW.new _ _ [_] _ (by simp)).alloc _) (BW.new _ _ [_, _, _] _ (by simp))⟩, by repeat (first | exact Below.refl _ _ | assumption | refine Below.setCell ?_ (by first | omega | (simp; done) | (simp; omega)) _ | refine Below.alloc ?_ (by first | omega | (simp; done) | (simp; omega)) _ | refine below_drewN ?_ _ | refine Below.drew ?_ | refine Below.trans ?_ (Below.mono (by assumption) (by first | omega | (simp; done) | (simp; omega))))⟩
theorem up_lev : upX 0 0 = 0 ∧ upY 0 0 = 0 ∧ upZ 0 0 = 4294967296 := by
  have e1 : subF 0 0 * subF 0 0 + subF 0 0 * subF 0 0 + 4294967296 * 4294967296 = 18446744073709551616 := by decide +kernel
  obtain ⟨r0, r1, r2⟩ := root_isq (S := 18446744073709551616) (by omega) (by omega)
  have l := (len_fit (S := 18446744073709551616) (by omega)).2.1
  have i : isq (18446744073709551616 : Int).toNat 36 0 = 4294967296 := by decide +kernel
  have N : upN 0 0 = 4294967296 := by unfold upN; rw [e1, l, r0, i]; rfl
  unfold upX upY upZ
  rw [N]
  decide +kernel
theorem lev_cast (n : Nat) : casI (flev n) ⟨4294967296, 8589934592, 12884901888, 0, 0, -4294967296, 21474836480⟩ = 1 ∧ dsI (flev n) ⟨4294967296, 8589934592, 12884901888, 0, 0, -4294967296, 21474836480⟩ 1 = 12884901888 ∧ tcA (flev n) 1 = 0 ∧ tcB (flev n) 1 = 0 ∧ casI (flev n) ⟨4294967296, 0, 12884901888, 0, 0, -4294967296, 8589934592⟩ = -1 := by
  have h : casI (flev 0) ⟨4294967296, 8589934592, 12884901888, 0, 0, -4294967296, 21474836480⟩ = 1 ∧ dsI (flev 0) ⟨4294967296, 8589934592, 12884901888, 0, 0, -4294967296, 21474836480⟩ 1 = 12884901888 ∧ tcA (flev 0) 1 = 0 ∧ tcB (flev 0) 1 = 0 ∧ casI (flev 0) ⟨4294967296, 0, 12884901888, 0, 0, -4294967296, 8589934592⟩ = -1 := by decide +kernel
  exact h
theorem lev_tc (n : Nat) : tcV (flev n) ⟨4294967296, 8589934592, 12884901888, 0, 0, -4294967296, 21474836480⟩ 1 = .agg #[.int .i64 12884901888, .int .i64 0, .int .i64 0, .int .i64 4294967296, .int .i64 0] := by
  obtain ⟨-, h2, h3, h4, -⟩ := lev_cast n
  unfold tcV tcS tcX tcY tcZ tcK
  rw [if_neg (by omega), if_neg (by omega), if_neg (by omega), if_neg (by omega), if_neg (by omega), h3, h4, up_lev.1, up_lev.2.1, up_lev.2.2, show (1 : Int).toNat = 1 from rfl, h2]
  rfl
theorem lev_no (n : Nat) (a : Ry) : tcV (flev n) a (-1) = .agg #[.int .i64 0, .int .i64 0, .int .i64 0, .int .i64 0, .int .i64 0] := by
  unfold tcV tcS tcX tcY tcZ tcK
  rw [if_pos (by omega), if_pos (by omega), if_pos (by omega), if_pos (by omega), if_pos (by omega)]
set_option maxRecDepth 100000 in
set_option maxHeartbeats 2000000 in
theorem rawake_any (F : FieldT) (C : FieldY F) (R : RayC F) (w : World) : Calls Try.prog 8 #[] w fun e w' => e = .returned (.bool true) ∧ Below w.heap.size w w' := by
  have HC := Lib.hid C
  have HR := Lib.hid R
  clear C R
  go_enter Try.func8, Try.ntmps8
  go_wp2_with fail
  refine calls_gen (S := fun W => MAt W w.heap.size 0 false ∧ Below w.heap.size w W) ⟨MAt.new w _ _, by repeat (first | exact Below.refl _ _ | assumption | refine Below.setCell ?_ (by first | omega | (simp; done) | (simp; omega)) _ | refine Below.alloc ?_ (by first | omega | (simp; done) | (simp; omega)) _ | refine below_drewN ?_ _ | refine Below.drew ?_ | refine Below.trans ?_ (Below.mono (by assumption) (by first | omega | (simp; done) | (simp; omega))))⟩ (fun W0 hS => ?_)
  have A0 := Lib.hid hS.1
  have L0 := Lib.hid hS.2
  clear hS
  refine (level_any _).mono ?_
  rintro e w1 ⟨⟨n, hn, rfl, hk⟩, hb⟩
  have A1 := Lib.hid (A0.out.below hb A0.out.lt)
  have L1 := Lib.hid (L0.out.trans (hb.mono L0.out.size))
  have hlo : w.heap.size + 1 ≤ n := by have := A0.out.lt; omega
  have HK := Lib.hid hk
  have hm1 := A1.out.lt
  clear hb hk A0 L0
  go_wp2_with fail
  refine (HC.out.yes (flev n) (w.heap.size + 1) w1.heap.size w1 (Nat.le_refl _) HK.out (by omega) (flev_lo hlo) (flev_right n)).mono ?_
  rintro e w2 ⟨⟨f, rfl, hp⟩, hb⟩
  have G2 := Lib.hid (show GS F w w2 (w.heap.size + 1) w2.heap.size f w.heap.size false (flev n) from ⟨hp, A1.out.below hb A1.out.lt, L1.out.trans (hb.mono L1.out.size), Or.inl (by omega), Nat.le_refl _⟩)
  obtain ⟨top, htop⟩ : ∃ top, w2.heap.size = top := ⟨_, rfl⟩
  rw [htop] at G2
  clear hp hb htop A1 L1 HK
  have X1 := Lib.hid (fun (W : World) (G : GS F w W (w.heap.size + 1) top f w.heap.size false (flev n)) => by
    have := HR.out.cast (flev n) ⟨4294967296, 8589934592, 12884901888, 0, 0, -4294967296, 21474836480⟩ w.heap.size 0 false _ _ f W (flev_right n) ⟨⟨by decide, by decide, by decide, by decide, by decide, by decide⟩, ⟨by decide, by decide, by decide, by decide, by decide, by decide⟩, ⟨by decide, by decide⟩⟩ G.p G.e G.a
    rw [(lev_cast n).1, lev_tc n, show decide ((0 : Int) ≤ 1) = true from rfl] at this
    exact this)
  have X2 := Lib.hid (fun (W : World) (G : GS F w W (w.heap.size + 1) top f w.heap.size false (flev n)) => by
    have := HR.out.cast (flev n) ⟨4294967296, 0, 12884901888, 0, 0, -4294967296, 8589934592⟩ w.heap.size 0 false _ _ f W (flev_right n) ⟨⟨by decide, by decide, by decide, by decide, by decide, by decide⟩, ⟨by decide, by decide, by decide, by decide, by decide, by decide⟩, ⟨by decide, by decide⟩⟩ G.p G.e G.a
    rw [(lev_cast n).2.2.2.2, lev_no n, show decide ((0 : Int) ≤ -1) = false from rfl] at this
    exact this)
  clear HC HR hlo hm1
  go_wp2_with fail
  refine (X1.out _ G2.out).mono ?_
  rintro e w3 ⟨rfl, h⟩
  have G3 := Lib.hid (G2.out.fx h)
  clear h X1 G2
  go_wp2_with fail
  refine calls_gen (S := fun W => GS F w W (w.heap.size + 1) top f w.heap.size false (flev n) ∧ BW W w3.heap.size [.int .i64 12884901888, .int .i64 0, .int .i64 0, .int .i64 4294967296, .int .i64 0]) ⟨G3.out.step ((Below.refl _ _).alloc (Nat.le_refl _) _), BW.new w3 _ [_, _, _, _, _] _ rfl⟩ (fun W5 hS => ?_)
  have G5 := Lib.hid hS.1
  have N5 := Lib.hid hS.2
  have hne : w.heap.size ≠ w3.heap.size := by have := G3.out.a.lt; omega
  obtain ⟨nb, hnb⟩ : ∃ nb, w3.heap.size = nb := ⟨_, rfl⟩
  rw [hnb] at N5 hne ⊢
  clear hS G3 hnb
  refine (X2.out _ G5.out).mono ?_
  rintro e w6 ⟨rfl, h⟩
  have G6 := Lib.hid (G5.out.fx h)
  have N6 := Lib.hid (N5.out.fx h hne)
  clear h X2 G5 N5
  have mc := G6.out.a.c
  have ml := G6.out.a.lt
  have n0 := N6.out.c 0 _ rfl
  have n1 := N6.out.c 1 _ rfl
  have n2 := N6.out.c 2 _ rfl
  have n3 := N6.out.c 3 _ rfl
  have nl := N6.out.lt
  go_wp2
  go_ret
  exact ⟨rfl, G6.out.bl.alloc G6.out.bl.size _⟩
end Go.Proofs.Ytinahmhiopgcnaa

/- What package wire tells: the program's own In: Mark, Raw, End, NewIn; both contracts whole. -/
import Derived.Test.YtcljaffdochdiaaYz
namespace Go.Proofs.Ytcljaffdochdiaa
open Go.RowKit
set_option linter.unusedVariables false
set_option linter.unusedSimpArgs false

variable {base top : Nat} {nb : Nat} {a : Option Addr} {c k : Nat} {l : List Int} {s : IS}
theorem BL.bytesIn {W : World} {p : Option Addr} {n : Nat} {xs : List Int} (h : BL W p n xs) : Lib.BytesIn W p n xs := fun h0 => by
  obtain ⟨b, o, e, _, hc⟩ := h.c h0
  have hn := h.hn
  refine ⟨b, o, e, fun i hi => ?_⟩
  rw [hc i xs[i] (List.getElem?_eq_getElem (by omega)), List.getD_eq_getElem?_getD, List.getElem?_eq_getElem (by omega)]
  rfl
theorem bytes_eq {x y : List Int} (hx : ∀ u ∈ x, 0 ≤ u ∧ u ≤ 255) (hy : ∀ u ∈ y, 0 ≤ u ∧ u ≤ 255) : (Lib.bytesOf x == Lib.bytesOf y) = decide (x = y) := by
  rw [← Lib.strOfNums_toList, ← Lib.strOfNums_toList]
  exact txt_eq hx hy
theorem mk_take (t : ByteArray) (l : List Int) (s : IS) : (decide (takeL l 4 s = markB t 4) = true → mkS t l s = wordS l.length 4 s) ∧ (decide (takeL l 4 s = markB t 4) = false → wordOk l.length 4 s → mkS t l s = failS 21 s.pos (wordS l.length 4 s)) ∧ (¬ wordOk l.length 4 s → mkS t l s = wordS l.length 4 s) := by
  unfold mkS takeL
  by_cases ok : wordOk l.length 4 s
  · rw [if_pos ok, if_pos ok]
    refine ⟨fun h => by rw [if_pos (of_decide_eq_true h)], fun h _ => by rw [if_neg (of_decide_eq_false h)], fun h => absurd ok h⟩
  · rw [if_neg ok, if_neg ok]
    exact ⟨fun _ => rfl, fun _ h => absurd h ok, fun _ => rfl⟩
set_option maxHeartbeats 2000000 in
theorem iMark_any (t : ByteArray) (w : World) (h : IQ base top w nb a c k l s) : Calls Try.prog 22 #[.pointer (some ⟨nb, 0, none⟩), .string t] w fun en w' => en = .returned (.tuple #[]) ∧ inT.P base top w' nb l (mkS t l s) ∧ Mid base top w w' := by
  have HM := Lib.hid (fun (w' : World) (g : w.grownBy w' (some nb)) => h.mid g)
  have M := Lib.hid (fun W => oMk_any t W)
  have MT := Lib.hid (mk_take t l s)
  have TI := Lib.hid (takeL_in (m := 4) (s := s) h.bl.u)
  have H := Lib.hid h
  unfold markV at M
  clear h
  go_enter Try.func22, Try.ntmps22
  go_wp2_with fail
  refine (M.out _).mono ?_
  rintro e w1 ⟨rfl, hb⟩
  have HB := Lib.hid hb
  have z := hb.size
  clear hb M
  go_wp2_with fail
  refine wpg (S := fun W => IQ base top W nb a c k l s ∧ BL W (some ⟨w1.heap.size, 0, none⟩) 4 (markB t 4) ∧ w.grownBy W (some nb)) ⟨H.out.below (HB.out.trans (((Below.refl _ w1).alloc (Nat.le_refl _) _).mono z)), bl_mark t (by simp) (by go_simp) (by go_simp) (by go_simp) (by go_simp), grown_below (HB.out.trans (((Below.refl _ w1).alloc (Nat.le_refl _) _).mono z)) _⟩ (fun W2 hS => ?_)
  have H2 := Lib.hid hS
  obtain ⟨g, hg⟩ : ∃ g, w1.heap.size = g := ⟨_, rfl⟩
  have GN := Lib.hid (show g ≠ nb by have := H.out.nt; have := H.out.tt; omega)
  rw [hg] at H2 ⊢
  clear hS H HB hg z
  refine wp_region_held_drew (S := fun W => True) (by kernel_rfl) trivial (fun hHeld => ?_)
  refine wpAnyH_takeD 0 7 (v := ?_) (by kernel_rfl) (by kernel_rfl) (by kernel_rfl) (by kernel_rfl) (by rfl) (fun _ _ _ h => h) ?_ hHeld ?_
  rotate_left 1
  (intro o ho W hSw; simp only [List.getElem?_toArray, List.getElem?_cons_succ, List.getElem?_cons_zero, Option.some.injEq] at ho; subst ho; (try dsimp only at hSw); go_simp; try with_reducible rfl)
  (try simp only [Act.put, List.setIfInBounds_toArray, List.set_cons_zero, List.set_cons_succ])
  refine wpAnyH_takeD 2 9 (v := ?_) (by kernel_rfl) (by kernel_rfl) (by kernel_rfl) (by kernel_rfl) (by rfl) (fun _ _ _ h => h) ?_ hHeld ?_
  rotate_left 1
  (intro o ho W hSw; simp only [List.getElem?_toArray, List.getElem?_cons_succ, List.getElem?_cons_zero, Option.some.injEq] at ho; subst ho; (try dsimp only at hSw); go_simp; try with_reducible rfl)
  (try simp only [Act.put, List.setIfInBounds_toArray, List.set_cons_zero, List.set_cons_succ])
  refine wpAnyH_onlyD 1 (by kernel_rfl) (fun o ho K hK => ?_) (by kernel_rfl)
  simp only [List.getElem?_toArray, List.getElem?_cons_succ, List.getElem?_cons_zero, Option.some.injEq] at ho
  subst ho
  go_simp
  refine (iWord_any 4 _ (by omega) (H2.out.1.below ((Below.refl _ _).drew))).mono ?_
  rintro e w2 ⟨k1, hk1, ⟨a1, c1, rfl, h1, h2, h3, h4⟩, h5, h6⟩
  have H3 := Lib.hid (And.intro hk1 (And.intro h5 (H2.out.2.2.trans ((grown_below ((Below.refl _ _).drew) _).trans h6))))
  have EQ := Lib.hid (Try.bytes_Equal_all a1 (some ⟨g, 0, none⟩) (takeL l 4 s).length c1 4 4 (takeL l 4 s) (markB t 4) w2 rfl (markB_length t 4) h1.bytesIn ((H2.out.2.1.below ((Below.refl _ _).drew)).grown h6 (fun _ p e => by cases e; exact GN.out)).bytesIn)
  rw [bytes_eq TI.out (markB_in t 4)] at EQ
  clear hk1 h1 h2 h3 h4 h5 h6 H2 GN TI
  go_wp2_with fail
  refine hK.out _ _ (trivial) ?_
  clear hK K hHeld
  intro hHeld
  refine wpAnyH_onlyD 3 (by kernel_rfl) (fun o ho K hK => ?_) (by kernel_rfl)
  simp only [List.getElem?_toArray, List.getElem?_cons_succ, List.getElem?_cons_zero, Option.some.injEq] at ho
  subst ho
  go_simp
  refine EQ.out.mono ?_
  rintro e w3 ⟨rfl, rfl⟩
  clear EQ
  go_wp2_with fail
  refine hK.out _ _ (trivial) ?_
  clear hK K hHeld
  intro hHeld
  refine wpAnyH_takeD 4 11 (v := ?_) (by kernel_rfl) (by kernel_rfl) (by kernel_rfl) (by kernel_rfl) (by rfl) (fun _ _ _ h => h) ?_ hHeld ?_
  rotate_left 1
  (intro o ho W hSw; simp only [List.getElem?_toArray, List.getElem?_cons_succ, List.getElem?_cons_zero, Option.some.injEq] at ho; subst ho; (try dsimp only at hSw); go_simp; try with_reducible rfl)
  (try simp only [Act.put, List.setIfInBounds_toArray, List.set_cons_zero, List.set_cons_succ])
  refine wpAnyH_done (by kernel_rfl) ?_ _
  clear hHeld
  obtain ⟨bq, hbq⟩ : ∃ bq, decide (takeL l 4 s = markB t 4) = bq := ⟨_, rfl⟩
  rw [hbq] at MT ⊢
  clear hbq
  cases bq with
  | true =>
    go_wp2
    go_end0
    exact ⟨rfl, ⟨a, c, k1, by rw [MT.out.1 (by first | trivial | rfl)]; exact H3.out.2.1⟩, HM.out _ H3.out.2.2⟩
  | false =>
    go_wp2_with fail
    refine (iRefuse_any 21 (by omega) _ H3.out.2.1).mono ?_
    rintro en w4 ⟨rfl, h7, h8⟩
    have R := Lib.hid (show inT.P base top w4 nb l (mkS t l s) ∧ Mid base top w w4 from by
      refine ⟨⟨a, c, k1, ?_⟩, HM.out _ (H3.out.2.2.trans h8)⟩
      by_cases ok : wordOk l.length 4 s
      · rw [MT.out.2.1 (by first | trivial | rfl) ok]
        have := H3.out.1 ok
        rw [this] at h7 ⊢
        exact h7
      · rw [MT.out.2.2 ok]
        rw [failS_no (word_bad ok)] at h7
        exact h7)
    clear h7 h8 H3 HM MT
    go_wp2
    go_end0
    exact ⟨rfl, R.out⟩
theorem rawV_take {m : Nat} (hm : m ≤ 16777216) (l : List Int) (s : IS) : rawV m l s = takeL l m s ∧ rawS m l s = wordS l.length m s := by
  unfold rawV rawS takeL
  rw [show ((m : Nat) : Int).toNat = m by omega, if_pos (show (0 : Int) ≤ m ∧ (m : Int) ≤ 16777216 by omega)]
  refine ⟨?_, rfl⟩
  by_cases ok : wordOk l.length m s
  · rw [if_pos ok, if_pos ⟨by omega, by rw [show ((m : Nat) : Int).toNat = m by omega]; exact ok⟩]
  · rw [if_neg ok, if_neg (fun h => ok (by have := h.2; rw [show ((m : Nat) : Int).toNat = m by omega] at this; exact this))]
set_option maxHeartbeats 1000000 in
theorem iRaw_any (m : Nat) (hm : m ≤ 16777216) (w : World) (h : IQ base top w nb a c k l s) : Calls Try.prog 23 #[.pointer (some ⟨nb, 0, none⟩), .int .i64 m] w fun en w' => (∃ v, en = .returned v ∧ OB w.heap.size w' v (byC (rawV m l s))) ∧ inT.P base top w' nb l (rawS m l s) ∧ Mid base top w w' := by
  rw [(rawV_take hm l s).1, (rawV_take hm l s).2]
  have HM := Lib.hid (fun (w' : World) (g : w.grownBy w' (some nb)) => h.mid g)
  have X := Lib.hid (iTake_any m w (by omega) h)
  have LN := takeL_len l m s
  have h0 : ¬ (m : Int) < 0 := by omega
  have h1 : ¬ 16777216 < (m : Int) := by omega
  clear h
  go_enter Try.func23, Try.ntmps23
  go_wp2_with fail
  refine X.out.mono ?_
  rintro en w1 ⟨⟨a1, c1, rfl, h1, h2, h3, h4⟩, h5, h6⟩
  have CL := Lib.hid (clone_any a1 _ c1 _ w1 h1 (by omega) (fun _ => by cases a1 <;> simp))
  have H5 := Lib.hid (And.intro h5 h6)
  clear h1 h2 h3 h4 h5 h6 X LN
  go_wp2_with fail
  refine CL.out.mono ?_
  rintro en w2 ⟨⟨b, rfl, ho⟩, hb⟩
  have R := Lib.hid (show OB w.heap.size w2 b (byC (takeL l m s)) ∧ inT.P base top w2 nb l (wordS l.length m s) ∧ Mid base top w w2 from
    ⟨ho.mono H5.out.2.size, ⟨a, c, k, (H5.out.1.below hb).lastA (wordS_take _ _ _).1 (wordS_take _ _ _).2.1 (wordS_take _ _ _).2.2⟩, HM.out _ (H5.out.2.trans (grown_below hb _))⟩)
  clear ho hb CL H5 HM
  go_wp2
  go_ret
  exact ⟨⟨_, rfl, R.out.1⟩, R.out.2⟩
set_option maxHeartbeats 1000000 in
theorem iEnd_any (w : World) (h : IQ base top w nb a c k l s) : Calls Try.prog 25 #[.pointer (some ⟨nb, 0, none⟩)] w fun en w' => en = .returned (.tuple #[.int .i64 (endS l.length s).err, .int .i64 (endS l.length s).place]) ∧ inT.P base top w' nb l (endS l.length s) ∧ Mid base top w w' := by
  have HM := Lib.hid (fun (w' : World) (g : w.grownBy w' (some nb)) => h.mid g)
  have c0 := h.c0
  have c1 := h.c1
  have H := Lib.hid h
  clear h
  by_cases q : s.pos < l.length
  · have E := Lib.hid (show endS l.length s = failS 23 s.pos s by
      unfold endS
      by_cases z : s.err = 0
      · rw [if_pos ⟨z, q⟩]
      · rw [if_neg (fun h => z h.1), failS_no z])
    rw [E.out]
    obtain ⟨s1, hs1⟩ : ∃ s1, failS 23 s.pos s = s1 := ⟨_, rfl⟩
    have F := Lib.hid (fun (W : World) (h : IQ base top W nb a c k l s) => iFail_any 23 s.pos W h)
    rw [hs1] at F ⊢
    clear hs1 E
    have q' : (s.pos : Int) < (l.length : Int) := by omega
    go_enter Try.func25, Try.ntmps25
    go_wp2_with fail
    go_quiet (fail)
    go_wp2_with fail
    refine callsg (S := fun W => IQ base top W nb a c k l s ∧ w.grownBy W (some nb)) ⟨H.out.below (bel_drewN _ _), grown_below (bel_drewN _ _) _⟩ (fun W0 hS => ?_)
    have G0 := Lib.hid hS.2
    refine (F.out W0 hS.1).mono ?_
    rintro e w2 ⟨rfl, h2, g2⟩
    have d3 := h2.c3
    have d4 := h2.c4
    have H2 := Lib.hid h2
    have G2 := Lib.hid (G0.out.trans g2)
    clear hS h2 g2 H G0 F c0 c1 q'
    go_wp2_with fail
    go_quiet (fail)
    go_wp2
    go_ret2
    exact ⟨rfl, ⟨a, c, k, H2.out.below (bel_drewN _ _)⟩, HM.out _ (G2.out.trans (grown_below (bel_drewN _ _) _))⟩
  · have E := Lib.hid (show endS l.length s = s by unfold endS; rw [if_neg (fun h => q h.2)])
    rw [E.out]
    have q' : ¬ (s.pos : Int) < (l.length : Int) := by omega
    clear q
    go_enter Try.func25, Try.ntmps25
    go_wp2_with fail
    go_quiet (fail)
    go_wp2_with fail
    refine wpg (S := fun W => IQ base top W nb a c k l s ∧ w.grownBy W (some nb)) ⟨H.out.below (bel_drewN _ _), grown_below (bel_drewN _ _) _⟩ (fun W1 hS => ?_)
    have d3 := hS.1.c3
    have d4 := hS.1.c4
    have H2 := Lib.hid hS.1
    have G2 := Lib.hid hS.2
    clear hS H c0 c1 q'
    go_quiet (fail)
    go_wp2
    go_ret2
    exact ⟨rfl, ⟨a, c, k, H2.out.below (bel_drewN _ _)⟩, HM.out _ (G2.out.trans (grown_below (bel_drewN _ _) _))⟩
theorem OB.bl3 {base : Nat} {W : World} {v : Value} {l : List Int} (h : OB base W v (byC l)) (hu : ∀ x ∈ l, 0 ≤ x ∧ x ≤ 255) : ∃ a c, v = .slice a l.length c ∧ BL W a l.length l ∧ (∀ p, a = some p → base ≤ p.block ∧ p.block < W.heap.size) ∧ l.length ≤ c ∧ c ≤ maxLen := by
  obtain ⟨a, c, e, hb, ha⟩ := h.bl hu
  refine ⟨a, c, e, hb, fun p hp => ⟨ha p hp, ?_⟩, ?_⟩
  · subst e; subst hp; exact (h.row_lt (g := p.block) rfl).2
  · rcases h with ⟨e2, e3⟩ | ⟨g, cap, e2, _, _, hl, hm, _⟩
    · have : l.length = 0 := by rw [← byC_length, e3]; rfl
      rw [e] at e2; injection e2 with _ _ e5; exact ⟨by omega, by unfold maxLen; omega⟩
    · rw [e] at e2; injection e2 with e2 e3 e4; subst e4; rw [byC_length] at hl; exact ⟨hl, hm⟩
set_option maxHeartbeats 1000000 in
theorem iNew_any (a : Option Addr) (n c : Nat) (l : List Int) (W : World) (hb : BL W a n l) (hn : n ≤ 100000) : Calls Try.prog 19 #[.slice a n c] W fun e W' => ∃ nb, e = .returned (.pointer (some ⟨nb, 0, none⟩)) ∧ inT.P W.heap.size W'.heap.size W' nb l ⟨0, 0, 0, 0⟩ ∧ Below W.heap.size W W' := by
  have CL := Lib.hid (clone_any a n c l W hb (by omega) (fun _ => by cases a <;> simp))
  have HL := Lib.hid (And.intro hb.hn hb.u)
  clear hb
  go_enter Try.func19, Try.ntmps19
  go_wp2_with fail
  refine CL.out.mono ?_
  rintro en w1 ⟨⟨b, rfl, ho⟩, hb⟩
  obtain ⟨a1, c1, rfl, h1, h2, h3, h4⟩ := ho.bl3 HL.out.2
  have sz := hb.size
  have R := Lib.hid (show inT.P W.heap.size (w1.heap.size + 1) (w1.alloc (.cells #[.slice a1 l.length c1, .int .i64 0, .int .i64 0, .int .i64 0, .int .i64 0] 57)) w1.heap.size l ⟨0, 0, 0, 0⟩ ∧ Below W.heap.size W (w1.alloc (.cells #[.slice a1 l.length c1, .int .i64 0, .int .i64 0, .int .i64 0, .int .i64 0] 57)) from
    ⟨⟨a1, c1, 0, sz, by omega, by simp, by go_simp, by go_simp, by go_simp, by go_simp, by go_simp, fun j => by go_simp, h1.below ((Below.refl _ _).alloc (Nat.le_refl _) _), fun p e => ⟨(h2 p e).1, by have := (h2 p e).2; omega, by have := (h2 p e).2; omega⟩, h3, h4, by rw [HL.out.1]; exact hn, Nat.zero_le _⟩, hb.trans (((Below.refl _ w1).alloc (Nat.le_refl _) _).mono sz)⟩)
  clear ho hb h1 h2 h3 h4 CL HL
  go_wp2
  go_ret
  exact ⟨_, rfl, by have := R.out.1; simpa using this, R.out.2⟩
theorem iNilGood (w : World) : Calls Try.prog 35 #[.pointer none] w fun e w' => e = .returned (.bool false) ∧ w = w' := by
  go_enter Try.func35, Try.ntmps35
  go_wp2
  go_ret
  exact ⟨rfl, rfl⟩
theorem iNilWord (m : Nat) (w : World) : Calls Try.prog 30 #[.pointer none, .int .i64 m] w fun e w' => e = .returned (.slice none 0 0) ∧ w = w' := by
  go_enter Try.func30, Try.ntmps30
  go_wp2_with fail
  refine (iNilGood w).mono ?_
  rintro en w1 ⟨rfl, rfl⟩
  go_wp2
  go_ret
  exact ⟨rfl, rfl⟩
theorem iNilNum (w : World) : Calls Try.prog 24 #[.pointer none] w fun e w' => e = .returned (.int .i64 0) ∧ Below w.heap.size w w' := by
  go_enter Try.func24, Try.ntmps24
  go_wp2_with fail
  refine (iNilWord 8 w).mono ?_
  rintro en w1 ⟨rfl, rfl⟩
  go_wp2_with fail
  refine (iWhole_any none 0 0 [] w (bl_none w) (by omega)).mono ?_
  rintro en w1 ⟨rfl, rfl⟩
  rw [show valB [] = 0 from rfl]
  go_wp2
  go_ret
  exact ⟨rfl, Below.refl _ _⟩
theorem iNilEnd (w : World) : Calls Try.prog 25 #[.pointer none] w fun e w' => e = .returned (.tuple #[.int .i64 1, .int .i64 0]) ∧ Below w.heap.size w w' := by
  go_enter Try.func25, Try.ntmps25
  go_wp2
  go_ret2
  exact ⟨rfl, Below.refl _ _⟩
theorem wireX : WireX outT inT where
  num := oNum_any
  bytes := fun base W nb v l h hl => oBytes_any base W nb v l h hl
  zero := oZero
  new := fun a n c l W hb _ _ hn => iNew_any a n c l W hb hn
  inum := fun base top W nb l s ⟨a, c, k, h⟩ => iNum_any W h
  iend := fun base top W nb l s ⟨a, c, k, h⟩ => iEnd_any W h
theorem wireO : WireO outT where
  num := oNum_any
  count := oCount_any
  flag := oFlag_any
  mark := oMark_any
  raw := fun base W nb v l h hb a n c new hbl hnc hlen _ => oRaw_any base W nb v l h hb a n c new hbl hnc hlen
  bytes := fun base W nb v l h hl => oBytes_any base W nb v l h hl
  zero := oZero
  nilNum := oNilNum
  nilBytes := oNilBytes
  awake := fun W => wawake_walk outT inT wireX W
theorem wireI : WireI inT where
  new := fun a n c l W hb _ _ hn => iNew_any a n c l W hb hn
  num := fun base top W nb l s ⟨a, c, k, h⟩ => iNum_any W h
  count := fun lo hi base top W nb l s hlo hhi ⟨a, c, k, h⟩ => iCount_any lo hi hlo hhi W h
  flag := fun base top W nb l s ⟨a, c, k, h⟩ => iFlag_any W h
  mark := fun t base top W nb l s ⟨a, c, k, h⟩ => iMark_any t W h
  raw := fun m base top W nb l s hm ⟨a, c, k, h⟩ => by
    obtain ⟨q, rfl⟩ : ∃ q : Nat, m = q := ⟨m.toNat, by omega⟩
    exact iRaw_any q (by omega) W h
  end_ := fun base top W nb l s ⟨a, c, k, h⟩ => iEnd_any W h
  nilNum := iNilNum
  nilEnd := iNilEnd
  awake := fun W => wawake_walk outT inT wireX W
end Go.Proofs.Ytcljaffdochdiaa

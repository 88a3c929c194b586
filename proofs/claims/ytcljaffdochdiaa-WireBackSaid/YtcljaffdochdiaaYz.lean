/- What package wire tells: the program's own In, whole; both contracts. -/
import Derived.Test.YtcljaffdochdiaaYy
import Derived.Test.YtcljaffdochdiaaBk
namespace Go.Proofs.Ytcljaffdochdiaa
open Go.RowKit
set_option linter.unusedVariables false
set_option linter.unusedSimpArgs false

theorem takeL_len (l : List Int) (m : Nat) (s : IS) : (takeL l m s).length ≤ m := by
  unfold takeL
  split
  · unfold wordL; rw [List.length_take]; omega
  · simp
theorem takeL_in {l : List Int} {m : Nat} {s : IS} (hu : ∀ x ∈ l, 0 ≤ x ∧ x ≤ 255) : ∀ x ∈ takeL l m s, 0 ≤ x ∧ x ≤ 255 := by
  unfold takeL
  split
  · exact wordL_in hu
  · intro x hx; simp at hx
theorem word_bad {N m : Nat} {s : IS} (h : ¬ wordOk N m s) : (wordS N m s).err ≠ 0 := by
  unfold wordS
  split
  · rename_i z
    split
    · rename_i q; exact absurd ⟨z, q⟩ h
    · unfold failS; rw [if_pos z]; show (20 : Int) ≠ 0; omega
  · assumption
theorem failS_no {e p : Int} {s : IS} (h : s.err ≠ 0) : failS e p s = s := by unfold failS; rw [if_neg h]
theorem numV_take (l : List Int) (s : IS) : numV l s = wrap64 (valB (takeL l 8 s)) := by
  unfold numV takeL
  split
  · rfl
  · show 0 = wrap64 0; unfold wrap64; rfl
variable {base top : Nat} {nb : Nat} {a : Option Addr} {c k : Nat} {l : List Int} {s : IS}
theorem iRefuse_any (e : Int) (he : e ≠ 0) (w : World) (h : IQ base top w nb a c k l s) : Calls Try.prog 31 #[.pointer (some ⟨nb, 0, none⟩), .int .i64 e] w fun en w' => en = .returned (.tuple #[]) ∧ IQ base top w' nb a c k l (failS e k s) ∧ w.grownBy w' (some nb) := by
  have c2 := h.c2
  have X := Lib.hid (iFail_any e k w h)
  have he0 : (e == 0) = false := by simp [he]
  clear h he
  go_enter Try.func31, Try.ntmps31
  go_wp2_with fail
  refine X.out.mono ?_
  rintro en w1 ⟨rfl, h1, g1⟩
  have K := Lib.hid (And.intro h1 g1)
  clear h1 g1 X c2
  go_wp2
  go_end0
  exact ⟨rfl, K.out.1, K.out.2⟩
set_option maxHeartbeats 1000000 in
theorem iNum_any (w : World) (h : IQ base top w nb a c k l s) : Calls Try.prog 24 #[.pointer (some ⟨nb, 0, none⟩)] w fun en w' => en = .returned (.int .i64 (numV l s)) ∧ inT.P base top w' nb l (wordS l.length 8 s) ∧ Mid base top w w' := by
  rw [numV_take]
  have HM := Lib.hid (fun (w' : World) (g : w.grownBy w' (some nb)) => h.mid g)
  go_enter Try.func24, Try.ntmps24
  have X := Lib.hid (iWord_any 8 w (by omega) h)
  have LN := takeL_len l 8 s
  clear h
  go_wp2_with fail
  refine X.out.mono ?_
  rintro en w1 ⟨k1, hk1, ⟨a1, c1, rfl, h1, h2, h3, h4⟩, h5, h6⟩
  have H5 := Lib.hid (And.intro hk1 (And.intro h5 h6))
  have WH := Lib.hid (iWhole_any a1 _ c1 _ w1 h1 (by omega))
  clear hk1 h1 h2 h3 h4 h5 h6 X LN
  go_wp2_with fail
  refine WH.out.mono ?_
  rintro en w2 ⟨rfl, rfl⟩
  clear WH
  go_wp2
  go_ret
  exact ⟨rfl, ⟨_, _, _, H5.out.2.1⟩, HM.out _ H5.out.2.2⟩
theorem flag_val (l : List Int) (s : IS) (hu : ∀ x ∈ l, 0 ≤ x ∧ x ≤ 255) : ∃ v : Int, valB (takeL l 1 s) = v ∧ 0 ≤ v ∧ v ≤ 255 ∧ flagV l s = decide (v = 1) ∧ (wordOk l.length 1 s → flagS l s = if 1 < v then failS 24 s.pos (wordS l.length 1 s) else wordS l.length 1 s) ∧ (¬ wordOk l.length 1 s → v = 0 ∧ flagS l s = wordS l.length 1 s) := by
  unfold takeL flagV flagS
  by_cases ok : wordOk l.length 1 s
  · rw [if_pos ok, if_pos ok, if_pos ok]
    have hl := wordL_length (l := l) rfl ok
    have hi := wordL_in (m := 1) (s := s) hu
    match hw : wordL l 1 s, hl with
    | [x], _ =>
      rw [hw] at hi
      have := hi x (by simp)
      refine ⟨x, by simp [valB], this.1, this.2, rfl, fun _ => rfl, fun h => absurd ok h⟩
  · rw [if_neg ok, if_neg ok, if_neg ok]
    exact ⟨0, rfl, by omega, by omega, rfl, fun h => absurd h ok, fun _ => ⟨rfl, rfl⟩⟩
set_option maxHeartbeats 1000000 in
theorem iFlag_any (w : World) (h : IQ base top w nb a c k l s) : Calls Try.prog 21 #[.pointer (some ⟨nb, 0, none⟩)] w fun en w' => en = .returned (.bool (flagV l s)) ∧ inT.P base top w' nb l (flagS l s) ∧ Mid base top w w' := by
  have HM := Lib.hid (fun (w' : World) (g : w.grownBy w' (some nb)) => h.mid g)
  obtain ⟨v, hv, v0, v1, hf, hok, hno⟩ := flag_val l s h.bl.u
  rw [hf]
  have O := Lib.hid (And.intro hok hno)
  clear hf hok hno
  by_cases q : 1 < v
  · have E : decide (v = 1) = false := by simp; omega
    rw [E]
    clear E
    go_enter Try.func21, Try.ntmps21
    have X := Lib.hid (iWord_any 1 w (by omega) h)
    have LN := takeL_len l 1 s
    clear h
    go_wp2_with fail
    refine X.out.mono ?_
    rintro en w1 ⟨k1, hk1, ⟨a1, c1, rfl, h1, h2, h3, h4⟩, h5, h6⟩
    have H5 := Lib.hid (And.intro hk1 (And.intro h5 h6))
    have WH := Lib.hid (iWhole_any a1 _ c1 _ w1 h1 (by omega))
    clear hk1 h1 h2 h3 h4 h5 h6 X LN
    rw [hv] at WH; clear hv
    go_wp2_with fail
    refine WH.out.mono ?_
    rintro en w2 ⟨rfl, rfl⟩
    clear WH
    have he : (v == 1) = false := by simp; omega
    go_wp2_with fail
    refine (iRefuse_any 24 (by omega) _ H5.out.2.1).mono ?_
    rintro en w3 ⟨rfl, h7, h8⟩
    have R := Lib.hid (show inT.P base top w3 nb l (flagS l s) ∧ Mid base top w w3 from by
      refine ⟨⟨a, c, k1, ?_⟩, HM.out _ (H5.out.2.2.trans h8)⟩
      by_cases ok : wordOk l.length 1 s
      · rw [O.out.1 ok, if_pos q]
        have := H5.out.1 ok
        rw [this] at h7 ⊢
        exact h7
      · rw [(O.out.2 ok).2]
        rw [failS_no (word_bad ok)] at h7
        exact h7)
    clear h7 h8 H5 HM O
    go_wp2
    go_ret
    exact ⟨rfl, R.out⟩
  · go_enter Try.func21, Try.ntmps21
    have X := Lib.hid (iWord_any 1 w (by omega) h)
    have LN := takeL_len l 1 s
    clear h
    go_wp2_with fail
    refine X.out.mono ?_
    rintro en w1 ⟨k1, hk1, ⟨a1, c1, rfl, h1, h2, h3, h4⟩, h5, h6⟩
    have H5 := Lib.hid (And.intro hk1 (And.intro h5 h6))
    have WH := Lib.hid (iWhole_any a1 _ c1 _ w1 h1 (by omega))
    clear hk1 h1 h2 h3 h4 h5 h6 X LN
    rw [hv] at WH; clear hv
    go_wp2_with fail
    refine WH.out.mono ?_
    rintro en w2 ⟨rfl, rfl⟩
    clear WH
    have R := Lib.hid (show inT.P base top w1 nb l (flagS l s) ∧ Mid base top w w1 from by
      refine ⟨⟨a, c, k1, ?_⟩, HM.out _ H5.out.2.2⟩
      by_cases ok : wordOk l.length 1 s
      · rw [O.out.1 ok, if_neg (by omega)]; exact H5.out.2.1
      · rw [(O.out.2 ok).2]; exact H5.out.2.1)
    have he : (v == 1) = decide (v = 1) := rfl
    clear H5 HM O
    go_wp2
    go_ret
    exact ⟨rfl, R.out⟩
theorem cnt_val (lo hi : Int) (l : List Int) (s : IS) (hu : ∀ x ∈ l, 0 ≤ x ∧ x ≤ 255) : ∃ v : Int, valB (takeL l 2 s) = v ∧ 0 ≤ v ∧ v ≤ 65535 ∧ cntV lo hi l s = (if v < lo ∨ hi < v then 0 else v) ∧ (wordOk l.length 2 s → cntS lo hi l s = if v < lo ∨ hi < v then failS 22 s.pos (wordS l.length 2 s) else wordS l.length 2 s) ∧ (¬ wordOk l.length 2 s → cntS lo hi l s = wordS l.length 2 s) := by
  unfold takeL cntV cntS
  by_cases ok : wordOk l.length 2 s
  · rw [if_pos ok, if_pos ok, if_pos ok]
    have hl := wordL_length (l := l) rfl ok
    have hi2 := wordL_in (m := 2) (s := s) hu
    have hc : cntOf l s = valB (wordL l 2 s) := by
      unfold cntOf
      match hw : wordL l 2 s, hl with
      | [x, y], _ => simp [valB]
    have hb := valB_in _ hi2
    rw [hl] at hb
    refine ⟨cntOf l s, hc.symm, by rw [hc]; exact hb.1, by rw [hc]; have := hb.2; omega, ?_, fun _ => ?_, fun h => absurd ok h⟩
    · by_cases q : cntBad lo hi l s
      · rw [if_pos q, if_pos (show cntOf l s < lo ∨ hi < cntOf l s from q)]
      · rw [if_neg q, if_neg (show ¬ (cntOf l s < lo ∨ hi < cntOf l s) from q)]
    · by_cases q : cntBad lo hi l s
      · rw [if_pos q, if_pos (show cntOf l s < lo ∨ hi < cntOf l s from q)]
      · rw [if_neg q, if_neg (show ¬ (cntOf l s < lo ∨ hi < cntOf l s) from q)]
  · rw [if_neg ok, if_neg ok, if_neg ok]
    refine ⟨0, rfl, by omega, by omega, by simp, fun h => absurd h ok, fun _ => rfl⟩
set_option maxHeartbeats 1000000 in
theorem iCount_any (lo hi : Int) (hlo : In64Y lo) (hhi : In64Y hi) (w : World) (h : IQ base top w nb a c k l s) : Calls Try.prog 20 #[.pointer (some ⟨nb, 0, none⟩), .int .i64 lo, .int .i64 hi] w fun en w' => en = .returned (.int .i64 (cntV lo hi l s)) ∧ inT.P base top w' nb l (cntS lo hi l s) ∧ Mid base top w w' := by
  have HM := Lib.hid (fun (w' : World) (g : w.grownBy w' (some nb)) => h.mid g)
  obtain ⟨v, hv, v0, v1, hf, hok, hno⟩ := cnt_val lo hi l s h.bl.u
  rw [hf]
  have O := Lib.hid (And.intro hok hno)
  clear hf hok hno
  unfold In64Y at hlo hhi
  by_cases q1 : v < lo
  · rw [if_pos (Or.inl q1)]
    go_enter Try.func20, Try.ntmps20
    have X := Lib.hid (iWord_any 2 w (by omega) h)
    have LN := takeL_len l 2 s
    clear h
    go_wp2_with fail
    refine X.out.mono ?_
    rintro en w1 ⟨k1, hk1, ⟨a1, c1, rfl, h1, h2, h3, h4⟩, h5, h6⟩
    have H5 := Lib.hid (And.intro hk1 (And.intro h5 h6))
    have WH := Lib.hid (iWhole_any a1 _ c1 _ w1 h1 (by omega))
    clear hk1 h1 h2 h3 h4 h5 h6 X LN
    rw [hv] at WH; clear hv
    go_wp2_with fail
    refine WH.out.mono ?_
    rintro en w2 ⟨rfl, rfl⟩
    clear WH
    go_wp2_with fail
    refine (iRefuse_any 22 (by omega) _ H5.out.2.1).mono ?_
    rintro en w3 ⟨rfl, h7, h8⟩
    have R := Lib.hid (show inT.P base top w3 nb l (cntS lo hi l s) ∧ Mid base top w w3 from by
      refine ⟨⟨a, c, k1, ?_⟩, HM.out _ (H5.out.2.2.trans h8)⟩
      by_cases ok : wordOk l.length 2 s
      · rw [O.out.1 ok, if_pos (by omega)]
        have := H5.out.1 ok
        rw [this] at h7 ⊢
        exact h7
      · rw [O.out.2 ok]
        rw [failS_no (word_bad ok)] at h7
        exact h7)
    clear h7 h8 H5 HM O
    go_wp2
    go_ret
    exact ⟨rfl, R.out⟩
  · by_cases q2 : hi < v
    · rw [if_pos (Or.inr q2)]
      go_enter Try.func20, Try.ntmps20
      have X := Lib.hid (iWord_any 2 w (by omega) h)
      have LN := takeL_len l 2 s
      clear h
      go_wp2_with fail
      refine X.out.mono ?_
      rintro en w1 ⟨k1, hk1, ⟨a1, c1, rfl, h1, h2, h3, h4⟩, h5, h6⟩
      have H5 := Lib.hid (And.intro hk1 (And.intro h5 h6))
      have WH := Lib.hid (iWhole_any a1 _ c1 _ w1 h1 (by omega))
      clear hk1 h1 h2 h3 h4 h5 h6 X LN
      rw [hv] at WH; clear hv
      go_wp2_with fail
      refine WH.out.mono ?_
      rintro en w2 ⟨rfl, rfl⟩
      clear WH
      go_wp2_with fail
      refine (iRefuse_any 22 (by omega) _ H5.out.2.1).mono ?_
      rintro en w3 ⟨rfl, h7, h8⟩
      have R := Lib.hid (show inT.P base top w3 nb l (cntS lo hi l s) ∧ Mid base top w w3 from by
        refine ⟨⟨a, c, k1, ?_⟩, HM.out _ (H5.out.2.2.trans h8)⟩
        by_cases ok : wordOk l.length 2 s
        · rw [O.out.1 ok, if_pos (by omega)]
          have := H5.out.1 ok
          rw [this] at h7 ⊢
          exact h7
        · rw [O.out.2 ok]
          rw [failS_no (word_bad ok)] at h7
          exact h7)
      clear h7 h8 H5 HM O
      go_wp2
      go_ret
      exact ⟨rfl, R.out⟩
    · rw [if_neg (by omega)]
      go_enter Try.func20, Try.ntmps20
      have X := Lib.hid (iWord_any 2 w (by omega) h)
      have LN := takeL_len l 2 s
      clear h
      go_wp2_with fail
      refine X.out.mono ?_
      rintro en w1 ⟨k1, hk1, ⟨a1, c1, rfl, h1, h2, h3, h4⟩, h5, h6⟩
      have H5 := Lib.hid (And.intro hk1 (And.intro h5 h6))
      have WH := Lib.hid (iWhole_any a1 _ c1 _ w1 h1 (by omega))
      clear hk1 h1 h2 h3 h4 h5 h6 X LN
      rw [hv] at WH; clear hv
      go_wp2_with fail
      refine WH.out.mono ?_
      rintro en w2 ⟨rfl, rfl⟩
      clear WH
      have R := Lib.hid (show inT.P base top w1 nb l (cntS lo hi l s) ∧ Mid base top w w1 from by
        refine ⟨⟨a, c, k1, ?_⟩, HM.out _ H5.out.2.2⟩
        by_cases ok : wordOk l.length 2 s
        · rw [O.out.1 ok, if_neg (by omega)]; exact H5.out.2.1
        · rw [O.out.2 ok]; exact H5.out.2.1)
      clear H5 HM O
      go_wp2
      go_ret
      exact ⟨rfl, R.out⟩
end Go.Proofs.Ytcljaffdochdiaa

/- What is put is read: numbers alone. -/
import Derived.Test.YtcljaffdochdiaaYl
namespace Go.Proofs.Ytcljaffdochdiaa
open Go.RowKit
set_option linter.unusedVariables false
set_option linter.unusedSimpArgs false

/-- a word's bytes -/
def enc (o : OpI) : List Int := if kindI o.k = 1 then u16B o.n else if kindI o.k = 2 then flagB o.b else if kindI o.k = 3 then markB o.s 4 else if kindI o.k = 4 then strB o.s else numB (tw64 o.n) 8
def encL (f : Nat → OpI) : Nat → List Int
  | 0 => []
  | j + 1 => encL f j ++ enc (f j)
theorem enc_in (o : OpI) : Byt (enc o) := by
  unfold enc
  split
  · exact u16B_in _
  · split
    · exact flagB_in _
    · split
      · exact markB_in _ _
      · split
        · exact strB_in _
        · exact numB_in 8 (tw64_in _).1 (tw64_in _).2
theorem enc_len (o : OpI) (h : o.s.size ≤ 50) : (enc o).length ≤ 50 := by
  unfold enc
  split
  · simp [u16B]
  · split
    · simp [flagB]
    · split
      · rw [markB_length]; omega
      · split
        · rw [strB_length]; exact h
        · rw [numB_length]; omega
theorem encL_in (f : Nat → OpI) : ∀ j, Byt (encL f j)
  | 0 => fun x hx => by cases hx
  | j + 1 => (encL_in f j).append (enc_in _)
theorem encL_len {f : Nat → OpI} {len : Nat} (h : ∀ i, i < len → (f i).s.size ≤ 50) : ∀ j, j ≤ len → (encL f j).length ≤ 50 * j
  | 0, _ => Nat.le_refl _
  | j + 1, hj => by
    have := encL_len h j (by omega)
    have := enc_len (f j) (h j (by omega))
    show (encL f j ++ enc (f j)).length ≤ _
    rw [List.length_append]; omega
theorem encL_split (f : Nat → OpI) (j : Nat) : ∀ d, ∃ r, encL f (j + 1 + d) = encL f j ++ (enc (f j) ++ r)
  | 0 => ⟨[], by rw [List.append_nil]; rfl⟩
  | d + 1 => by
    obtain ⟨r, h⟩ := encL_split f j d
    exact ⟨r ++ enc (f (j + 1 + d)), by
      show encL f (j + 1 + d) ++ enc (f (j + 1 + d)) = _
      rw [h]; simp [List.append_assoc]⟩
/-- where a reader stands behind j words -/
structure At (f : Nat → OpI) (j : Nat) (s : IS) : Prop where
  e : s.err = 0
  p : s.pos = (encL f j).length
  pl : s.place = 0
theorem at_word {f : Nat → OpI} {len j : Nat} {s : IS} (h : At f j s) (hj : j < len) : wordOk (encL f len).length (enc (f j)).length s ∧ wordL (encL f len) (enc (f j)).length s = enc (f j) ∧ At f (j + 1) (wordS (encL f len).length (enc (f j)).length s) := by
  obtain ⟨r, hr⟩ := encL_split f j (len - (j + 1))
  rw [show j + 1 + (len - (j + 1)) = len by omega] at hr
  have ok : wordOk (encL f len).length (enc (f j)).length s := ⟨h.e, by rw [h.p, hr]; simp only [List.length_append]; omega⟩
  refine ⟨ok, ?_, ?_⟩
  · unfold wordL
    rw [h.p, hr, List.drop_left, List.take_left]
  · rw [wordS_ok ok]
    exact ⟨h.e, by show s.pos + _ = (encL f j ++ enc (f j)).length; rw [List.length_append, h.p], h.pl⟩
theorem valB_num {u : Int} (h0 : 0 ≤ u) (h1 : u ≤ 18446744073709551615) : valB (numB u 8) = u := by
  show valB [u % 256, u / 256 % 256, u / 256 / 256 % 256, u / 256 / 256 / 256 % 256, u / 256 / 256 / 256 / 256 % 256, u / 256 / 256 / 256 / 256 / 256 % 256, u / 256 / 256 / 256 / 256 / 256 / 256 % 256, u / 256 / 256 / 256 / 256 / 256 / 256 / 256 % 256] = u
  simp only [valB]
  omega
theorem at_num {f : Nat → OpI} {len j : Nat} {s : IS} (h : At f j s) (hj : j < len) (hk : kindI (f j).k = 0 ∨ kindI (f j).k = 5) (hn : In64Y (f j).n) : numV (encL f len) s = (f j).n ∧ At f (j + 1) (wordS (encL f len).length 8 s) := by
  have E : enc (f j) = numB (tw64 (f j).n) 8 := by unfold enc; rw [if_neg (by omega), if_neg (by omega), if_neg (by omega), if_neg (by omega)]
  obtain ⟨ok, w, a⟩ := at_word h hj
  rw [E, numB_length] at ok w a
  refine ⟨?_, a⟩
  unfold numV
  rw [if_pos ok, w, valB_num (tw64_in _).1 (tw64_in _).2]
  unfold In64Y at hn
  unfold tw64 wrap64; omega
theorem at_count {f : Nat → OpI} {len j : Nat} {s : IS} (h : At f j s) (hj : j < len) (hk : kindI (f j).k = 1) : cntV 0 65535 (encL f len) s = (f j).n % 65536 ∧ At f (j + 1) (cntS 0 65535 (encL f len) s) := by
  have E : enc (f j) = u16B (f j).n := by unfold enc; rw [if_pos hk]
  obtain ⟨ok, w, a⟩ := at_word h hj
  rw [E, show (u16B (f j).n).length = 2 from rfl] at ok w a
  have C : cntOf (encL f len) s = tw64 (f j).n % 256 + 256 * (tw64 (f j).n / 256 % 256) := by unfold cntOf; rw [w]; rfl
  have t := tw64_in (f j).n
  have nb : ¬ cntBad 0 65535 (encL f len) s := by unfold cntBad; rw [C]; omega
  refine ⟨?_, ?_⟩
  · unfold cntV; rw [if_pos ok, if_neg nb, C]; unfold tw64; omega
  · unfold cntS; rw [if_pos ok, if_neg nb]; exact a
theorem at_flag {f : Nat → OpI} {len j : Nat} {s : IS} (h : At f j s) (hj : j < len) (hk : kindI (f j).k = 2) : flagV (encL f len) s = (f j).b ∧ At f (j + 1) (flagS (encL f len) s) := by
  have E : enc (f j) = flagB (f j).b := by unfold enc; rw [if_neg (by omega), if_pos hk]
  obtain ⟨ok, w, a⟩ := at_word h hj
  rw [E, show (flagB (f j).b).length = 1 from rfl] at ok w a
  have C : (wordL (encL f len) 1 s).headD 0 = if (f j).b then 1 else 0 := by rw [w]; rfl
  refine ⟨?_, ?_⟩
  · unfold flagV; rw [if_pos ok, C]; cases (f j).b <;> decide
  · unfold flagS; rw [if_pos ok, C, if_neg (by split <;> omega)]; exact a
theorem at_mark {f : Nat → OpI} {len j : Nat} {s : IS} (h : At f j s) (hj : j < len) (hk : kindI (f j).k = 3) : At f (j + 1) (mkS (f j).s (encL f len) s) := by
  have E : enc (f j) = markB (f j).s 4 := by unfold enc; rw [if_neg (by omega), if_neg (by omega), if_pos hk]
  obtain ⟨ok, w, a⟩ := at_word h hj
  rw [E, markB_length] at ok w a
  unfold mkS; rw [if_pos ok, if_pos w]; exact a
theorem at_raw {f : Nat → OpI} {len j : Nat} {s : IS} (h : At f j s) (hj : j < len) (hk : kindI (f j).k = 4) (hs : (f j).s.size ≤ 50) : rawV (f j).s.size (encL f len) s = strB (f j).s ∧ At f (j + 1) (rawS (f j).s.size (encL f len) s) := by
  have E : enc (f j) = strB (f j).s := by unfold enc; rw [if_neg (by omega), if_neg (by omega), if_neg (by omega), if_pos hk]
  obtain ⟨ok, w, a⟩ := at_word h hj
  rw [E, strB_length] at ok w a
  have ht : (((f j).s.size : Nat) : Int).toNat = (f j).s.size := by omega
  have hb : (0 : Int) ≤ ((f j).s.size : Int) ∧ ((f j).s.size : Int) ≤ 16777216 := by omega
  refine ⟨?_, ?_⟩
  · have ro : rawOk ((f j).s.size : Int) (encL f len) s := ⟨hb, by rw [ht]; exact ok⟩
    unfold rawV; rw [if_pos ro, ht]; exact w
  · unfold rawS; rw [if_pos hb, ht]; exact a
theorem at_end {f : Nat → OpI} {len : Nat} {s : IS} (h : At f len s) : endS (encL f len).length s = s := by
  unfold endS; rw [if_neg (by have := h.p; omega)]
theorem txt_str (s : ByteArray) : txt (strB s) = s := by
  cases s with | mk d =>
  show strOfNums (strB ⟨d⟩) = _
  unfold strOfNums strB
  congr 1
  rw [List.map_map]
  have : (fun n : Int => UInt8.ofNat n.toNat) ∘ (fun b : UInt8 => (b.toNat : Int)) = id := by
    funext b; simp
  rw [this, List.map_id]
end Go.Proofs.Ytcljaffdochdiaa

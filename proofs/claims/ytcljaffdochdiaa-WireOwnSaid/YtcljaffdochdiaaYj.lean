/- What package wire is to tell; the walk of WirePuts. -/
import Derived.Test.YtcljaffdochdiaaYi
import Derived.Laws.IdiomStrings
namespace Go.Proofs.Ytcljaffdochdiaa
open Go.RowKit
set_option linter.unusedVariables false
set_option linter.unusedSimpArgs false

def In64Y (n : Int) : Prop := -9223372036854775808 ≤ n ∧ n ≤ 9223372036854775807
def Byt (l : List Int) : Prop := ∀ x ∈ l, 0 ≤ x ∧ x ≤ 255
theorem Byt.append {a b : List Int} (ha : Byt a) (hb : Byt b) : Byt (a ++ b) := fun x hx => by
  rcases List.mem_append.1 hx with h | h
  · exact ha x h
  · exact hb x h
theorem numB_in {u : Int} (n : Nat) (h0 : 0 ≤ u) (h1 : u ≤ 18446744073709551615) : Byt (numB u n) := fun x hx => by
  obtain ⟨i, _, rfl⟩ := List.mem_map.1 hx
  have := dvB_in h0 h1 i
  show 0 ≤ dvB u i % 256 ∧ dvB u i % 256 ≤ 255
  omega
theorem tw64_in (n : Int) : 0 ≤ tw64 n ∧ tw64 n ≤ 18446744073709551615 := by unfold tw64; omega
theorem u16B_in (n : Int) : Byt (u16B n) := fun x hx => by
  have := tw64_in n
  unfold u16B at hx
  simp only [List.mem_cons, List.not_mem_nil, or_false] at hx
  rcases hx with rfl | rfl <;> omega
theorem flagB_in (b : Bool) : Byt (flagB b) := fun x hx => by
  unfold flagB at hx
  simp only [List.mem_cons, List.not_mem_nil, or_false] at hx
  subst hx; cases b <;> simp
/-- the bytes of a text -/
def strB (s : ByteArray) : List Int := s.data.toList.map fun b => (b.toNat : Int)
theorem strB_in (s : ByteArray) : Byt (strB s) := fun x hx => by
  obtain ⟨b, _, rfl⟩ := List.mem_map.1 hx
  have := b.toNat_lt
  show (0 : Int) ≤ (b.toNat : Int) ∧ (b.toNat : Int) ≤ 255
  omega
theorem strB_length (s : ByteArray) : (strB s).length = s.size := by unfold strB; rw [List.length_map, Array.length_toList]; rfl
theorem strB_cells (s : ByteArray) : byteCells s = byC (strB s) := by unfold byteCells byC strB; rw [List.map_map]; rfl
/-- a text as bytes -/
theorem conv_str {P : Program} (W : World) (s : ByteArray) (src dst e : TypeId) (hs : P.underlying src = some .string) (hd : P.underlying dst = some (.slice e)) (he : P.underlying e = some (.int .u8)) :
    ∃ c W2, (convert src dst (.string s)).run P W = .ok (.slice (some ⟨W.heap.size, 0, none⟩) s.size c) W2 ∧ BL W2 (some ⟨W.heap.size, 0, none⟩) s.size (strB s) ∧ Below W.heap.size W W2 ∧ W2.heap.size = W.heap.size + 1 ∧ s.size ≤ c := by
  refine ⟨_, _, run_bytes_of_string W src dst e s hs hd he, ⟨strB_length s, strB_in s, fun h0 => ⟨W.heap.size, 0, rfl, by simp, fun i x hx => ?_⟩⟩, (Below.refl _ _).drew.alloc (Nat.le_refl _) _, by simp, grownCap_ge W s.size 0 e⟩
  have hi : i < s.data.size := by
    rcases Nat.lt_or_ge i (strB s).length with k | k
    · rw [strB_length] at k; exact k
    · rw [List.getElem?_eq_none k] at hx; cases hx
  rw [Nat.zero_add]
  refine (World.cell?_alloc_mark W.drew _ e _ i).trans ?_
  rw [bytesRow_at s _ i hi]
  unfold strB at hx
  rw [List.getElem?_map, Array.getElem?_toList, Array.getElem?_eq_getElem hi] at hx
  cases hx; rfl
/-- a list of the call's own as a text -/
theorem conv_ob {P : Program} {base : Nat} {W : World} {v : Value} {l : List Int} (h : OB base W v (byC l)) (hu : Byt l) (src e dst : TypeId) (hs : P.underlying src = some (.slice e)) (he : P.underlying e = some (.int .u8)) (hd : P.underlying dst = some .string) : (convert src dst v).run P W = .ok (.string (txt l)) W := by
  obtain ⟨a, c, rfl, hb, _⟩ := h.bl hu
  by_cases n0 : 0 < l.length
  · exact conv_bl hb n0 c src e dst hs he hd
  · have : l = [] := List.eq_nil_of_length_eq_zero (by omega)
    subst this
    cases a with
    | none => rw [run_convert_bytes_nil (P := P) W src e hs he _ _ dst hd]; rfl
    | some x =>
      rcases h with ⟨h, _⟩ | ⟨g, cap, h, _⟩
      · cases h
      · injection h with h _ _
        injection h with h
        subst h
        exact run_convert_bytes_arg (P := P) W src e hs he g 0 _ c [] rfl (fun i hi => absurd hi (by simp)) dst hd
/-- what package wire tells of what is put -/
structure WireO (C : OutT) : Prop where
  num : ∀ n, In64Y n → C.puts 8 #[.int .i64 n] (numB (tw64 n) 8)
  count : ∀ n, In64Y n → C.puts 10 #[.int .i64 n] (u16B n)
  flag : ∀ b, C.puts 12 #[.bool b] (flagB b)
  mark : ∀ s, C.puts 14 #[.string s] (markB s 4)
  raw : ∀ base W nb v l, C.P base W nb v l → base ≤ W.heap.size → ∀ (a : Option Addr) (n c : Nat) (new : List Int), BL W a n new → n ≤ c → l.length + new.length ≤ 100000 → (∀ p, a = some p → p.block ≠ nb ∧ v.ownBlock ≠ some p.block) →
    Calls Try.prog 16 #[.pointer (some ⟨nb, 0, none⟩), .slice a n c] W fun e W' => e = .returned (.tuple #[]) ∧ ∃ v', C.P base W' nb v' (l ++ new) ∧ TwoB W W' nb v.ownBlock ∧ (v'.ownBlock = v.ownBlock ∨ ∃ g, v'.ownBlock = some g ∧ W.heap.size ≤ g)
  bytes : ∀ base W nb v l, C.P base W nb v l → Byt l → Calls Try.prog 17 #[.pointer (some ⟨nb, 0, none⟩)] W fun e W' => (∃ b, e = .returned b ∧ OB W.heap.size W' b (byC l)) ∧ Below W.heap.size W W'
  zero : ∀ base (W : World), base ≤ W.heap.size → ∃ v, C.P base (W.alloc (.cells #[.slice none 0 0] 27)) W.heap.size v [] ∧ v.ownBlock = none
  nilNum : ∀ n W, In64Y n → Calls Try.prog 8 #[.pointer none, .int .i64 n] W fun e W' => e = .returned (.tuple #[]) ∧ Below W.heap.size W W'
  nilBytes : ∀ W, Calls Try.prog 17 #[.pointer none] W fun e W' => (∃ a c, e = .returned (.slice a 0 c)) ∧ Below W.heap.size W W'
  awake : ∀ W, Calls Try.prog 18 #[] W fun e W' => e = .returned (.bool true) ∧ Below W.heap.size W W'
end Go.Proofs.Ytcljaffdochdiaa

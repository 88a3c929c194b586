/- The example of chapter 10. -/
import Derived.Test.YtcljaffdochdiaaYo
namespace Go.Proofs.Ytcljaffdochdiaa
open Go.RowKit
set_option linter.unusedVariables false
set_option linter.unusedSimpArgs false

/-- what the example needs of package wire -/
structure WireX (C : OutT) (I : InT) : Prop where
  num : ∀ n, In64Y n → C.puts 8 #[.int .i64 n] (numB (tw64 n) 8)
  bytes : ∀ base W nb v l, C.P base W nb v l → Byt l → Calls Try.prog 17 #[.pointer (some ⟨nb, 0, none⟩)] W fun e W' => (∃ b, e = .returned b ∧ OB W.heap.size W' b (byC l)) ∧ Below W.heap.size W W'
  zero : ∀ base (W : World), base ≤ W.heap.size → ∃ v, C.P base (W.alloc (.cells #[.slice none 0 0] 27)) W.heap.size v [] ∧ v.ownBlock = none
  new : ∀ (a : Option Addr) (n c : Nat) (l : List Int) (W : World), BL W a n l → n ≤ c → c ≤ maxLen → n ≤ 100000 → Calls Try.prog 19 #[.slice a n c] W fun e W' => ∃ nb, e = .returned (.pointer (some ⟨nb, 0, none⟩)) ∧ I.P W.heap.size W'.heap.size W' nb l ⟨0, 0, 0, 0⟩ ∧ Below W.heap.size W W'
  inum : ∀ base top W nb l s, I.P base top W nb l s → Calls Try.prog 24 #[.pointer (some ⟨nb, 0, none⟩)] W fun e W' => e = .returned (.int .i64 (numV l s)) ∧ I.P base top W' nb l (wordS l.length 8 s) ∧ Mid base top W W'
  iend : ∀ base top W nb l s, I.P base top W nb l s → Calls Try.prog 25 #[.pointer (some ⟨nb, 0, none⟩)] W fun e W' => e = .returned (.tuple #[.int .i64 (endS l.length s).err, .int .i64 (endS l.length s).place]) ∧ I.P base top W' nb l (endS l.length s) ∧ Mid base top W W'
theorem Mid.to {base top : Nat} {W W' : World} (k : Mid base top W W') (h : base ≤ W.heap.size) : Below base W W' := ⟨k.os, k.tape, k.output, k.size, fun j hj => k.block j (by omega) (Or.inl hj)⟩
theorem PS.low {C : OutT} {w W W1 : World} {nb : Nat} {v u : Value} {lo lu : List Int} (s : PS C w W nb v u lo lu) (h : Below W.heap.size W W1) {W' : World} (k : Below W.heap.size W1 W') : PS C w W' nb v u lo lu := s.step (h.trans k)
theorem ex_txt : (txt (numB (tw64 (-2)) 8)).toList = [254, 255, 255, 255, 255, 255, 255, 255] := by decide +kernel
set_option maxRecDepth 100000 in
set_option maxHeartbeats 2000000 in
theorem wawake_walk (C : OutT) (I : InT) (X : WireX C I) (w : World) : Calls Try.prog 18 #[] w fun e w' => e = .returned (.bool true) ∧ Below w.heap.size w w' := by
  obtain ⟨v0, hz, hv0⟩ := X.zero w.heap.size w (Nat.le_refl _)
  have S0 := Lib.hid (show PS C w (w.alloc (.cells #[.slice none 0 0] 27)) w.heap.size v0 (.slice none 0 0) [] [] from ⟨hz, OB.nil _ _, (Below.refl _ _).alloc (Nat.le_refl _) _, (by intro e; cases e), fun _ => rfl⟩)
  have HX := Lib.hid X
  have ET := ex_txt
  clear hz hv0 X
  go_enter Try.func18, Try.ntmps18
  go_wp2_with fail
  refine (HX.out.num (-2) (by unfold In64Y; omega) w.heap.size _ _ v0 [] S0.out.p S0.out.b.size (by rw [numB_length]; simp)).mono ?_
  rintro e w1 ⟨rfl, v1, hp, hk, hv⟩
  have S1 := Lib.hid (S0.out.put hp hk hv)
  rw [List.nil_append] at S1
  clear hp hk hv S0
  go_wp2_with fail
  have BB := Lib.hid (show BL (w1.alloc (.cells #[.int .u8 1, .int .u8 2] 5)) (some ⟨w1.heap.size, 0, none⟩) 2 [1, 2] from ⟨rfl, fun x hx => by simp at hx; omega, fun _ => ⟨w1.heap.size, 0, rfl, by simp, fun i x hx => by
    rw [Nat.zero_add, World.cell?_alloc_new w1 _ _ i]
    match i, hx with
    | 0, hx => cases hx; rfl
    | 1, hx => cases hx; rfl⟩⟩)
  refine (HX.out.new _ 2 2 [1, 2] _ BB.out (Nat.le_refl _) (by unfold maxLen; omega) (by omega)).mono ?_
  rintro e w2 ⟨ni, rfl, hp, hb⟩
  have S2 := Lib.hid (S1.out.step (((Below.refl _ w1).alloc (Nat.le_refl _) _).trans (hb.mono (by simp))))
  have base1 : w1.heap.size < (w1.alloc (.cells #[.int .u8 1, .int .u8 2] 5)).heap.size := by simp
  obtain ⟨base, hbase⟩ : ∃ base, (w1.alloc (.cells #[.int .u8 1, .int .u8 2] 5)).heap.size = base := ⟨_, rfl⟩
  rw [hbase] at hp base1
  have B12 := Lib.hid (show Below w1.heap.size w1 w2 from ((Below.refl _ w1).alloc (Nat.le_refl _) _).trans (hb.mono (by simp)))
  obtain ⟨top, htop⟩ : ∃ top, w2.heap.size = top := ⟨_, rfl⟩
  rw [htop] at hp
  have HP := Lib.hid hp
  clear hp hb hbase htop BB S2
  go_wp2_with fail
  have XN := HX.out.inum base top w2 ni [1, 2] _ HP.out
  rw [show numV [1, 2] ⟨0, 0, 0, 0⟩ = 0 by decide] at XN
  refine XN.mono ?_
  rintro e w3 ⟨rfl, hp, hm⟩
  have B13 := Lib.hid (B12.out.trans ((hm.to (by have := I.top HP.out; omega)).mono (by omega)))
  have HP2 := Lib.hid hp
  clear hp hm B12 HP XN
  go_wp2_with fail
  have XE := HX.out.iend base top w3 ni [1, 2] _ HP2.out
  rw [show (endS ([1, 2] : List Int).length (wordS ([1, 2] : List Int).length 8 ⟨0, 0, 0, 0⟩)).err = 20 by decide, show (endS ([1, 2] : List Int).length (wordS ([1, 2] : List Int).length 8 ⟨0, 0, 0, 0⟩)).place = 2 by decide] at XE
  refine XE.mono ?_
  rintro e w4 ⟨rfl, hp, hm⟩
  have S4 := Lib.hid (S1.out.step (B13.out.trans ((hm.to (by have := I.top HP2.out; omega)).mono (by omega))))
  clear hp hm B13 HP2 S1 XE
  go_wp2_with fail
  refine (HX.out.bytes w.heap.size _ _ v1 _ S4.out.p (numB_in 8 (tw64_in _).1 (tw64_in _).2)).mono ?_
  rintro e w5 ⟨⟨x, rfl, hx⟩, hb⟩
  have S5 := Lib.hid (S4.out.step hb)
  have CX := conv_ob (P := Try.prog) hx (numB_in 8 (tw64_in _).1 (tw64_in _).2) 25 5 9 rfl rfl rfl
  clear hx hb S4
  go_wp2
  go_ret
  exact ⟨rfl, S5.out.b⟩
end Go.Proofs.Ytcljaffdochdiaa

/- -/
import Derived.Test.YtmdjnamkbekjkaaGreatDoorXe
import Derived.Test.YtmdjnamkbekjkaaGreatDoorD5
import Derived.Test.YtmdjnamkbekjkaaGreatDoorBj
import Derived.Test.YtmdjnamkbekjkaaGreatDoorD4
import Derived.Test.YtmdjnamkbekjkaaGreatDoorB3
namespace Go.Proofs.YtmdjnamkbekjkaaGreatDoor
open Go.RowKit
set_option linter.unusedVariables false
set_option linter.unusedSimpArgs false
abbrev wrV (nb : Nat) : Value := .agg #[.pointer (some ⟨nb, 0, none⟩)]
theorem PU.base {base : Nat} {W W' : World} {nb : Nat} {v v' : Value} {l l0 : List Int} (h : PU base W W' nb v v' l) (p : OutP base W nb v l0) : Below base W W' := by
 have h0 := p.hb
 exact ⟨h.k.os, h.k.tape, h.k.output, h.k.size, fun j hj => h.k.block j (by have := p.lt; omega) (by omega) (fun e => by have := (p.o.row_lt e.symm).1; omega)⟩
theorem PU.trans {base : Nat} {W W1 W2 : World} {nb : Nat} {v v1 v2 : Value} {l l2 : List Int} (h : PU base W W1 nb v v1 l) (k : PU base W1 W2 nb v1 v2 l2) : PU base W W2 nb v v2 l2 := by
 have z := h.k.size
 have ne : ∀ j, j < W.heap.size → some j ≠ v.ownBlock → some j ≠ v1.ownBlock := fun j hj h3 e => by
  rcases h.o with o | ⟨g, o, og⟩
  ·exact h3 (e.trans o)
  ·rw [o] at e; injection e; omega
 refine ⟨k.p, ⟨k.k.os.trans h.k.os, k.k.tape.trans h.k.tape, k.k.output.trans h.k.output, Nat.le_trans z k.k.size, fun j hj h1 h3 => (k.k.block j (by omega) h1 (ne j hj h3)).trans (h.k.block j hj h1 h3)⟩, ?_⟩
 rcases k.o with o | ⟨g, o, og⟩
 ·rw [o]; exact h.o
 ·exact .inr ⟨g, o, by omega⟩
def PutBy (f : Nat) (args : Nat → Array Value) (new : List Int) : Prop :=
 ∀ (base : Nat) (W : World) (nb : Nat) (v : Value) (l : List Int), OutP base W nb v l → base ≤ W.heap.size → l.length + new.length ≤ 100000 → Calls Tryz.prog f (args nb) W fun e W' => e = .returned (.tuple #[]) ∧ ∃ v', PU base W W' nb v v' (l ++ new)
theorem put_res {f : Nat} {args : Array Value} {base : Nat} {W : World} {nb : Nat} {v : Value} {l : List Int} (h : Calls Tryz.prog f args W fun e W' => e = .returned (.tuple #[]) ∧ ∃ v', OutP base W' nb v' l ∧ TwoB W W' nb v.ownBlock ∧ (v'.ownBlock = v.ownBlock ∨ ∃ g, v'.ownBlock = some g ∧ W.heap.size ≤ g)) : Calls Tryz.prog f args W fun e W' => e = .returned (.tuple #[]) ∧ ∃ v', PU base W W' nb v v' l :=
 h.mono (fun e W' ⟨a, v', b, c, d⟩ => ⟨a, v', ⟨b, c, d⟩⟩)
set_option maxRecDepth 100000 in
theorem pNum (n : Int) (hn : In64Y n) : PutBy 54 (fun nb => #[.pointer (some ⟨nb, 0, none⟩), .int .i64 n]) (numB (tw64 n) 8) := by
 intro base W nb v l hP hb hl
 exact put_res (oNum_any n hn base W nb v l hP hb hl)
set_option maxRecDepth 100000 in
theorem pCount (n : Int) (hn : In64Y n) : PutBy 42 (fun nb => #[.pointer (some ⟨nb, 0, none⟩), .int .i64 n]) (u16B n) := by
 intro base W nb v l hP hb hl
 exact put_res (oCount_any n hn base W nb v l hP hb hl)
set_option maxRecDepth 100000 in
theorem pFlag (b : Bool) : PutBy 98 (fun nb => #[.pointer (some ⟨nb, 0, none⟩), .bool b]) (flagB b) := by
 intro base W nb v l hP hb hl
 exact put_res (oFlag_any b base W nb v l hP hb hl)
set_option maxRecDepth 100000 in
theorem pMark (s : ByteArray) : PutBy 41 (fun nb => #[.pointer (some ⟨nb, 0, none⟩), .string s]) (markB s 4) := by
 intro base W nb v l hP hb hl
 exact put_res (oMark_any s base W nb v l hP hb hl)
structure TwP (base : Nat) (W X : World) (nb : Nat) (v v' : Value) (l : List Int) (bx cx : Nat) (L : List Value) : Prop where
 p : PU base W X nb v v' l
 b : BW X bx [.pointer (some ⟨nb, 0, none⟩)]
 c : BW X cx L
 z : (W.heap.size ≤ bx ∧ W.heap.size ≤ cx) ∧ nb < W.heap.size ∧ base ≤ W.heap.size
 o : v'.ownBlock ≠ some bx ∧ v'.ownBlock ≠ some cx
theorem own_new {base : Nat} {W : World} {nb : Nat} {v : Value} {l : List Int} (p : OutP base W nb v l) {k : Nat} (h : W.heap.size ≤ k) : v.ownBlock ≠ some k := fun e => by have := (p.o.row_lt e).2; omega
theorem TwP.new1 {base : Nat} {W : World} {nb : Nat} {v : Value} {l : List Int} (T : TypeId) (p : OutP base W nb v l) (hb : base ≤ W.heap.size) : TwP base W (W.alloc (.cells #[.pointer (some ⟨nb, 0, none⟩)] T)) nb v v l W.heap.size W.heap.size [.pointer (some ⟨nb, 0, none⟩)] :=
 ⟨(PU.refl p).step ((Below.refl _ _).alloc (Nat.le_refl _) _), BW.new W _ [.pointer (some ⟨nb, 0, none⟩)] T rfl, BW.new W _ [.pointer (some ⟨nb, 0, none⟩)] T rfl, ⟨⟨Nat.le_refl _, Nat.le_refl _⟩, p.lt, hb⟩, own_new p (Nat.le_refl _), own_new p (Nat.le_refl _)⟩
theorem TwP.new2 {base : Nat} {W : World} {nb : Nat} {v : Value} {l : List Int} (T U : TypeId) (L : List Value) (p : OutP base W nb v l) (hb : base ≤ W.heap.size) : TwP base W ((W.alloc (.cells #[.pointer (some ⟨nb, 0, none⟩)] T)).alloc (.cells L.toArray U)) nb v v l W.heap.size (W.heap.size + 1) L := by
 have h1 := (Below.refl W.heap.size W).alloc (Nat.le_refl _) (.cells #[.pointer (some ⟨nb, 0, none⟩)] T)
 have n1 : (W.alloc (.cells #[.pointer (some ⟨nb, 0, none⟩)] T)).heap.size = W.heap.size + 1 := by simp
 have h2 := (Below.refl (W.heap.size + 1) (W.alloc (.cells #[.pointer (some ⟨nb, 0, none⟩)] T))).alloc (by rw [n1]; exact Nat.le_refl _) (.cells L.toArray U)
 have c := BW.new (W.alloc (.cells #[.pointer (some ⟨nb, 0, none⟩)] T)) (W.heap.size + 1) L U n1.symm
 exact ⟨(PU.refl p).step (h1.trans (h2.mono (by omega))), (BW.new W _ [.pointer (some ⟨nb, 0, none⟩)] T rfl).below h2 (by omega), c, ⟨⟨Nat.le_refl _, by omega⟩, p.lt, hb⟩, own_new p (Nat.le_refl _), own_new p (by omega)⟩
theorem TwP.call {base : Nat} {W X Y : World} {nb : Nat} {v v' v2 : Value} {l l2 : List Int} {bx cx : Nat} {L : List Value} (S : TwP base W X nb v v' l bx cx L) (h : PU base X Y nb v' v2 l2) : TwP base W Y nb v v2 l2 bx cx L := by
 have z := S.z
 have k : ∀ q, W.heap.size ≤ q → q < X.heap.size → v'.ownBlock ≠ some q → Y.heap[q]? = X.heap[q]? := fun q h1 h2 h3 => h.k.block q h2 (by omega) (fun e => h3 e.symm)
 have bw : ∀ {q : Nat} {M : List Value}, BW X q M → W.heap.size ≤ q → v'.ownBlock ≠ some q → BW Y q M := fun {q M} B h1 h3 =>
  ⟨fun i u e => (World.cell?_of_block (w := X) (a := ⟨q, i, none⟩) (k q h1 B.lt h3)).trans (B.c i u e), fun j => (World.frozen?_of_block (w := X) (a := ⟨q, j, none⟩) (k q h1 B.lt h3)).trans (B.f j), Nat.lt_of_lt_of_le B.lt h.k.size⟩
 have ow : ∀ {q : Nat}, q < X.heap.size → v'.ownBlock ≠ some q → v2.ownBlock ≠ some q := fun {q} h1 h3 e => by
  rcases h.o with o | ⟨g, o, og⟩
  ·exact h3 (o.symm.trans e)
  ·rw [o] at e; injection e; omega
 exact ⟨S.p.trans h, bw S.b z.1.1 S.o.1, bw S.c z.1.2 S.o.2, z, ow S.b.lt S.o.1, ow S.c.lt S.o.2⟩
theorem TwP.size {base : Nat} {W X : World} {nb : Nat} {v v' : Value} {l : List Int} {bx cx : Nat} {L : List Value} (S : TwP base W X nb v v' l bx cx L) : base ≤ X.heap.size := Nat.le_trans S.z.2.2 S.p.k.size
set_option maxRecDepth 100000 in
theorem wNumber (n : Int) (hn : In64Y n) : PutBy 43 (fun nb => #[wrV nb, .int .i64 n]) (numB (tw64 n) 8) := by
 intro base W nb v l hP hb hl
 have S0 := Lib.hid (TwP.new1 51 hP hb)
 have X := Lib.hid (pNum n hn)
 show Calls Tryz.prog _ #[.agg #[.pointer (some ⟨nb, 0, none⟩)], .int .i64 n] W _
 clear hP hn
 go_enter Tryz.func43, Tryz.ntmps43
 go_wp2_with fail
 refine calls_gen (S := fun Y => TwP base W Y nb v v l W.heap.size W.heap.size [.pointer (some ⟨nb, 0, none⟩)]) S0.out (fun W1 hS => ?_)
 have S1 := Lib.hid hS
 clear hS S0
 refine (X.out base _ nb _ _ S1.out.p.p S1.out.size (by exact hl)).mono ?_
 rintro e x2 ⟨rfl, v2, h⟩
 have S2 := Lib.hid (S1.out.call h)
 clear h S1
 go_wp2
 go_end0
 exact ⟨rfl, v2, S2.out.p⟩
set_option maxRecDepth 100000 in
theorem wPlace (p : Int × Int) (h0 : In64Y p.1 ∧ In64Y p.2) : PutBy 44 (fun nb => #[wrV nb, .agg #[.int .i64 p.1, .int .i64 p.2]]) (placeC.wr p) := by
 obtain ⟨x, y⟩ := p
 intro base W nb v l hP hb hl
 have S0 := Lib.hid (TwP.new2 51 24 [.int .i64 x, .int .i64 y] hP hb)
 have X := Lib.hid (wNumber x h0.1)
 have Y := Lib.hid (wNumber y h0.2)
 rw [place_len] at hl
 rw [wr_place, ← List.append_assoc]
 show Calls Tryz.prog _ #[.agg #[.pointer (some ⟨nb, 0, none⟩)], .agg #[.int .i64 x, .int .i64 y]] W _
 clear hP h0
 go_enter Tryz.func44, Tryz.ntmps44
 go_wp2_with fail
 refine calls_gen (S := fun Y => TwP base W Y nb v v l W.heap.size (W.heap.size + 1) [.int .i64 x, .int .i64 y]) S0.out (fun W1 hS => ?_)
 have S1 := Lib.hid hS
 clear hS S0
 refine (X.out base _ nb _ _ S1.out.p.p S1.out.size (by rw [numB_length]; omega)).mono ?_
 rintro e x2 ⟨rfl, v2, h⟩
 have S2 := Lib.hid (S1.out.call h)
 clear h S1
 have b0 := S2.out.b.c 0 _ rfl
 have c1 := S2.out.c.c 1 _ rfl
 go_wp2_with fail
 clear b0 c1
 refine (Y.out base _ nb _ _ S2.out.p.p S2.out.size (by rw [List.length_append, numB_length, numB_length]; omega)).mono ?_
 rintro e x3 ⟨rfl, v3, h⟩
 have S3 := Lib.hid (S2.out.call h)
 clear h S2
 go_wp2
 go_end0
 exact ⟨rfl, v3, S3.out.p⟩
set_option maxRecDepth 100000 in
theorem wKind (p : Int × Int × Bool) (h0 : In64Y p.1 ∧ In64Y p.2.1) : PutBy 48 (fun nb => #[wrV nb, .agg #[.int .i64 p.1, .int .i64 p.2.1, .bool p.2.2]]) (kindC.wr p) := by
 obtain ⟨x, y, z⟩ := p
 intro base W nb v l hP hb hl
 have S0 := Lib.hid (TwP.new2 51 94 [.int .i64 x, .int .i64 y, .bool z] hP hb)
 have X := Lib.hid (wNumber x h0.1)
 have Y := Lib.hid (wNumber y h0.2)
 have Z := Lib.hid (pFlag z)
 rw [wr_kind, List.length_append, List.length_append, numB_length, numB_length] at hl
 rw [wr_kind, ← List.append_assoc, ← List.append_assoc]
 have fl : (flagB z).length = 1 := rfl
 rw [fl] at hl
 show Calls Tryz.prog _ #[.agg #[.pointer (some ⟨nb, 0, none⟩)], .agg #[.int .i64 x, .int .i64 y, .bool z]] W _
 clear hP h0
 go_enter Tryz.func48, Tryz.ntmps48
 go_wp2_with fail
 refine calls_gen (S := fun Y => TwP base W Y nb v v l W.heap.size (W.heap.size + 1) [.int .i64 x, .int .i64 y, .bool z]) S0.out (fun W1 hS => ?_)
 have S1 := Lib.hid hS
 clear hS S0
 refine (X.out base _ nb _ _ S1.out.p.p S1.out.size (by rw [numB_length]; omega)).mono ?_
 rintro e x2 ⟨rfl, v2, h⟩
 have S2 := Lib.hid (S1.out.call h)
 clear h S1
 have b0 := S2.out.b.c 0 _ rfl
 have c1 := S2.out.c.c 1 _ rfl
 go_wp2_with fail
 clear b0 c1
 refine (Y.out base _ nb _ _ S2.out.p.p S2.out.size (by rw [List.length_append, numB_length, numB_length]; omega)).mono ?_
 rintro e x3 ⟨rfl, v3, h⟩
 have S3 := Lib.hid (S2.out.call h)
 clear h S2
 have b0 := S3.out.b.c 0 _ rfl
 have c1 := S3.out.c.c 2 _ rfl
 go_wp2_with fail
 clear b0 c1
 refine (Z.out base _ nb _ _ S3.out.p.p S3.out.size (by rw [List.length_append, List.length_append, numB_length, numB_length, fl]; omega)).mono ?_
 rintro e x4 ⟨rfl, v4, h⟩
 have S4 := Lib.hid (S3.out.call h)
 clear h S3
 go_wp2
 go_end0
 exact ⟨rfl, v4, S4.out.p⟩
set_option maxRecDepth 100000 in
theorem wGate (p : (Int × Int) × (Int × Int) × Bool) (h0 : (In64Y p.1.1 ∧ In64Y p.1.2) ∧ In64Y p.2.1.1 ∧ In64Y p.2.1.2) : PutBy 53 (fun nb => #[wrV nb, .agg #[.int .i64 p.1.1, .int .i64 p.1.2, .int .i64 p.2.1.1, .int .i64 p.2.1.2, .bool p.2.2]]) (gateC.wr p) := by
 obtain ⟨⟨x, y⟩, ⟨x', y'⟩, z⟩ := p
 intro base W nb v l hP hb hl
 have S0 := Lib.hid (TwP.new2 51 59 [.int .i64 x, .int .i64 y, .int .i64 x', .int .i64 y', .bool z] hP hb)
 have X := Lib.hid (wPlace (x, y) h0.1)
 have Y := Lib.hid (wPlace (x', y') h0.2)
 have Z := Lib.hid (pFlag z)
 rw [wr_gate, List.length_append, List.length_append, place_len, place_len] at hl
 rw [wr_gate, ← List.append_assoc, ← List.append_assoc]
 have fl : (flagB z).length = 1 := rfl
 rw [fl] at hl
 show Calls Tryz.prog _ #[.agg #[.pointer (some ⟨nb, 0, none⟩)], .agg #[.int .i64 x, .int .i64 y, .int .i64 x', .int .i64 y', .bool z]] W _
 clear hP h0
 go_enter Tryz.func53, Tryz.ntmps53
 go_wp2_with fail
 refine calls_gen (S := fun Y => TwP base W Y nb v v l W.heap.size (W.heap.size + 1) [.int .i64 x, .int .i64 y, .int .i64 x', .int .i64 y', .bool z]) S0.out (fun W1 hS => ?_)
 have S1 := Lib.hid hS
 clear hS S0
 refine (X.out base _ nb _ _ S1.out.p.p S1.out.size (by rw [place_len]; omega)).mono ?_
 rintro e x2 ⟨rfl, v2, h⟩
 have S2 := Lib.hid (S1.out.call h)
 clear h S1
 have b0 := S2.out.b.c 0 _ rfl
 have c1 := S2.out.c.c 2 _ rfl
 have c2 := S2.out.c.c 3 _ rfl
 go_wp2_with fail
 clear b0 c1 c2
 refine (Y.out base _ nb _ _ S2.out.p.p S2.out.size (by rw [List.length_append, place_len, place_len]; omega)).mono ?_
 rintro e x3 ⟨rfl, v3, h⟩
 have S3 := Lib.hid (S2.out.call h)
 clear h S2
 have b0 := S3.out.b.c 0 _ rfl
 have c1 := S3.out.c.c 4 _ rfl
 go_wp2_with fail
 clear b0 c1
 refine (Z.out base _ nb _ _ S3.out.p.p S3.out.size (by rw [List.length_append, List.length_append, place_len, place_len, fl]; omega)).mono ?_
 rintro e x4 ⟨rfl, v4, h⟩
 have S4 := Lib.hid (S3.out.call h)
 clear h S3
 go_wp2
 go_end0
 exact ⟨rfl, v4, S4.out.p⟩
theorem fm_pre {α : Type} (f : α → List Int) (xs : List α) (z : α) {j : Nat} (h : j < xs.length) : ((xs.take j).flatMap f).length + (f (xs.getD j z)).length ≤ (xs.flatMap f).length := by
 have e : xs.flatMap f = (xs.take (j + 1)).flatMap f ++ (xs.drop (j + 1)).flatMap f := by rw [← List.flatMap_append, List.take_append_drop]
 rw [e, fm_succ f xs z h, List.length_append, List.length_append]
 omega
def LsM (base : Nat) (W : World) (a : Option Addr) (n m : Nat) (f : Nat → List Value) : Prop :=
 0 < n → ∃ b off, a = some ⟨b, off, none⟩ ∧ b < base ∧ ∀ i, i < n → ∀ k u, (f i)[k]? = some u → W.cell? ⟨b, off + i * m + k, none⟩ = some u
theorem LsM.below {base : Nat} {W Y : World} {a : Option Addr} {n m : Nat} {f : Nat → List Value} (h : LsM base W a n m f) (k : Below base W Y) : LsM base Y a n m f := fun h0 => by
 obtain ⟨b, off, e, hb, hc⟩ := h h0
 exact ⟨b, off, e, hb, fun i hi j u hu => (k.cell (p := ⟨b, off + i * m + j, none⟩) hb).trans (hc i hi j u hu)⟩
def ElB (base : Nat) (W : World) (nb n g : Nat) (r : Value) (E : Nat → Value) (new : Nat → List Int) : Prop :=
 ∀ j, j < n → ∀ Y v1 l1, Below base W Y → OutP base Y nb v1 l1 → base ≤ Y.heap.size → l1.length + (new j).length ≤ 100000 → Calls Tryz.prog g #[r, E j] Y fun e Y' => e = .returned (.tuple #[]) ∧ ∃ v', PU base Y Y' nb v1 v' (l1 ++ new j)
theorem ElB.below {base : Nat} {W W' : World} {nb n g : Nat} {r : Value} {E : Nat → Value} {new : Nat → List Int} (h : ElB base W nb n g r E new) (k : Below base W W') : ElB base W' nb n g r E new :=
 fun j hj Y v1 l1 hY => h j hj Y v1 l1 (k.trans hY)
set_option maxRecDepth 100000 in
set_option maxHeartbeats 2000000 in
theorem wlFx (a : Option Addr) (c : Nat) (xs : List Int) (base : Nat) (W : World) (nb : Nat) (v : Value) (l : List Int) (hP : OutP base W nb v l) (hb : base ≤ W.heap.size) (hl : l.length + (xs.flatMap (numC.wr)).length ≤ 100000) (hn : xs.length ≤ 5000)
  (N : LsM base W a xs.length 1 (fun j => [.int .i64 (xs.getD j 0)])) (HX : ElB base W nb xs.length 43 (wrV nb) (fun j => .int .i64 (xs.getD j 0)) (fun j => (numC.wr) (xs.getD j 0))) :
  Calls Tryz.prog 45 #[.slice a xs.length c, .func (.func 43) #[wrV nb] #[]] W fun e W' => e = .returned (.tuple #[]) ∧ ∃ v', PU base W W' nb v v' (l ++ xs.flatMap (numC.wr)) := by
 have HN := Lib.hid N
 have H1 := Lib.hid HX
 have HP := Lib.hid hP
 have HB := Lib.hid hb
 clear N HX hP hb
 go_enter Tryz.func45, Tryz.ntmps45
 go_wp2
 go_loopw [8] (fun i wr => ∃ (j : Nat) (v' : Value), j ≤ xs.length ∧ i = .int .i64 j ∧ PU base W wr nb v v' (l ++ (xs.take j).flatMap (numC.wr))) (fun i _ => xs.length - (intOf i).toNat)
 case atStart => exact ⟨0, v, by omega, rfl, by rw [List.take_zero, List.flatMap_nil, List.append_nil]; exact PU.refl HP.out⟩
 case round =>
  obtain ⟨j, v1, hj, rfl, hS⟩ := hrel
  have S1 := Lib.hid hS
  clear hS
  by_cases hlt : j < xs.length
  ·obtain ⟨b, off, rfl, hbl, hcell⟩ := (HN.out.below (S1.out.base HP.out)) (by omega)
   have BL := Lib.hid (S1.out.base HP.out)
   have HC := Lib.hid (hcell j hlt)
   have z0 : (0 : Int) ≤ (j : Int) := by omega
   have z1 : (j : Int) < (xs.length : Int) := by omega
   have FM := Lib.hid (fm_succ (numC.wr) xs 0 hlt)
   have LN := fm_pre (numC.wr) xs 0 hlt
   have H2 := Lib.hid (H1.out j hlt)
   dsimp only at HC H2
   generalize xs.getD j 0 = p at *
   clear hcell hbl
   have c0 := HC.out 0 _ rfl
   simp only [Nat.mul_one, Nat.add_zero] at c0
   clear HC
   go_wp2_with fail
   have B1 := Lib.hid (Below.refl wr.heap.size wr)
   refine (H2.out _ v1 _ (BL.out.trans (B1.out.mono (by have := BL.out.size; have := HB.out; omega))) (S1.out.step B1.out).p (by have := BL.out.size; have := B1.out.size; have := HB.out; omega) (by rw [List.length_append]; omega)).mono ?_
   rintro e w2 ⟨rfl, v2, h⟩
   have S2 := Lib.hid (show PU base W w2 nb v v2 (l ++ (xs.take (j + 1)).flatMap (numC.wr)) by rw [FM.out, ← List.append_assoc]; exact (S1.out.step B1.out).trans h)
   clear h S1 H2 FM LN B1 c0
   go_wp2
   go_roundw
   case rel => exact ⟨j + 1, v2, by omega, by go_num, S2.out⟩
   case measure => simp [intOf]; omega
  ·have z1 : ¬ (j : Int) < (xs.length : Int) := by omega
   have S2 := Lib.hid (show PU base W wr nb v v1 (l ++ xs.flatMap (numC.wr)) by
    have := S1.out
    rw [List.take_of_length_le (by omega)] at this
    exact this)
   clear S1
   go_wp2
   go_end0
   exact ⟨rfl, v1, S2.out⟩
set_option maxRecDepth 100000 in
set_option maxHeartbeats 2000000 in
theorem wlInt (a : Option Addr) (c : Nat) (xs : List Int) (base : Nat) (W : World) (nb : Nat) (v : Value) (l : List Int) (hP : OutP base W nb v l) (hb : base ≤ W.heap.size) (hl : l.length + (xs.flatMap (u16B)).length ≤ 100000) (hn : xs.length ≤ 5000)
  (N : LsM base W a xs.length 1 (fun j => [.int .i64 (xs.getD j 0)])) (HX : ElB base W nb xs.length 42 (.pointer (some ⟨nb, 0, none⟩)) (fun j => .int .i64 (xs.getD j 0)) (fun j => (u16B) (xs.getD j 0))) :
  Calls Tryz.prog 46 #[.slice a xs.length c, .func (.func 42) #[.pointer (some ⟨nb, 0, none⟩)] #[]] W fun e W' => e = .returned (.tuple #[]) ∧ ∃ v', PU base W W' nb v v' (l ++ xs.flatMap (u16B)) := by
 have HN := Lib.hid N
 have H1 := Lib.hid HX
 have HP := Lib.hid hP
 have HB := Lib.hid hb
 clear N HX hP hb
 go_enter Tryz.func46, Tryz.ntmps46
 go_wp2
 go_loopw [8] (fun i wr => ∃ (j : Nat) (v' : Value), j ≤ xs.length ∧ i = .int .i64 j ∧ PU base W wr nb v v' (l ++ (xs.take j).flatMap (u16B))) (fun i _ => xs.length - (intOf i).toNat)
 case atStart => exact ⟨0, v, by omega, rfl, by rw [List.take_zero, List.flatMap_nil, List.append_nil]; exact PU.refl HP.out⟩
 case round =>
  obtain ⟨j, v1, hj, rfl, hS⟩ := hrel
  have S1 := Lib.hid hS
  clear hS
  by_cases hlt : j < xs.length
  ·obtain ⟨b, off, rfl, hbl, hcell⟩ := (HN.out.below (S1.out.base HP.out)) (by omega)
   have BL := Lib.hid (S1.out.base HP.out)
   have HC := Lib.hid (hcell j hlt)
   have z0 : (0 : Int) ≤ (j : Int) := by omega
   have z1 : (j : Int) < (xs.length : Int) := by omega
   have FM := Lib.hid (fm_succ (u16B) xs 0 hlt)
   have LN := fm_pre (u16B) xs 0 hlt
   have H2 := Lib.hid (H1.out j hlt)
   dsimp only at HC H2
   generalize xs.getD j 0 = p at *
   clear hcell hbl
   have c0 := HC.out 0 _ rfl
   simp only [Nat.mul_one, Nat.add_zero] at c0
   clear HC
   go_wp2_with fail
   have B1 := Lib.hid (Below.refl wr.heap.size wr)
   refine (H2.out _ v1 _ (BL.out.trans (B1.out.mono (by have := BL.out.size; have := HB.out; omega))) (S1.out.step B1.out).p (by have := BL.out.size; have := B1.out.size; have := HB.out; omega) (by rw [List.length_append]; omega)).mono ?_
   rintro e w2 ⟨rfl, v2, h⟩
   have S2 := Lib.hid (show PU base W w2 nb v v2 (l ++ (xs.take (j + 1)).flatMap (u16B)) by rw [FM.out, ← List.append_assoc]; exact (S1.out.step B1.out).trans h)
   clear h S1 H2 FM LN B1 c0
   go_wp2
   go_roundw
   case rel => exact ⟨j + 1, v2, by omega, by go_num, S2.out⟩
   case measure => simp [intOf]; omega
  ·have z1 : ¬ (j : Int) < (xs.length : Int) := by omega
   have S2 := Lib.hid (show PU base W wr nb v v1 (l ++ xs.flatMap (u16B)) by
    have := S1.out
    rw [List.take_of_length_le (by omega)] at this
    exact this)
   clear S1
   go_wp2
   go_end0
   exact ⟨rfl, v1, S2.out⟩
set_option maxRecDepth 100000 in
set_option maxHeartbeats 2000000 in
theorem wlKind (a : Option Addr) (c : Nat) (xs : List (Int × Int × Bool)) (base : Nat) (W : World) (nb : Nat) (v : Value) (l : List Int) (hP : OutP base W nb v l) (hb : base ≤ W.heap.size) (hl : l.length + (xs.flatMap (kindC.wr)).length ≤ 100000) (hn : xs.length ≤ 5000)
  (N : LsM base W a xs.length 3 (fun j => [.int .i64 (xs.getD j (0, 0, false)).1, .int .i64 (xs.getD j (0, 0, false)).2.1, .bool (xs.getD j (0, 0, false)).2.2])) (HX : ElB base W nb xs.length 48 (wrV nb) (fun j => .agg #[.int .i64 (xs.getD j (0, 0, false)).1, .int .i64 (xs.getD j (0, 0, false)).2.1, .bool (xs.getD j (0, 0, false)).2.2]) (fun j => (kindC.wr) (xs.getD j (0, 0, false)))) :
  Calls Tryz.prog 97 #[.slice a xs.length c, .func (.func 48) #[wrV nb] #[]] W fun e W' => e = .returned (.tuple #[]) ∧ ∃ v', PU base W W' nb v v' (l ++ xs.flatMap (kindC.wr)) := by
 have HN := Lib.hid N
 have H1 := Lib.hid HX
 have HP := Lib.hid hP
 have HB := Lib.hid hb
 clear N HX hP hb
 go_enter Tryz.func97, Tryz.ntmps97
 go_wp2
 go_loopw [8] (fun i wr => ∃ (j : Nat) (v' : Value), j ≤ xs.length ∧ i = .int .i64 j ∧ PU base W wr nb v v' (l ++ (xs.take j).flatMap (kindC.wr))) (fun i _ => xs.length - (intOf i).toNat)
 case atStart => exact ⟨0, v, by omega, rfl, by rw [List.take_zero, List.flatMap_nil, List.append_nil]; exact PU.refl HP.out⟩
 case round =>
  obtain ⟨j, v1, hj, rfl, hS⟩ := hrel
  have S1 := Lib.hid hS
  clear hS
  by_cases hlt : j < xs.length
  ·obtain ⟨b, off, rfl, hbl, hcell⟩ := (HN.out.below (S1.out.base HP.out)) (by omega)
   have BL := Lib.hid (S1.out.base HP.out)
   have HC := Lib.hid (hcell j hlt)
   have z0 : (0 : Int) ≤ (j : Int) := by omega
   have z1 : (j : Int) < (xs.length : Int) := by omega
   have FM := Lib.hid (fm_succ (kindC.wr) xs (0, 0, false) hlt)
   have LN := fm_pre (kindC.wr) xs (0, 0, false) hlt
   have H2 := Lib.hid (H1.out j hlt)
   dsimp only at HC H2
   generalize xs.getD j (0, 0, false) = p at *
   clear hcell hbl
   obtain ⟨c0, c1, c2⟩ := And.intro (HC.out 0 _ rfl) (And.intro (HC.out 1 _ rfl) (HC.out 2 _ rfl))
   simp only [Nat.mul_one, Nat.add_zero] at c0 c1 c2
   clear HC
   go_wp2_with fail
   have B1 := Lib.hid ((Below.refl wr.heap.size wr).alloc (Nat.le_refl _) (.cells #[.int .i64 p.1, .int .i64 p.2.1, .bool p.2.2] 94))
   refine (H2.out _ v1 _ (BL.out.trans (B1.out.mono (by have := BL.out.size; have := HB.out; omega))) (S1.out.step B1.out).p (by have := BL.out.size; have := B1.out.size; have := HB.out; omega) (by rw [List.length_append]; omega)).mono ?_
   rintro e w2 ⟨rfl, v2, h⟩
   have S2 := Lib.hid (show PU base W w2 nb v v2 (l ++ (xs.take (j + 1)).flatMap (kindC.wr)) by rw [FM.out, ← List.append_assoc]; exact (S1.out.step B1.out).trans h)
   clear h S1 H2 FM LN B1 c0 c1 c2
   go_wp2
   go_roundw
   case rel => exact ⟨j + 1, v2, by omega, by go_num, S2.out⟩
   case measure => simp [intOf]; omega
  ·have z1 : ¬ (j : Int) < (xs.length : Int) := by omega
   have S2 := Lib.hid (show PU base W wr nb v v1 (l ++ xs.flatMap (kindC.wr)) by
    have := S1.out
    rw [List.take_of_length_le (by omega)] at this
    exact this)
   clear S1
   go_wp2
   go_end0
   exact ⟨rfl, v1, S2.out⟩
set_option maxRecDepth 100000 in
set_option maxHeartbeats 2000000 in
theorem wlV2 (a : Option Addr) (c : Nat) (xs : List (Int × Int)) (base : Nat) (W : World) (nb : Nat) (v : Value) (l : List Int) (hP : OutP base W nb v l) (hb : base ≤ W.heap.size) (hl : l.length + (xs.flatMap (placeC.wr)).length ≤ 100000) (hn : xs.length ≤ 5000)
  (N : LsM base W a xs.length 2 (fun j => [.int .i64 (xs.getD j (0, 0)).1, .int .i64 (xs.getD j (0, 0)).2])) (HX : ElB base W nb xs.length 44 (wrV nb) (fun j => .agg #[.int .i64 (xs.getD j (0, 0)).1, .int .i64 (xs.getD j (0, 0)).2]) (fun j => (placeC.wr) (xs.getD j (0, 0)))) :
  Calls Tryz.prog 99 #[.slice a xs.length c, .func (.func 44) #[wrV nb] #[]] W fun e W' => e = .returned (.tuple #[]) ∧ ∃ v', PU base W W' nb v v' (l ++ xs.flatMap (placeC.wr)) := by
 have HN := Lib.hid N
 have H1 := Lib.hid HX
 have HP := Lib.hid hP
 have HB := Lib.hid hb
 clear N HX hP hb
 go_enter Tryz.func99, Tryz.ntmps99
 go_wp2
 go_loopw [8] (fun i wr => ∃ (j : Nat) (v' : Value), j ≤ xs.length ∧ i = .int .i64 j ∧ PU base W wr nb v v' (l ++ (xs.take j).flatMap (placeC.wr))) (fun i _ => xs.length - (intOf i).toNat)
 case atStart => exact ⟨0, v, by omega, rfl, by rw [List.take_zero, List.flatMap_nil, List.append_nil]; exact PU.refl HP.out⟩
 case round =>
  obtain ⟨j, v1, hj, rfl, hS⟩ := hrel
  have S1 := Lib.hid hS
  clear hS
  by_cases hlt : j < xs.length
  ·obtain ⟨b, off, rfl, hbl, hcell⟩ := (HN.out.below (S1.out.base HP.out)) (by omega)
   have BL := Lib.hid (S1.out.base HP.out)
   have HC := Lib.hid (hcell j hlt)
   have z0 : (0 : Int) ≤ (j : Int) := by omega
   have z1 : (j : Int) < (xs.length : Int) := by omega
   have FM := Lib.hid (fm_succ (placeC.wr) xs (0, 0) hlt)
   have LN := fm_pre (placeC.wr) xs (0, 0) hlt
   have H2 := Lib.hid (H1.out j hlt)
   dsimp only at HC H2
   generalize xs.getD j (0, 0) = p at *
   clear hcell hbl
   obtain ⟨c0, c1⟩ := And.intro (HC.out 0 _ rfl) (HC.out 1 _ rfl)
   simp only [Nat.mul_one, Nat.add_zero] at c0 c1
   clear HC
   go_wp2_with fail
   have B1 := Lib.hid ((Below.refl wr.heap.size wr).alloc (Nat.le_refl _) (.cells #[.int .i64 p.1, .int .i64 p.2] 24))
   refine (H2.out _ v1 _ (BL.out.trans (B1.out.mono (by have := BL.out.size; have := HB.out; omega))) (S1.out.step B1.out).p (by have := BL.out.size; have := B1.out.size; have := HB.out; omega) (by rw [List.length_append]; omega)).mono ?_
   rintro e w2 ⟨rfl, v2, h⟩
   have S2 := Lib.hid (show PU base W w2 nb v v2 (l ++ (xs.take (j + 1)).flatMap (placeC.wr)) by rw [FM.out, ← List.append_assoc]; exact (S1.out.step B1.out).trans h)
   clear h S1 H2 FM LN B1 c0 c1
   go_wp2
   go_roundw
   case rel => exact ⟨j + 1, v2, by omega, by go_num, S2.out⟩
   case measure => simp [intOf]; omega
  ·have z1 : ¬ (j : Int) < (xs.length : Int) := by omega
   have S2 := Lib.hid (show PU base W wr nb v v1 (l ++ xs.flatMap (placeC.wr)) by
    have := S1.out
    rw [List.take_of_length_le (by omega)] at this
    exact this)
   clear S1
   go_wp2
   go_end0
   exact ⟨rfl, v1, S2.out⟩
set_option maxRecDepth 100000 in
set_option maxHeartbeats 2000000 in
theorem wlRl (a : Option Addr) (c : Nat) (xs : List (List (Int × Int))) (ad : Nat → Option Addr × Nat) (base : Nat) (W : World) (nb : Nat) (v : Value) (l : List Int) (hP : OutP base W nb v l) (hb : base ≤ W.heap.size) (hl : l.length + (xs.flatMap (wrL)).length ≤ 100000) (hn : xs.length ≤ 5000)
  (N : LsM base W a xs.length 1 (fun j => [.slice (ad j).1 (xs.getD j []).length (ad j).2])) (HX : ElB base W nb xs.length 51 (wrV nb) (fun j => .slice (ad j).1 (xs.getD j []).length (ad j).2) (fun j => (wrL) (xs.getD j []))) :
  Calls Tryz.prog 100 #[.slice a xs.length c, .func (.func 51) #[wrV nb] #[]] W fun e W' => e = .returned (.tuple #[]) ∧ ∃ v', PU base W W' nb v v' (l ++ xs.flatMap (wrL)) := by
 have HN := Lib.hid N
 have H1 := Lib.hid HX
 have HP := Lib.hid hP
 have HB := Lib.hid hb
 clear N HX hP hb
 go_enter Tryz.func100, Tryz.ntmps100
 go_wp2
 go_loopw [8] (fun i wr => ∃ (j : Nat) (v' : Value), j ≤ xs.length ∧ i = .int .i64 j ∧ PU base W wr nb v v' (l ++ (xs.take j).flatMap (wrL))) (fun i _ => xs.length - (intOf i).toNat)
 case atStart => exact ⟨0, v, by omega, rfl, by rw [List.take_zero, List.flatMap_nil, List.append_nil]; exact PU.refl HP.out⟩
 case round =>
  obtain ⟨j, v1, hj, rfl, hS⟩ := hrel
  have S1 := Lib.hid hS
  clear hS
  by_cases hlt : j < xs.length
  ·obtain ⟨b, off, rfl, hbl, hcell⟩ := (HN.out.below (S1.out.base HP.out)) (by omega)
   have BL := Lib.hid (S1.out.base HP.out)
   have HC := Lib.hid (hcell j hlt)
   have z0 : (0 : Int) ≤ (j : Int) := by omega
   have z1 : (j : Int) < (xs.length : Int) := by omega
   have FM := Lib.hid (fm_succ (wrL) xs [] hlt)
   have LN := fm_pre (wrL) xs [] hlt
   have H2 := Lib.hid (H1.out j hlt)
   dsimp only at HC H2
   generalize xs.getD j [] = p at *
   clear hcell hbl
   have c0 := HC.out 0 _ rfl
   simp only [Nat.mul_one, Nat.add_zero] at c0
   clear HC
   go_wp2_with fail
   have B1 := Lib.hid (Below.refl wr.heap.size wr)
   refine (H2.out _ v1 _ (BL.out.trans (B1.out.mono (by have := BL.out.size; have := HB.out; omega))) (S1.out.step B1.out).p (by have := BL.out.size; have := B1.out.size; have := HB.out; omega) (by rw [List.length_append]; omega)).mono ?_
   rintro e w2 ⟨rfl, v2, h⟩
   have S2 := Lib.hid (show PU base W w2 nb v v2 (l ++ (xs.take (j + 1)).flatMap (wrL)) by rw [FM.out, ← List.append_assoc]; exact (S1.out.step B1.out).trans h)
   clear h S1 H2 FM LN B1 c0
   go_wp2
   go_roundw
   case rel => exact ⟨j + 1, v2, by omega, by go_num, S2.out⟩
   case measure => simp [intOf]; omega
  ·have z1 : ¬ (j : Int) < (xs.length : Int) := by omega
   have S2 := Lib.hid (show PU base W wr nb v v1 (l ++ xs.flatMap (wrL)) by
    have := S1.out
    rw [List.take_of_length_le (by omega)] at this
    exact this)
   clear S1
   go_wp2
   go_end0
   exact ⟨rfl, v1, S2.out⟩
set_option maxRecDepth 100000 in
set_option maxHeartbeats 2000000 in
theorem wlGate (a : Option Addr) (c : Nat) (xs : List ((Int × Int) × (Int × Int) × Bool)) (base : Nat) (W : World) (nb : Nat) (v : Value) (l : List Int) (hP : OutP base W nb v l) (hb : base ≤ W.heap.size) (hl : l.length + (xs.flatMap (gateC.wr)).length ≤ 100000) (hn : xs.length ≤ 5000)
  (N : LsM base W a xs.length 5 (fun j => [.int .i64 (xs.getD j ((0, 0), (0, 0), false)).1.1, .int .i64 (xs.getD j ((0, 0), (0, 0), false)).1.2, .int .i64 (xs.getD j ((0, 0), (0, 0), false)).2.1.1, .int .i64 (xs.getD j ((0, 0), (0, 0), false)).2.1.2, .bool (xs.getD j ((0, 0), (0, 0), false)).2.2])) (HX : ElB base W nb xs.length 53 (wrV nb) (fun j => .agg #[.int .i64 (xs.getD j ((0, 0), (0, 0), false)).1.1, .int .i64 (xs.getD j ((0, 0), (0, 0), false)).1.2, .int .i64 (xs.getD j ((0, 0), (0, 0), false)).2.1.1, .int .i64 (xs.getD j ((0, 0), (0, 0), false)).2.1.2, .bool (xs.getD j ((0, 0), (0, 0), false)).2.2]) (fun j => (gateC.wr) (xs.getD j ((0, 0), (0, 0), false)))) :
  Calls Tryz.prog 101 #[.slice a xs.length c, .func (.func 53) #[wrV nb] #[]] W fun e W' => e = .returned (.tuple #[]) ∧ ∃ v', PU base W W' nb v v' (l ++ xs.flatMap (gateC.wr)) := by
 have HN := Lib.hid N
 have H1 := Lib.hid HX
 have HP := Lib.hid hP
 have HB := Lib.hid hb
 clear N HX hP hb
 go_enter Tryz.func101, Tryz.ntmps101
 go_wp2
 go_loopw [8] (fun i wr => ∃ (j : Nat) (v' : Value), j ≤ xs.length ∧ i = .int .i64 j ∧ PU base W wr nb v v' (l ++ (xs.take j).flatMap (gateC.wr))) (fun i _ => xs.length - (intOf i).toNat)
 case atStart => exact ⟨0, v, by omega, rfl, by rw [List.take_zero, List.flatMap_nil, List.append_nil]; exact PU.refl HP.out⟩
 case round =>
  obtain ⟨j, v1, hj, rfl, hS⟩ := hrel
  have S1 := Lib.hid hS
  clear hS
  by_cases hlt : j < xs.length
  ·obtain ⟨b, off, rfl, hbl, hcell⟩ := (HN.out.below (S1.out.base HP.out)) (by omega)
   have BL := Lib.hid (S1.out.base HP.out)
   have HC := Lib.hid (hcell j hlt)
   have z0 : (0 : Int) ≤ (j : Int) := by omega
   have z1 : (j : Int) < (xs.length : Int) := by omega
   have FM := Lib.hid (fm_succ (gateC.wr) xs ((0, 0), (0, 0), false) hlt)
   have LN := fm_pre (gateC.wr) xs ((0, 0), (0, 0), false) hlt
   have H2 := Lib.hid (H1.out j hlt)
   dsimp only at HC H2
   generalize xs.getD j ((0, 0), (0, 0), false) = p at *
   clear hcell hbl
   obtain ⟨c0, c1, c2, c3, c4⟩ := And.intro (HC.out 0 _ rfl) (And.intro (HC.out 1 _ rfl) (And.intro (HC.out 2 _ rfl) (And.intro (HC.out 3 _ rfl) (HC.out 4 _ rfl))))
   simp only [Nat.mul_one, Nat.add_zero] at c0 c1 c2 c3 c4
   clear HC
   go_wp2_with fail
   have B1 := Lib.hid ((Below.refl wr.heap.size wr).alloc (Nat.le_refl _) (.cells #[.int .i64 p.1.1, .int .i64 p.1.2, .int .i64 p.2.1.1, .int .i64 p.2.1.2, .bool p.2.2] 59))
   refine (H2.out _ v1 _ (BL.out.trans (B1.out.mono (by have := BL.out.size; have := HB.out; omega))) (S1.out.step B1.out).p (by have := BL.out.size; have := B1.out.size; have := HB.out; omega) (by rw [List.length_append]; omega)).mono ?_
   rintro e w2 ⟨rfl, v2, h⟩
   have S2 := Lib.hid (show PU base W w2 nb v v2 (l ++ (xs.take (j + 1)).flatMap (gateC.wr)) by rw [FM.out, ← List.append_assoc]; exact (S1.out.step B1.out).trans h)
   clear h S1 H2 FM LN B1 c0 c1 c2 c3 c4
   go_wp2
   go_roundw
   case rel => exact ⟨j + 1, v2, by omega, by go_num, S2.out⟩
   case measure => simp [intOf]; omega
  ·have z1 : ¬ (j : Int) < (xs.length : Int) := by omega
   have S2 := Lib.hid (show PU base W wr nb v v1 (l ++ xs.flatMap (gateC.wr)) by
    have := S1.out
    rw [List.take_of_length_le (by omega)] at this
    exact this)
   clear S1
   go_wp2
   go_end0
   exact ⟨rfl, v1, S2.out⟩
set_option maxRecDepth 100000 in
set_option maxHeartbeats 2000000 in
theorem wcKind (a : Option Addr) (c : Nat) (xs : List (Int × Int × Bool)) (base : Nat) (W : World) (nb : Nat) (v : Value) (l : List Int) (hP : OutP base W nb v l) (hb : base ≤ W.heap.size) (hl : l.length + (u16B xs.length ++ xs.flatMap (kindC.wr)).length ≤ 100000) (hn : xs.length ≤ 5000)
  (N : LsM base W a xs.length 3 (fun j => [.int .i64 (xs.getD j (0, 0, false)).1, .int .i64 (xs.getD j (0, 0, false)).2.1, .bool (xs.getD j (0, 0, false)).2.2])) (HX : ElB base W nb xs.length 48 (wrV nb) (fun j => .agg #[.int .i64 (xs.getD j (0, 0, false)).1, .int .i64 (xs.getD j (0, 0, false)).2.1, .bool (xs.getD j (0, 0, false)).2.2]) (fun j => (kindC.wr) (xs.getD j (0, 0, false)))) :
  Calls Tryz.prog 47 #[wrV nb, .slice a xs.length c, .func (.func 48) #[wrV nb] #[]] W fun e W' => e = .returned (.tuple #[]) ∧ ∃ v', PU base W W' nb v v' (l ++ (u16B xs.length ++ xs.flatMap (kindC.wr))) := by
 have S0 := Lib.hid (TwP.new1 51 hP hb)
 have X := Lib.hid (pCount (xs.length : Int) (by unfold In64Y; omega))
 rw [List.length_append, u16_len] at hl
 have Y := Lib.hid (fun (W2 : World) (v2 : Value) (P2 : OutP base W2 nb v2 (l ++ u16B xs.length)) (B2 : Below base W W2) => wlKind a c xs base W2 nb v2 _ P2 (by have := B2.size; omega) (by rw [List.length_append, u16_len]; omega) hn (N.below B2) (HX.below B2))
 have HP := Lib.hid hP
 rw [← List.append_assoc]
 show Calls Tryz.prog _ #[.agg #[.pointer (some ⟨nb, 0, none⟩)], .slice a xs.length c, .func (.func 48) #[wrV nb] #[]] W _
 have ul : (u16B xs.length).length = 2 := u16_len _
 generalize xs.flatMap (kindC.wr) = fm at *
 clear hP N HX
 generalize u16B xs.length = uc at *
 generalize xs.length = n at *
 go_enter Tryz.func47, Tryz.ntmps47
 go_wp2_with fail
 refine calls_gen (S := fun Y => TwP base W Y nb v v l W.heap.size W.heap.size [.pointer (some ⟨nb, 0, none⟩)]) S0.out (fun W1 hS => ?_)
 have S1 := Lib.hid hS
 clear hS S0
 refine (X.out base _ nb _ _ S1.out.p.p S1.out.size (by omega)).mono ?_
 rintro e x2 ⟨rfl, v2, h⟩
 have S2 := Lib.hid (S1.out.call h)
 clear h S1
 go_wp2_with fail
 refine (Y.out _ _ S2.out.p.p (S2.out.p.base HP.out)).mono ?_
 rintro e x3 ⟨rfl, v3, h⟩
 have S3 := Lib.hid (S2.out.p.trans h)
 clear h S2
 go_wp2
 go_end0
 exact ⟨rfl, v3, S3.out⟩
set_option maxRecDepth 100000 in
set_option maxHeartbeats 2000000 in
theorem wcV2 (a : Option Addr) (c : Nat) (xs : List (Int × Int)) (base : Nat) (W : World) (nb : Nat) (v : Value) (l : List Int) (hP : OutP base W nb v l) (hb : base ≤ W.heap.size) (hl : l.length + (u16B xs.length ++ xs.flatMap (placeC.wr)).length ≤ 100000) (hn : xs.length ≤ 5000)
  (N : LsM base W a xs.length 2 (fun j => [.int .i64 (xs.getD j (0, 0)).1, .int .i64 (xs.getD j (0, 0)).2])) (HX : ElB base W nb xs.length 44 (wrV nb) (fun j => .agg #[.int .i64 (xs.getD j (0, 0)).1, .int .i64 (xs.getD j (0, 0)).2]) (fun j => (placeC.wr) (xs.getD j (0, 0)))) :
  Calls Tryz.prog 49 #[wrV nb, .slice a xs.length c, .func (.func 44) #[wrV nb] #[]] W fun e W' => e = .returned (.tuple #[]) ∧ ∃ v', PU base W W' nb v v' (l ++ (u16B xs.length ++ xs.flatMap (placeC.wr))) := by
 have S0 := Lib.hid (TwP.new1 51 hP hb)
 have X := Lib.hid (pCount (xs.length : Int) (by unfold In64Y; omega))
 rw [List.length_append, u16_len] at hl
 have Y := Lib.hid (fun (W2 : World) (v2 : Value) (P2 : OutP base W2 nb v2 (l ++ u16B xs.length)) (B2 : Below base W W2) => wlV2 a c xs base W2 nb v2 _ P2 (by have := B2.size; omega) (by rw [List.length_append, u16_len]; omega) hn (N.below B2) (HX.below B2))
 have HP := Lib.hid hP
 rw [← List.append_assoc]
 show Calls Tryz.prog _ #[.agg #[.pointer (some ⟨nb, 0, none⟩)], .slice a xs.length c, .func (.func 44) #[wrV nb] #[]] W _
 have ul : (u16B xs.length).length = 2 := u16_len _
 generalize xs.flatMap (placeC.wr) = fm at *
 clear hP N HX
 generalize u16B xs.length = uc at *
 generalize xs.length = n at *
 go_enter Tryz.func49, Tryz.ntmps49
 go_wp2_with fail
 refine calls_gen (S := fun Y => TwP base W Y nb v v l W.heap.size W.heap.size [.pointer (some ⟨nb, 0, none⟩)]) S0.out (fun W1 hS => ?_)
 have S1 := Lib.hid hS
 clear hS S0
 refine (X.out base _ nb _ _ S1.out.p.p S1.out.size (by omega)).mono ?_
 rintro e x2 ⟨rfl, v2, h⟩
 have S2 := Lib.hid (S1.out.call h)
 clear h S1
 go_wp2_with fail
 refine (Y.out _ _ S2.out.p.p (S2.out.p.base HP.out)).mono ?_
 rintro e x3 ⟨rfl, v3, h⟩
 have S3 := Lib.hid (S2.out.p.trans h)
 clear h S2
 go_wp2
 go_end0
 exact ⟨rfl, v3, S3.out⟩
set_option maxRecDepth 100000 in
set_option maxHeartbeats 2000000 in
theorem wcRl (a : Option Addr) (c : Nat) (xs : List (List (Int × Int))) (ad : Nat → Option Addr × Nat) (base : Nat) (W : World) (nb : Nat) (v : Value) (l : List Int) (hP : OutP base W nb v l) (hb : base ≤ W.heap.size) (hl : l.length + (u16B xs.length ++ xs.flatMap (wrL)).length ≤ 100000) (hn : xs.length ≤ 5000)
  (N : LsM base W a xs.length 1 (fun j => [.slice (ad j).1 (xs.getD j []).length (ad j).2])) (HX : ElB base W nb xs.length 51 (wrV nb) (fun j => .slice (ad j).1 (xs.getD j []).length (ad j).2) (fun j => (wrL) (xs.getD j []))) :
  Calls Tryz.prog 50 #[wrV nb, .slice a xs.length c, .func (.func 51) #[wrV nb] #[]] W fun e W' => e = .returned (.tuple #[]) ∧ ∃ v', PU base W W' nb v v' (l ++ (u16B xs.length ++ xs.flatMap (wrL))) := by
 have S0 := Lib.hid (TwP.new1 51 hP hb)
 have X := Lib.hid (pCount (xs.length : Int) (by unfold In64Y; omega))
 rw [List.length_append, u16_len] at hl
 have Y := Lib.hid (fun (W2 : World) (v2 : Value) (P2 : OutP base W2 nb v2 (l ++ u16B xs.length)) (B2 : Below base W W2) => wlRl a c xs ad base W2 nb v2 _ P2 (by have := B2.size; omega) (by rw [List.length_append, u16_len]; omega) hn (N.below B2) (HX.below B2))
 have HP := Lib.hid hP
 rw [← List.append_assoc]
 show Calls Tryz.prog _ #[.agg #[.pointer (some ⟨nb, 0, none⟩)], .slice a xs.length c, .func (.func 51) #[wrV nb] #[]] W _
 have ul : (u16B xs.length).length = 2 := u16_len _
 generalize xs.flatMap (wrL) = fm at *
 clear hP N HX
 generalize u16B xs.length = uc at *
 generalize xs.length = n at *
 go_enter Tryz.func50, Tryz.ntmps50
 go_wp2_with fail
 refine calls_gen (S := fun Y => TwP base W Y nb v v l W.heap.size W.heap.size [.pointer (some ⟨nb, 0, none⟩)]) S0.out (fun W1 hS => ?_)
 have S1 := Lib.hid hS
 clear hS S0
 refine (X.out base _ nb _ _ S1.out.p.p S1.out.size (by omega)).mono ?_
 rintro e x2 ⟨rfl, v2, h⟩
 have S2 := Lib.hid (S1.out.call h)
 clear h S1
 go_wp2_with fail
 refine (Y.out _ _ S2.out.p.p (S2.out.p.base HP.out)).mono ?_
 rintro e x3 ⟨rfl, v3, h⟩
 have S3 := Lib.hid (S2.out.p.trans h)
 clear h S2
 go_wp2
 go_end0
 exact ⟨rfl, v3, S3.out⟩
set_option maxRecDepth 100000 in
set_option maxHeartbeats 2000000 in
theorem wcGate (a : Option Addr) (c : Nat) (xs : List ((Int × Int) × (Int × Int) × Bool)) (base : Nat) (W : World) (nb : Nat) (v : Value) (l : List Int) (hP : OutP base W nb v l) (hb : base ≤ W.heap.size) (hl : l.length + (u16B xs.length ++ xs.flatMap (gateC.wr)).length ≤ 100000) (hn : xs.length ≤ 5000)
  (N : LsM base W a xs.length 5 (fun j => [.int .i64 (xs.getD j ((0, 0), (0, 0), false)).1.1, .int .i64 (xs.getD j ((0, 0), (0, 0), false)).1.2, .int .i64 (xs.getD j ((0, 0), (0, 0), false)).2.1.1, .int .i64 (xs.getD j ((0, 0), (0, 0), false)).2.1.2, .bool (xs.getD j ((0, 0), (0, 0), false)).2.2])) (HX : ElB base W nb xs.length 53 (wrV nb) (fun j => .agg #[.int .i64 (xs.getD j ((0, 0), (0, 0), false)).1.1, .int .i64 (xs.getD j ((0, 0), (0, 0), false)).1.2, .int .i64 (xs.getD j ((0, 0), (0, 0), false)).2.1.1, .int .i64 (xs.getD j ((0, 0), (0, 0), false)).2.1.2, .bool (xs.getD j ((0, 0), (0, 0), false)).2.2]) (fun j => (gateC.wr) (xs.getD j ((0, 0), (0, 0), false)))) :
  Calls Tryz.prog 52 #[wrV nb, .slice a xs.length c, .func (.func 53) #[wrV nb] #[]] W fun e W' => e = .returned (.tuple #[]) ∧ ∃ v', PU base W W' nb v v' (l ++ (u16B xs.length ++ xs.flatMap (gateC.wr))) := by
 have S0 := Lib.hid (TwP.new1 51 hP hb)
 have X := Lib.hid (pCount (xs.length : Int) (by unfold In64Y; omega))
 rw [List.length_append, u16_len] at hl
 have Y := Lib.hid (fun (W2 : World) (v2 : Value) (P2 : OutP base W2 nb v2 (l ++ u16B xs.length)) (B2 : Below base W W2) => wlGate a c xs base W2 nb v2 _ P2 (by have := B2.size; omega) (by rw [List.length_append, u16_len]; omega) hn (N.below B2) (HX.below B2))
 have HP := Lib.hid hP
 rw [← List.append_assoc]
 show Calls Tryz.prog _ #[.agg #[.pointer (some ⟨nb, 0, none⟩)], .slice a xs.length c, .func (.func 53) #[wrV nb] #[]] W _
 have ul : (u16B xs.length).length = 2 := u16_len _
 generalize xs.flatMap (gateC.wr) = fm at *
 clear hP N HX
 generalize u16B xs.length = uc at *
 generalize xs.length = n at *
 go_enter Tryz.func52, Tryz.ntmps52
 go_wp2_with fail
 refine calls_gen (S := fun Y => TwP base W Y nb v v l W.heap.size W.heap.size [.pointer (some ⟨nb, 0, none⟩)]) S0.out (fun W1 hS => ?_)
 have S1 := Lib.hid hS
 clear hS S0
 refine (X.out base _ nb _ _ S1.out.p.p S1.out.size (by omega)).mono ?_
 rintro e x2 ⟨rfl, v2, h⟩
 have S2 := Lib.hid (S1.out.call h)
 clear h S1
 go_wp2_with fail
 refine (Y.out _ _ S2.out.p.p (S2.out.p.base HP.out)).mono ?_
 rintro e x3 ⟨rfl, v3, h⟩
 have S3 := Lib.hid (S2.out.p.trans h)
 clear h S2
 go_wp2
 go_end0
 exact ⟨rfl, v3, S3.out⟩
theorem ls_dsm {base : Nat} {W : World} {a : Option Addr × Nat} {xs : List (Int × Int)} (D : DsM base W (dsOf a xs)) : LsM base W a.1 xs.length 2 (fun j => [.int .i64 (xs.getD j (0, 0)).1, .int .i64 (xs.getD j (0, 0)).2]) := fun h0 => by
 obtain ⟨b, off, e, hb, hc⟩ := D.at' h0
 refine ⟨b, off, e, hb, fun i hi k u hu => ?_⟩
 obtain ⟨k0, k1⟩ := hc i hi
 match k, hu with
 | 0, hu => rw [Nat.add_zero]; cases hu; exact k0
 | 1, hu => cases hu; exact k1
 | k + 2, hu => simp at hu
theorem el_v2 {base : Nat} {W : World} {nb : Nat} {a : Option Addr × Nat} {xs : List (Int × Int)} (D : DsM base W (dsOf a xs)) : ElB base W nb xs.length 44 (wrV nb) (fun j => .agg #[.int .i64 (xs.getD j (0, 0)).1, .int .i64 (xs.getD j (0, 0)).2]) (fun j => placeC.wr (xs.getD j (0, 0))) :=
 fun j hj Y v1 l1 _ hP hY hl => wPlace (xs.getD j (0, 0)) (D.wf j hj) base Y nb v1 l1 hP hY hl
set_option maxRecDepth 100000 in
set_option maxHeartbeats 1000000 in
theorem wRail (a : Option Addr × Nat) (xs : List (Int × Int)) (base : Nat) (W : World) (nb : Nat) (v : Value) (l : List Int) (hP : OutP base W nb v l) (hb : base ≤ W.heap.size) (hl : l.length + (wrL xs).length ≤ 100000) (hn : xs.length ≤ 5000) (D : DsM base W (dsOf a xs)) :
  Calls Tryz.prog 51 #[wrV nb, .slice a.1 xs.length a.2] W fun e W' => e = .returned (.tuple #[]) ∧ ∃ v', PU base W W' nb v v' (l ++ wrL xs) := by
 have S0 := Lib.hid (TwP.new1 51 hP hb)
 have Y := Lib.hid (fun (W2 : World) (v2 : Value) (P2 : OutP base W2 nb v2 l) (B2 : Below base W W2) => wcV2 a.1 a.2 xs base W2 nb v2 l P2 (by have := B2.size; omega) hl hn ((ls_dsm D).below B2) ((el_v2 D).below B2))
 have HP := Lib.hid hP
 have E := Lib.hid (show u16B xs.length ++ xs.flatMap placeC.wr = wrL xs from rfl)
 rw [E.out] at Y
 show Calls Tryz.prog _ #[.agg #[.pointer (some ⟨nb, 0, none⟩)], .slice a.1 xs.length a.2] W _
 clear hP D E
 generalize wrL xs = fm at *
 obtain ⟨a, c⟩ := a
 dsimp only at Y ⊢
 generalize xs.length = n at *
 go_enter Tryz.func51, Tryz.ntmps51
 go_wp2_with fail
 refine calls_gen (S := fun Y => TwP base W Y nb v v l W.heap.size W.heap.size [.pointer (some ⟨nb, 0, none⟩)]) S0.out (fun W1 hS => ?_)
 have S1 := Lib.hid hS
 clear hS S0
 refine (Y.out _ _ S1.out.p.p (S1.out.p.base HP.out)).mono ?_
 rintro e x3 ⟨rfl, v3, h⟩
 have S3 := Lib.hid (S1.out.p.trans h)
 clear h S1
 go_wp2
 go_end0
 exact ⟨rfl, v3, S3.out⟩
theorem ls_nums {base : Nat} {W : World} {a : Option Addr} {c : Nat} {xs : List Int} (h : Nums base W ⟨a, xs.length, c, fun i => xs.getD i 0⟩) : LsM base W a xs.length 1 (fun j => [.int .i64 (xs.getD j 0)]) := fun h0 => by
 obtain ⟨b, off, e, hb, hc⟩ := h.at' h0
 refine ⟨b, off, e, hb, fun i hi k u hu => ?_⟩
 match k, hu with
 | 0, hu => rw [Nat.mul_one, Nat.add_zero]; cases hu; exact hc i hi
 | k + 1, hu => simp at hu
theorem len15 (p1 p2 p3 p4 p5 p6 p7 p8 p9 p10 p11 p12 p13 p14 p15 : List Int) : (p1 ++ (p2 ++ (p3 ++ (p4 ++ (p5 ++ (p6 ++ (p7 ++ (p8 ++ (p9 ++ (p10 ++ (p11 ++ (p12 ++ (p13 ++ (p14 ++ p15)))))))))))))).length = p1.length + (p2.length + (p3.length + (p4.length + (p5.length + (p6.length + (p7.length + (p8.length + (p9.length + (p10.length + (p11.length + (p12.length + (p13.length + (p14.length + p15.length))))))))))))) := by simp only [List.length_append]
set_option maxRecDepth 100000 in
set_option maxHeartbeats 4000000 in
theorem wTrackG (rate cell cols rows px py sx sy head laps : Int) (ah ag ak al ar ae : Option Addr) (nH nG nK nL nR nT ch cg ck cl cr ce : Nat) (p1 p2 p3 p4 p5 p6 p7 p8 p9 p10 p11 p12 p13 p14 p15 : List Int) (base : Nat) (W : World) (nb : Nat) (v : Value) (hP : OutP base W nb v []) (hb : base ≤ W.heap.size) (o5 : 0 ≤ head ∧ head ≤ 4294967295)
  (hl : p1.length + (p2.length + (p3.length + (p4.length + (p5.length + (p6.length + (p7.length + (p8.length + (p9.length + (p10.length + (p11.length + (p12.length + (p13.length + (p14.length + p15.length))))))))))))) ≤ 100000)
  (h1 : PutBy 41 (fun nb => #[.pointer (some ⟨nb, 0, none⟩), .string chtr]) p1)
  (h2 : PutBy 42 (fun nb => #[.pointer (some ⟨nb, 0, none⟩), .int .i64 rate]) p2)
  (h3 : PutBy 43 (fun nb => #[wrV nb, .int .i64 cell]) p3)
  (h4 : PutBy 42 (fun nb => #[.pointer (some ⟨nb, 0, none⟩), .int .i64 cols]) p4)
  (h5 : PutBy 42 (fun nb => #[.pointer (some ⟨nb, 0, none⟩), .int .i64 rows]) p5)
  (h6 : PutBy 44 (fun nb => #[wrV nb, .agg #[.int .i64 px, .int .i64 py]]) p6)
  (XH : Hid (∀ (Y : World) (v1 : Value) (l1 : List Int), OutP base Y nb v1 l1 → Below base W Y → l1.length + p7.length ≤ 100000 → Calls Tryz.prog 45 #[.slice ah nH ch, .func (.func 43) #[wrV nb] #[]] Y fun e Y' => e = .returned (.tuple #[]) ∧ ∃ v', PU base Y Y' nb v1 v' (l1 ++ p7)))
  (XG : Hid (∀ (Y : World) (v1 : Value) (l1 : List Int), OutP base Y nb v1 l1 → Below base W Y → l1.length + p8.length ≤ 100000 → Calls Tryz.prog 46 #[.slice ag nG cg, .func (.func 42) #[.pointer (some ⟨nb, 0, none⟩)] #[]] Y fun e Y' => e = .returned (.tuple #[]) ∧ ∃ v', PU base Y Y' nb v1 v' (l1 ++ p8)))
  (XK : Hid (∀ (Y : World) (v1 : Value) (l1 : List Int), OutP base Y nb v1 l1 → Below base W Y → l1.length + p9.length ≤ 100000 → Calls Tryz.prog 47 #[wrV nb, .slice ak nK ck, .func (.func 48) #[wrV nb] #[]] Y fun e Y' => e = .returned (.tuple #[]) ∧ ∃ v', PU base Y Y' nb v1 v' (l1 ++ p9)))
  (XL : Hid (∀ (Y : World) (v1 : Value) (l1 : List Int), OutP base Y nb v1 l1 → Below base W Y → l1.length + p10.length ≤ 100000 → Calls Tryz.prog 49 #[wrV nb, .slice al nL cl, .func (.func 44) #[wrV nb] #[]] Y fun e Y' => e = .returned (.tuple #[]) ∧ ∃ v', PU base Y Y' nb v1 v' (l1 ++ p10)))
  (XR : Hid (∀ (Y : World) (v1 : Value) (l1 : List Int), OutP base Y nb v1 l1 → Below base W Y → l1.length + p11.length ≤ 100000 → Calls Tryz.prog 50 #[wrV nb, .slice ar nR cr, .func (.func 51) #[wrV nb] #[]] Y fun e Y' => e = .returned (.tuple #[]) ∧ ∃ v', PU base Y Y' nb v1 v' (l1 ++ p11)))
  (XT : Hid (∀ (Y : World) (v1 : Value) (l1 : List Int), OutP base Y nb v1 l1 → Below base W Y → l1.length + p12.length ≤ 100000 → Calls Tryz.prog 52 #[wrV nb, .slice ae nT ce, .func (.func 53) #[wrV nb] #[]] Y fun e Y' => e = .returned (.tuple #[]) ∧ ∃ v', PU base Y Y' nb v1 v' (l1 ++ p12)))
  (h13 : PutBy 44 (fun nb => #[wrV nb, .agg #[.int .i64 sx, .int .i64 sy]]) p13)
  (h14 : PutBy 54 (fun nb => #[.pointer (some ⟨nb, 0, none⟩), .int .i64 head]) p14)
  (h15 : PutBy 42 (fun nb => #[.pointer (some ⟨nb, 0, none⟩), .int .i64 laps]) p15) :
  Calls Tryz.prog 16 #[wrV nb, .agg #[.int .i64 rate, .int .i64 cell, .int .i64 cols, .int .i64 rows, .int .i64 px, .int .i64 py, .slice ah nH ch, .slice ag nG cg, .slice ak nK ck, .slice al nL cl, .slice ar nR cr, .slice ae nT ce, .int .i64 sx, .int .i64 sy, .int .u32 head, .int .i64 laps]] W fun e W' => e = .returned (.tuple #[]) ∧ ∃ v', PU base W W' nb v v' (p1 ++ (p2 ++ (p3 ++ (p4 ++ (p5 ++ (p6 ++ (p7 ++ (p8 ++ (p9 ++ (p10 ++ (p11 ++ (p12 ++ (p13 ++ (p14 ++ p15)))))))))))))) := by
 have S0 := Lib.hid (TwP.new2 51 34 [.int .i64 rate, .int .i64 cell, .int .i64 cols, .int .i64 rows, .int .i64 px, .int .i64 py, .slice ah nH ch, .slice ag nG cg, .slice ak nK ck, .slice al nL cl, .slice ar nR cr, .slice ae nT ce, .int .i64 sx, .int .i64 sy, .int .u32 head, .int .i64 laps] hP hb)
 have X1 := Lib.hid h1
 have X2 := Lib.hid h2
 have X3 := Lib.hid h3
 have X4 := Lib.hid h4
 have X5 := Lib.hid h5
 have X6 := Lib.hid h6
 have XS := Lib.hid h13
 have XD := Lib.hid h14
 have XP := Lib.hid h15
 have HP := Lib.hid hP
 clear h1 h2 h3 h4 h5 h6 h13 h14 h15 hP
 obtain ⟨h0, h1⟩ := o5
 obtain ⟨u1, w1⟩ := wrap_in' (n := head) (by unfold In64; omega)
 unfold wrV
 show Calls Tryz.prog _ #[.agg #[.pointer (some ⟨nb, 0, none⟩)], .agg #[.int .i64 rate, .int .i64 cell, .int .i64 cols, .int .i64 rows, .int .i64 px, .int .i64 py, .slice ah nH ch, .slice ag nG cg, .slice ak nK ck, .slice al nL cl, .slice ar nR cr, .slice ae nT ce, .int .i64 sx, .int .i64 sy, .int .u32 head, .int .i64 laps]] W _
 go_enter Tryz.func16, Tryz.ntmps16
 go_wp2_with fail
 refine calls_gen (S := fun Y => TwP base W Y nb v v [] W.heap.size (W.heap.size + 1) [.int .i64 rate, .int .i64 cell, .int .i64 cols, .int .i64 rows, .int .i64 px, .int .i64 py, .slice ah nH ch, .slice ag nG cg, .slice ak nK ck, .slice al nL cl, .slice ar nR cr, .slice ae nT ce, .int .i64 sx, .int .i64 sy, .int .u32 head, .int .i64 laps]) S0.out (fun W1 hS => ?_)
 have S1 := Lib.hid hS
 clear hS S0
 refine (X1.out base _ nb _ _ S1.out.p.p S1.out.size (by simp only [List.length_append, List.length_nil]; omega)).mono ?_
 rintro e x2 ⟨rfl, v2, h⟩
 have S2 := Lib.hid (S1.out.call h)
 clear h S1
 clear X1
 have b0 := S2.out.b.c 0 _ rfl
 have c1 := S2.out.c.c 0 _ rfl
 go_wp2_with fail
 clear b0
 (try clear c1)
 (try clear c2)
 refine (X2.out base _ nb _ _ S2.out.p.p S2.out.size (by simp only [List.length_append, List.length_nil]; omega)).mono ?_
 rintro e x3 ⟨rfl, v3, h⟩
 have S3 := Lib.hid (S2.out.call h)
 clear h S2
 clear X2
 have b0 := S3.out.b.c 0 _ rfl
 have c1 := S3.out.c.c 1 _ rfl
 go_wp2_with fail
 clear b0
 (try clear c1)
 (try clear c2)
 refine (X3.out base _ nb _ _ S3.out.p.p S3.out.size (by simp only [List.length_append, List.length_nil]; omega)).mono ?_
 rintro e x4 ⟨rfl, v4, h⟩
 have S4 := Lib.hid (S3.out.call h)
 clear h S3
 clear X3
 have b0 := S4.out.b.c 0 _ rfl
 have c1 := S4.out.c.c 2 _ rfl
 go_wp2_with fail
 clear b0
 (try clear c1)
 (try clear c2)
 refine (X4.out base _ nb _ _ S4.out.p.p S4.out.size (by simp only [List.length_append, List.length_nil]; omega)).mono ?_
 rintro e x5 ⟨rfl, v5, h⟩
 have S5 := Lib.hid (S4.out.call h)
 clear h S4
 clear X4
 have b0 := S5.out.b.c 0 _ rfl
 have c1 := S5.out.c.c 3 _ rfl
 go_wp2_with fail
 clear b0
 (try clear c1)
 (try clear c2)
 refine (X5.out base _ nb _ _ S5.out.p.p S5.out.size (by simp only [List.length_append, List.length_nil]; omega)).mono ?_
 rintro e x6 ⟨rfl, v6, h⟩
 have S6 := Lib.hid (S5.out.call h)
 clear h S5
 clear X5
 have b0 := S6.out.b.c 0 _ rfl
 obtain ⟨c1, c2⟩ := And.intro (S6.out.c.c 4 _ rfl) (S6.out.c.c 5 _ rfl)
 go_wp2_with fail
 clear b0
 (try clear c1)
 (try clear c2)
 refine (X6.out base _ nb _ _ S6.out.p.p S6.out.size (by simp only [List.length_append, List.length_nil]; omega)).mono ?_
 rintro e x7 ⟨rfl, v7, h⟩
 have S7 := Lib.hid (S6.out.call h)
 clear h S6
 clear X6
 have b0 := S7.out.b.c 0 _ rfl
 have c1 := S7.out.c.c 6 _ rfl
 go_wp2_with fail
 clear b0
 (try clear c1)
 (try clear c2)
 refine (XH.out _ _ _ S7.out.p.p (S7.out.p.base HP.out) (by simp only [List.length_append, List.length_nil]; omega)).mono ?_
 rintro e x8 ⟨rfl, v8, h⟩
 have S8 := Lib.hid (S7.out.call h)
 clear h S7 XH
 have b0 := S8.out.b.c 0 _ rfl
 have c1 := S8.out.c.c 7 _ rfl
 go_wp2_with fail
 clear b0
 (try clear c1)
 (try clear c2)
 refine (XG.out _ _ _ S8.out.p.p (S8.out.p.base HP.out) (by simp only [List.length_append, List.length_nil]; omega)).mono ?_
 rintro e x9 ⟨rfl, v9, h⟩
 have S9 := Lib.hid (S8.out.call h)
 clear h S8 XG
 have b0 := S9.out.b.c 0 _ rfl
 have c1 := S9.out.c.c 8 _ rfl
 go_wp2_with fail
 clear b0
 (try clear c1)
 (try clear c2)
 refine (XK.out _ _ _ S9.out.p.p (S9.out.p.base HP.out) (by simp only [List.length_append, List.length_nil]; omega)).mono ?_
 rintro e x10 ⟨rfl, v10, h⟩
 have S10 := Lib.hid (S9.out.call h)
 clear h S9 XK
 have b0 := S10.out.b.c 0 _ rfl
 have c1 := S10.out.c.c 9 _ rfl
 go_wp2_with fail
 clear b0
 (try clear c1)
 (try clear c2)
 refine (XL.out _ _ _ S10.out.p.p (S10.out.p.base HP.out) (by simp only [List.length_append, List.length_nil]; omega)).mono ?_
 rintro e x11 ⟨rfl, v11, h⟩
 have S11 := Lib.hid (S10.out.call h)
 clear h S10 XL
 have b0 := S11.out.b.c 0 _ rfl
 have c1 := S11.out.c.c 10 _ rfl
 go_wp2_with fail
 clear b0
 (try clear c1)
 (try clear c2)
 refine (XR.out _ _ _ S11.out.p.p (S11.out.p.base HP.out) (by simp only [List.length_append, List.length_nil]; omega)).mono ?_
 rintro e x12 ⟨rfl, v12, h⟩
 have S12 := Lib.hid (S11.out.call h)
 clear h S11 XR
 have b0 := S12.out.b.c 0 _ rfl
 have c1 := S12.out.c.c 11 _ rfl
 go_wp2_with fail
 clear b0
 (try clear c1)
 (try clear c2)
 refine (XT.out _ _ _ S12.out.p.p (S12.out.p.base HP.out) (by simp only [List.length_append, List.length_nil]; omega)).mono ?_
 rintro e x13 ⟨rfl, v13, h⟩
 have S13 := Lib.hid (S12.out.call h)
 clear h S12 XT
 have b0 := S13.out.b.c 0 _ rfl
 obtain ⟨c1, c2⟩ := And.intro (S13.out.c.c 12 _ rfl) (S13.out.c.c 13 _ rfl)
 go_wp2_with fail
 clear b0
 (try clear c1)
 (try clear c2)
 refine (XS.out base _ nb _ _ S13.out.p.p S13.out.size (by simp only [List.length_append, List.length_nil]; omega)).mono ?_
 rintro e x14 ⟨rfl, v14, h⟩
 have S14 := Lib.hid (S13.out.call h)
 clear h S13
 have b0 := S14.out.b.c 0 _ rfl
 have c1 := S14.out.c.c 14 _ rfl
 go_wp2_with fail
 clear b0
 (try clear c1)
 (try clear c2)
 refine (XD.out base _ nb _ _ S14.out.p.p S14.out.size (by simp only [List.length_append, List.length_nil]; omega)).mono ?_
 rintro e x15 ⟨rfl, v15, h⟩
 have S15 := Lib.hid (S14.out.call h)
 clear h S14
 have b0 := S15.out.b.c 0 _ rfl
 have c1 := S15.out.c.c 15 _ rfl
 go_wp2_with fail
 clear b0
 (try clear c1)
 (try clear c2)
 refine (XP.out base _ nb _ _ S15.out.p.p S15.out.size (by simp only [List.length_append, List.length_nil]; omega)).mono ?_
 rintro e x16 ⟨rfl, v16, h⟩
 have S16 := Lib.hid (S15.out.call h)
 clear h S15
 have S17 := Lib.hid (show PU base W x16 nb v v16 (p1 ++ (p2 ++ (p3 ++ (p4 ++ (p5 ++ (p6 ++ (p7 ++ (p8 ++ (p9 ++ (p10 ++ (p11 ++ (p12 ++ (p13 ++ (p14 ++ p15)))))))))))))) from by
  have := S16.out.p
  simpa only [List.nil_append, List.append_assoc] using this)
 clear S16
 go_wp2
 go_end0
 exact ⟨rfl, v16, S17.out⟩
set_option maxRecDepth 100000 in
set_option maxHeartbeats 4000000 in
theorem wTrack (a : TAd) (d : TD) (base : Nat) (W : World) (nb : Nat) (v : Value) (hP : OutP base W nb v []) (hb : base ≤ W.heap.size) (O : TOk d) (M : TkM base W (tkA a d)) :
  Calls Tryz.prog 16 #[wrV nb, trkV (tkA a d).t] W fun e W' => e = .returned (.tuple #[]) ∧ ∃ v', PU base W W' nb v v' (trackCod.wr d) := by
 have hl := wr_len O
 obtain ⟨⟨ah, ch⟩, ⟨ag, cg⟩, ⟨ak, ck⟩, ⟨al, cl⟩, ⟨ar, cr⟩, ⟨ae, ce⟩, r⟩ := a
 obtain ⟨rate, cell, cols, rows, ⟨px, py⟩, H, G, K, L, R, T, ⟨sx, sy⟩, head, laps⟩ := d
 have iy : ∀ {n : Int}, 0 ≤ n ∧ n ≤ 100000 → In64Y n := fun h => by unfold In64Y; omega
 have o1 : 60 ≤ rate ∧ rate ≤ 1024 := O.rate
 have o2 : 1 ≤ cols ∧ cols ≤ 64 := O.cols
 have o3 : 1 ≤ rows ∧ rows ≤ 64 := O.rows
 have o4 : 1 ≤ laps ∧ laps ≤ 100 := O.laps
 have o5 : 0 ≤ head ∧ head ≤ 4294967295 := O.head
 have o6 : H.length ≤ 4225 ∧ G.length ≤ 4225 := O.hn
 have o7 : K.length ≤ 8 := O.K.1
 have o8 : L.length ≤ 64 := O.L.1
 have o9 : R.length ≤ 16 := O.R.1
 have o10 : T.length ≤ 16 := O.T.1
 have X1 := Lib.hid (pMark chtr)
 have X2 := Lib.hid (pCount rate (iy (by omega)))
 have X3 := Lib.hid (wNumber cell O.cell)
 have X4 := Lib.hid (pCount cols (iy (by omega)))
 have X5 := Lib.hid (pCount rows (iy (by omega)))
 have X6 := Lib.hid (wPlace (px, py) O.at')
 have XH := Lib.hid (fun (Y : World) (v1 : Value) (l1 : List Int) (P : OutP base Y nb v1 l1) (B : Below base W Y) (h : l1.length + (H.flatMap numC.wr).length ≤ 100000) => wlFx ah ch H base Y nb v1 l1 P (by have := B.size; omega) h (by omega) ((ls_nums M.T.H).below B) (fun j hj Y' v' l' _ P' hY hl' => wNumber (H.getD j 0) (O.H _ (getD_mem 0 hj)) base Y' nb v' l' P' hY hl'))
 have XG := Lib.hid (fun (Y : World) (v1 : Value) (l1 : List Int) (P : OutP base Y nb v1 l1) (B : Below base W Y) (h : l1.length + (G.flatMap u16B).length ≤ 100000) => wlInt ag cg G base Y nb v1 l1 P (by have := B.size; omega) h (by omega) ((ls_nums M.T.G).below B) (fun j hj Y' v' l' _ P' hY hl' => pCount (G.getD j 0) (iy (by have := O.G _ (getD_mem 0 hj); dsimp only at this ⊢; omega)) base Y' nb v' l' P' hY hl'))
 have XK := Lib.hid (fun (Y : World) (v1 : Value) (l1 : List Int) (P : OutP base Y nb v1 l1) (B : Below base W Y) (h : l1.length + (u16B K.length ++ K.flatMap kindC.wr).length ≤ 100000) => wcKind ak ck K base Y nb v1 l1 P (by have := B.size; omega) h (by omega) (LsM.below (fun h0 => by
  obtain ⟨b, off, e, hb, hc⟩ := M.T.k h0
  refine ⟨b, off, e, hb, fun i hi k u hu => ?_⟩
  obtain ⟨k0, k1, k2⟩ := hc i hi
  match k, hu with
  | 0, hu => rw [Nat.add_zero]; cases hu; exact k0
  | 1, hu => cases hu; exact k1
  | 2, hu => cases hu; exact k2
  | k + 3, hu => simp at hu) B) (fun j hj Y' v' l' _ P' hY hl' => wKind (K.getD j (0, 0, false)) (O.K.2 _ (getD_mem _ hj)) base Y' nb v' l' P' hY hl'))
 have XL := Lib.hid (fun (Y : World) (v1 : Value) (l1 : List Int) (P : OutP base Y nb v1 l1) (B : Below base W Y) (h : l1.length + (wrL L).length ≤ 100000) => wcV2 al cl L base Y nb v1 l1 P (by have := B.size; omega) h (by omega) ((ls_dsm (a := (al, cl)) M.L).below B) ((el_v2 (a := (al, cl)) M.L).below B))
 have XR := Lib.hid (fun (Y : World) (v1 : Value) (l1 : List Int) (P : OutP base Y nb v1 l1) (B : Below base W Y) (h : l1.length + (u16B R.length ++ R.flatMap wrL).length ≤ 100000) => wcRl ar cr R r base Y nb v1 l1 P (by have := B.size; omega) h (by omega) (LsM.below (fun h0 => by
  obtain ⟨b, off, e, hb, hc⟩ := M.R h0
  refine ⟨b, off, e, hb, fun i hi k u hu => ?_⟩
  have k0 := hc i hi
  match k, hu with
  | 0, hu => rw [Nat.mul_one, Nat.add_zero]; cases hu; exact k0
  | k + 1, hu => simp at hu) B) (fun j hj Y' v' l' B' P' hY hl' => wRail (r j) (R.getD j []) base Y' nb v' l' P' hY hl' (by have := (O.R.2 _ (getD_mem [] hj)).1; dsimp only at this ⊢; omega) ((M.Rs j hj).keep (B.trans B') (Nat.le_refl _))))
 have XT := Lib.hid (fun (Y : World) (v1 : Value) (l1 : List Int) (P : OutP base Y nb v1 l1) (B : Below base W Y) (h : l1.length + (u16B T.length ++ T.flatMap gateC.wr).length ≤ 100000) => wcGate ae ce T base Y nb v1 l1 P (by have := B.size; omega) h (by omega) (LsM.below (fun h0 => by
  obtain ⟨b, off, e, hb, hc⟩ := M.G h0
  refine ⟨b, off, e, hb, fun i hi k u hu => ?_⟩
  obtain ⟨⟨k0, k1⟩, ⟨k2, k3⟩, k4⟩ := hc i hi
  match k, hu with
  | 0, hu => rw [Nat.add_zero]; cases hu; exact k0
  | 1, hu => cases hu; exact k1
  | 2, hu => cases hu; exact k2
  | 3, hu => cases hu; exact k3
  | 4, hu => cases hu; exact k4
  | k + 5, hu => simp at hu) B) (fun j hj Y' v' l' _ P' hY hl' => wGate (T.getD j ((0, 0), (0, 0), false)) (O.T.2 _ (getD_mem _ hj)) base Y' nb v' l' P' hY hl'))
 have XS := Lib.hid (wPlace (sx, sy) O.s)
 have XD := Lib.hid (pNum head (by unfold In64Y; omega))
 have XP := Lib.hid (pCount laps (iy (by omega)))
 have E : trackCod.wr ⟨rate, cell, cols, rows, (px, py), H, G, K, L, R, T, (sx, sy), head, laps⟩ = markB chtr 4 ++ (u16B rate ++ (numB (tw64 cell) 8 ++ (u16B cols ++ (u16B rows ++ (placeC.wr (px, py) ++ (H.flatMap numC.wr ++ (G.flatMap u16B ++ ((u16B K.length ++ K.flatMap kindC.wr) ++ (wrL L ++ ((u16B R.length ++ R.flatMap wrL) ++ ((u16B T.length ++ T.flatMap gateC.wr) ++ (placeC.wr (sx, sy) ++ (numB (tw64 head) 8 ++ u16B laps))))))))))))) := rfl
 rw [E] at hl ⊢
 rw [len15] at hl
 exact wTrackG rate cell cols rows px py sx sy head laps ah ag ak al ar ae H.length G.length K.length L.length R.length T.length ch cg ck cl cr ce _ _ _ _ _ _ _ _ _ _ _ _ _ _ _ base W nb v hP hb o5 hl X1.out X2.out X3.out X4.out X5.out X6.out XH XG XK XL XR XT XS.out XD.out XP.out
set_option maxRecDepth 100000 in
set_option maxHeartbeats 4000000 in
theorem tioEnc_any (a : TAd) (d : TD) (B : Nat) (w : World) (hB : B ≤ w.heap.size) (few : fewR (tkA a d)) (hh : 0 ≤ d.head ∧ d.head ≤ 4294967295) (hE : ErT w) (K : TkM B w (tkA a d)) :
  Calls Tryz.prog 8 #[trkV (tkA a d).t] w fun e w' => (∃ v, e = .returned (.tuple #[v, .int .i64 (rgtK (tkA a d)).1]) ∧ OB w.heap.size w' v (byC (if (rgtK (tkA a d)).1 = 0 then trackCod.wr d else []))) ∧ Below w.heap.size w w' := by
 have XR := Lib.hid (fun (W : World) (Q : PK w W B w.heap.size (tkA a d)) => tkRight_any (tkA a d) B W Q.bz (hE.step Q.l) few Q.t)
 have XO := Lib.hid (fun (h : (rgtK (tkA a d)).1 = 0) => ok_all (right_ok K hh h))
 have XW := Lib.hid (fun (O : TOk d) (W : World) (nb : Nat) (v : Value) (base : Nat) (P : OutP base W nb v []) (hb : base ≤ W.heap.size) (M : TkM base W (tkA a d)) => wTrack a d base W nb v P hb O M)
 have Q0 := Lib.hid (PK.new 34 K hB)
 have BT := Lib.hid (byt_track d)
 clear K hB few hh hE
 obtain ⟨er, her⟩ : ∃ er, (rgtK (tkA a d)).1 = er := ⟨_, rfl⟩
 rw [her] at XR XO ⊢
 clear her
 obtain ⟨Y, hY⟩ : ∃ Y, (if er = 0 then trackCod.wr d else []) = Y := ⟨_, rfl⟩
 rw [hY]
 have HY := Lib.hid hY
 clear hY
 generalize (rgtK (tkA a d)).2 = e2 at *
 generalize tkA a d = k at *
 unfold trkV at *
 go_enter Tryz.func8, Tryz.ntmps8
 go_wp2_with fail
 refine calls_gen (S := fun W => PK w W B w.heap.size k) Q0.out (fun W1 hS => ?_)
 have Q1 := Lib.hid hS
 clear hS Q0
 refine (XR.out _ Q1.out).mono ?_
 rintro e w2 ⟨rfl, h⟩
 have Q2 := Lib.hid (Q1.out.step h)
 clear h Q1 XR
 by_cases he : er = 0
 rotate_left
 ·have kb : (er == 0) = false := beq_false_of_ne he
  have E := Lib.hid (show [] = Y by rw [← HY.out, if_neg he])
  clear XW XO
  go_wp2
  go_ret2
  exact ⟨⟨_, rfl, by rw [← E.out]; exact OB.nil _ _⟩, Q2.out.l⟩
 have O := Lib.hid (XO.out he)
 have E := Lib.hid (show trackCod.wr d = Y by rw [← HY.out, if_pos he])
 subst he
 clear XO HY
 have Q3 := Lib.hid ((Q2.out.step ((Below.refl _ _).alloc (Nat.le_refl _) (.cells #[.slice none 0 0] 49))).step ((Below.refl _ _).alloc (Nat.le_refl _) (.cells #[.pointer (some ⟨w2.heap.size, 0, none⟩)] 51)))
 have cs := tk_of Q3.out.c
 unfold TKc at cs
 obtain ⟨c00, c01, c02, c03, c04, c05, c06, c07, c08, c09, c10, c11, c12, c13, c14, c15⟩ := cs
 obtain ⟨v0, z1, z2⟩ := oZero w2.heap.size w2 (Nat.le_refl _)
 have P1 := Lib.hid z1
 have VN := Lib.hid z2
 clear z1 z2
 go_wp2_with fail
 clear c00 c01 c02 c03 c04 c05 c06 c07 c08 c09 c10 c11 c12 c13 c14 c15
 refine calls_gen (S := fun Y => (OutP w2.heap.size Y w2.heap.size v0 [] ∧ BW Y (w2.heap.size + 1) [.pointer (some ⟨w2.heap.size, 0, none⟩)]) ∧ Below w2.heap.size w2 Y) ⟨⟨((PU.refl P1.out).step ((Below.refl _ _).alloc (Nat.le_refl _) _)).p, BW.new _ _ [.pointer (some ⟨w2.heap.size, 0, none⟩)] _ (by simp)⟩, by repeat (first | with_reducible refine Below.setCell ?_ (by first | omega | (simp; done) | (simp; omega)) _ | with_reducible refine Below.alloc ?_ (by first | omega | (simp; done) | (simp; omega)) _ | with_reducible refine below_drewN ?_ _ | with_reducible refine Below.drew ?_ | with_reducible exact Below.refl _ _ | with_reducible assumption | with_reducible refine Below.trans ?_ (Below.mono (by assumption) (by first | omega | (simp; done) | (simp; omega))))⟩ (fun W3 hS => ?_)
 have P2 := Lib.hid hS.1.1
 have X2 := Lib.hid hS.1.2
 have B2 := Lib.hid hS.2
 clear hS P1
 refine (XW.out O.out W3 _ v0 w2.heap.size P2.out B2.out.size (tkm_up (Q2.out.t.keep (B2.out.mono (Nat.le_refl _)) Q2.out.bz) Q2.out.bz)).mono ?_
 rintro e w4 ⟨rfl, v4, h⟩
 have H := Lib.hid h
 have LB := Lib.hid (show Below w.heap.size w w4 from Q2.out.l.trans ((B2.out.trans (h.base P2.out)).mono Q2.out.l.size))
 have x0 : w4.cell? ⟨w2.heap.size + 1, 0, none⟩ = some (.pointer (some ⟨w2.heap.size, 0, none⟩)) :=
  (World.cell?_of_block (w := W3) (a := ⟨w2.heap.size + 1, 0, none⟩) (h.k.block (w2.heap.size + 1) X2.out.lt (by omega) (by rw [VN.out]; simp))).trans (X2.out.c 0 _ rfl)
 rw [E.out] at H BT
 clear h XW O X2 P2
 go_wp2_with fail
 refine (oBytes_any _ _ _ _ _ H.out.p BT.out).mono ?_
 rintro e w5 ⟨⟨b, rfl, ho⟩, hb⟩
 have R := Lib.hid (show OB w.heap.size w5 b (byC Y) ∧ Below w.heap.size w w5 from ⟨ho.mono LB.out.size, LB.out.trans (hb.mono LB.out.size)⟩)
 clear ho hb H LB x0
 go_wp2
 go_ret2
 exact ⟨⟨_, rfl, R.out.1⟩, R.out.2⟩
end Go.Proofs.YtmdjnamkbekjkaaGreatDoor

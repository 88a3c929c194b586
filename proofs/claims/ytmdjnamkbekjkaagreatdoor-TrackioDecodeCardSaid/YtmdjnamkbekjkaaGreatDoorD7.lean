/- -/
import Derived.Test.YtmdjnamkbekjkaaGreatDoorB7
import Derived.Test.YtmdjnamkbekjkaaGreatDoorD5
import Derived.Test.YtmdjnamkbekjkaaGreatDoorBj
import Derived.Test.YtmdjnamkbekjkaaGreatDoorD3
import Derived.Test.YtmdjnamkbekjkaaGreatDoorB9
namespace Go.Proofs.YtmdjnamkbekjkaaGreatDoor
open Go.RowKit
set_option linter.unusedVariables false
set_option linter.unusedSimpArgs false
section
abbrev rdV (nb : Nat) : Value := .agg #[.pointer (some ⟨nb, 0, none⟩)]
theorem Mid.tr {base top : Nat} {W W1 W2 : World} (h : Mid base top W W1) (k : Mid base top W1 W2) : Mid base top W W2 :=
 ⟨k.os.trans h.os, k.tape.trans h.tape, k.output.trans h.output, Nat.le_trans h.size k.size, fun j hj ho => (k.block j (Nat.lt_of_lt_of_le hj h.size) ho).trans (h.block j hj ho)⟩
theorem Mid.bl {base top : Nat} {W W' : World} (h : Below W.heap.size W W') : Mid base top W W' := ⟨h.os, h.tape, h.output, h.size, fun j hj _ => h.block j hj⟩
theorem BW.mid {base top : Nat} {W W' : World} {n : Nat} {l : List Value} (k : BW W n l) (h : Mid base top W W') (hn : top ≤ n) : BW W' n l :=
 ⟨fun i v e => (World.cell?_of_block (w := W) (a := ⟨n, i, none⟩) (h.block n k.lt (Or.inr hn))).trans (k.c i v e), fun j => (World.frozen?_of_block (w := W) (a := ⟨n, j, none⟩) (h.block n k.lt (Or.inr hn))).trans (k.f j), Nat.lt_of_lt_of_le k.lt h.size⟩
theorem own_mid {base top lo : Nat} {W W' : World} {e : TypeId} {sz : Nat} {v : Value} {n : Nat} {xs : List Value} (O : W.ownsRow lo e sz v n xs) (h : Mid base top W W') (hl : top ≤ lo) : W'.ownsRow lo e sz v n xs := by
 obtain ⟨h1, h2⟩ := O
 refine ⟨h1, ?_⟩
 rcases h2 with h2 | ⟨g, cap, cur, rfl, hb, hg, hr⟩
 ·exact .inl h2
 ·refine .inr ⟨g, cap, cur, rfl, hb, ?_, hr⟩
  rw [h.block g (by rcases Nat.lt_or_ge g W.heap.size with l | l; exact l; rw [Array.getElem?_eq_none l] at hg; cases hg) (Or.inr (by omega))]
  exact hg
def RdB {α : Type} (c : Cod α) (f : Nat) (args : Nat → Array Value) (val : α → Value) : Prop :=
 ∀ (base top : Nat) (W : World) (nb : Nat) (l : List Int) (s : IS), inTw.P base top W nb l s → Calls Tryz.prog f (args nb) W fun e W' => e = .returned (val (c.rd l s).1) ∧ inTw.P base top W' nb l (c.rd l s).2 ∧ Mid base top W W'
theorem iNumB : RdB numC 122 (fun nb => #[.pointer (some ⟨nb, 0, none⟩)]) (fun n => .int .i64 n) := fun base top W nb l s ⟨a, c, k, h⟩ => iNum_any W h
theorem iCntB (lo hi : Int) (hlo : In64Y lo) (hhi : In64Y hi) : RdB (cntC lo hi) 65 (fun nb => #[.pointer (some ⟨nb, 0, none⟩), .int .i64 lo, .int .i64 hi]) (fun n => .int .i64 n) := fun base top W nb l s ⟨a, c, k, h⟩ => iCount_any lo hi hlo hhi W h
theorem iFlgB : RdB flagC 125 (fun nb => #[.pointer (some ⟨nb, 0, none⟩)]) (fun n => .bool n) := fun base top W nb l s ⟨a, c, k, h⟩ => iFlag_any W h
theorem iMrkB (t : ByteArray) : RdB (markC t) 64 (fun nb => #[.pointer (some ⟨nb, 0, none⟩), .string t]) (fun _ => .tuple #[]) := fun base top W nb l s ⟨a, c, k, h⟩ => iMark_any t W h
structure TrQ (base top : Nat) (w W : World) (nb : Nat) (l : List Int) (s : IS) (bx rb : Nat) (R : List Value) : Prop where
 p : inTw.P base top W nb l s
 m : Mid base top w W
 b : BW W bx [.pointer (some ⟨nb, 0, none⟩)]
 r : BW W rb R
 z : top ≤ w.heap.size ∧ w.heap.size ≤ bx ∧ w.heap.size ≤ rb
theorem inTw_bl {base top : Nat} {W W' : World} {nb : Nat} {l : List Int} {s : IS} (p : inTw.P base top W nb l s) (h : Below W.heap.size W W') : inTw.P base top W' nb l s :=
 inTw.keep p h.size (fun k _ h2 => h.block k (Nat.lt_of_lt_of_le h2 (inTw.top p).2))
theorem TrQ.new1 {base top : Nat} {W : World} {nb : Nat} {l : List Int} {s : IS} (T : TypeId) (p : inTw.P base top W nb l s) : TrQ base top W (W.alloc (.cells #[.pointer (some ⟨nb, 0, none⟩)] T)) nb l s W.heap.size W.heap.size [.pointer (some ⟨nb, 0, none⟩)] := by
 have h1 := (Below.refl W.heap.size W).alloc (Nat.le_refl _) (.cells #[.pointer (some ⟨nb, 0, none⟩)] T)
 exact ⟨inTw_bl p h1, Mid.bl h1, BW.new W _ [.pointer (some ⟨nb, 0, none⟩)] T rfl, BW.new W _ [.pointer (some ⟨nb, 0, none⟩)] T rfl, (inTw.top p).2, Nat.le_refl _, Nat.le_refl _⟩
theorem TrQ.new2 {base top : Nat} {W : World} {nb : Nat} {l : List Int} {s : IS} (T U : TypeId) (R : List Value) (p : inTw.P base top W nb l s) : TrQ base top W ((W.alloc (.cells #[.pointer (some ⟨nb, 0, none⟩)] T)).alloc (.cells R.toArray U)) nb l s W.heap.size (W.heap.size + 1) R := by
 have h1 := (Below.refl W.heap.size W).alloc (Nat.le_refl _) (.cells #[.pointer (some ⟨nb, 0, none⟩)] T)
 have n1 : (W.alloc (.cells #[.pointer (some ⟨nb, 0, none⟩)] T)).heap.size = W.heap.size + 1 := by simp
 have h2 := (Below.refl (W.alloc (.cells #[.pointer (some ⟨nb, 0, none⟩)] T)).heap.size (W.alloc (.cells #[.pointer (some ⟨nb, 0, none⟩)] T))).alloc (Nat.le_refl _) (.cells R.toArray U)
 exact ⟨inTw_bl (inTw_bl p h1) h2, (Mid.bl h1).tr (Mid.bl h2), (BW.new W _ [.pointer (some ⟨nb, 0, none⟩)] T rfl).below h2 (by omega), BW.new _ _ R U n1.symm, (inTw.top p).2, Nat.le_refl _, by omega⟩
theorem TrQ.rd {base top : Nat} {w W W' : World} {nb : Nat} {l : List Int} {s s' : IS} {bx rb : Nat} {R : List Value} (S : TrQ base top w W nb l s bx rb R) (p : inTw.P base top W' nb l s') (m : Mid base top W W') : TrQ base top w W' nb l s' bx rb R := by
 have z := S.z
 exact ⟨p, S.m.tr m, S.b.mid m (by omega), S.r.mid m (by omega), z⟩
theorem TrQ.bl {base top : Nat} {w W W' : World} {nb : Nat} {l : List Int} {s : IS} {bx rb : Nat} {R : List Value} (S : TrQ base top w W nb l s bx rb R) (h : Below W.heap.size W W') : TrQ base top w W' nb l s bx rb R := S.rd (inTw_bl S.p h) (Mid.bl h)
theorem TrQ.held {base top : Nat} {w W : World} {nb : Nat} {l : List Int} {s : IS} {bx rb : Nat} {R : List Value} (S : TrQ base top w W nb l s bx rb R) : W.cell? ⟨bx, 0, none⟩ = some (.pointer (some ⟨nb, 0, none⟩)) := S.b.c 0 _ rfl
theorem TrQ.put {base top : Nat} {w W W' : World} {nb : Nat} {l : List Int} {s : IS} {bx rb : Nat} {R : List Value} (S : TrQ base top w W nb l s bx rb R) (g : W.grownBy W' (some rb)) : inTw.P base top W' nb l s ∧ Mid base top w W' := by
 have z := S.z
 have t := inTw.top S.p
 exact ⟨inTw.keep S.p g.size (fun k _ h2 => g.block k (by omega) (fun e => by injection e with e; omega)), ⟨g.os.trans S.m.os, g.tape.trans S.m.tape, g.output.trans S.m.output, Nat.le_trans S.m.size g.size, fun j hj ho => (g.block j (Nat.lt_of_lt_of_le hj S.m.size) (fun e => by injection e with e; omega)).trans (S.m.block j hj ho)⟩⟩
set_option maxRecDepth 100000 in
theorem rNumber : RdB numC 66 (fun nb => #[rdV nb]) (fun n => .int .i64 n) := by
 intro base top W nb l s hP
 have S0 := Lib.hid (TrQ.new1 66 hP)
 show Calls Tryz.prog _ #[.agg #[.pointer (some ⟨nb, 0, none⟩)]] W _
 have X := Lib.hid iNumB
 clear hP
 go_enter Tryz.func66, Tryz.ntmps66
 go_wp2_with fail
 refine calls_gen (S := fun Y => TrQ base top W Y nb l s W.heap.size W.heap.size [.pointer (some ⟨nb, 0, none⟩)]) S0.out (fun W1 hS => ?_)
 have S1 := Lib.hid hS
 clear hS S0
 refine (X.out base top _ nb l _ S1.out.p).mono ?_
 rintro e x2 ⟨rfl, p2, m2⟩
 have S2 := Lib.hid (S1.out.rd p2 m2)
 clear p2 m2 S1
 go_wp2
 go_ret
 exact ⟨rfl, S2.out.p, S2.out.m⟩
set_option maxRecDepth 100000 in
theorem rCell : RdB (cntC 0 7) 70 (fun nb => #[rdV nb]) (fun n => .int .i64 n) := by
 intro base top W nb l s hP
 have S0 := Lib.hid (TrQ.new1 66 hP)
 show Calls Tryz.prog _ #[.agg #[.pointer (some ⟨nb, 0, none⟩)]] W _
 have X := Lib.hid (iCntB 0 7 (by unfold In64Y; omega) (by unfold In64Y; omega))
 clear hP
 go_enter Tryz.func70, Tryz.ntmps70
 go_wp2_with fail
 refine calls_gen (S := fun Y => TrQ base top W Y nb l s W.heap.size W.heap.size [.pointer (some ⟨nb, 0, none⟩)]) S0.out (fun W1 hS => ?_)
 have S1 := Lib.hid hS
 clear hS S0
 refine (X.out base top _ nb l _ S1.out.p).mono ?_
 rintro e x2 ⟨rfl, p2, m2⟩
 have S2 := Lib.hid (S1.out.rd p2 m2)
 clear p2 m2 S1
 go_wp2
 go_ret
 exact ⟨rfl, S2.out.p, S2.out.m⟩
theorem bind_eqT {α β : Type} {c : Cod α} {d : α → Cod β} {l : List Int} {s s' s'' : IS} {x : α} {y : β} (h1 : c.rd l s = (x, s')) (h2 : (d x).rd l s' = (y, s'')) : (c.bind d).rd l s = ((x, y), s'') := by
 show (((c.rd l s).1, ((d (c.rd l s).1).rd l (c.rd l s).2).1), ((d (c.rd l s).1).rd l (c.rd l s).2).2) = _
 rw [h1]
 dsimp only
 rw [h2]
set_option maxRecDepth 100000 in
set_option maxHeartbeats 1000000 in
theorem rPlace : RdB placeC 67 (fun nb => #[rdV nb]) (fun p => .agg #[.int .i64 p.1, .int .i64 p.2]) := by
 intro base top W nb l s hP
 have S0 := Lib.hid (TrQ.new2 66 24 [.int .i64 0, .int .i64 0] hP)
 have X := Lib.hid rNumber
 have E := Lib.hid (show placeC.rd l s = (((numC.rd l s).1, (numC.rd l (numC.rd l s).2).1), (numC.rd l (numC.rd l s).2).2) from rfl)
 rw [E.out]
 show Calls Tryz.prog _ #[.agg #[.pointer (some ⟨nb, 0, none⟩)]] W _
 clear hP E
 go_enter Tryz.func67, Tryz.ntmps67
 go_wp2_with fail
 refine wp_gen (S := fun Y => TrQ base top W Y nb l s W.heap.size (W.heap.size + 1) [.int .i64 0, .int .i64 0]) S0.out (fun W1 hS => ?_)
 have S1 := Lib.hid (hS.bl (Below.refl _ _).drew)
 clear hS S0
 refine wp_region_held_drew (S := fun Y => Y.cell? ⟨W.heap.size, 0, none⟩ = some (.pointer (some ⟨nb, 0, none⟩))) (by kernel_rfl) S1.out.held (fun hHeld => ?_)
 generalize World.drew _ = w0 at *
 refine tkQ 0 3 hHeld ?_
 (try simp only [putA, putB, putC, putD])
 refine tkQ 2 5 hHeld ?_
 (try simp only [putA, putB, putC, putD])
 refine onlD 1 (fun K hK => ?_)
 go_simp
 refine (X.out base top _ nb l _ S1.out.p).mono ?_
 rintro e x2 ⟨rfl, p2, m2⟩
 have S2 := Lib.hid (S1.out.rd p2 m2)
 clear p2 m2 S1
 go_wp2_with fail
 refine hK.out _ _ (S2.out.held) ?_
 clear hK K hHeld
 intro hHeld
 refine onlD 3 (fun K hK => ?_)
 go_simp
 refine (X.out base top _ nb l _ S2.out.p).mono ?_
 rintro e x3 ⟨rfl, p3, m3⟩
 have S3 := Lib.hid (S2.out.rd p3 m3)
 clear p3 m3 S2
 go_wp2_with fail
 refine hK.out _ _ (S3.out.held) ?_
 clear hK K hHeld
 intro hHeld
 refine tkQ 4 7 hHeld ?_
 (try simp only [putA, putB, putC, putD])
 have r0 := S3.out.r.c 0 _ rfl
 have r1 := S3.out.r.c 1 _ rfl
 have rf := S3.out.r.f
 have rl := S3.out.r.lt
 have hne : W.heap.size + 1 ≠ W.heap.size := by omega
 refine onlD 5 (fun K hK => ?_)
 go_simp
 refine hK.out _ _ (by go_simp) ?_
 clear hK K hHeld
 intro hHeld
 refine wpAnyH_done (by kernel_rfl) ?_ _
 clear hHeld
 go_wp2
 have G := (grown_cell x3 (W.heap.size + 1) 0 (.int .i64 (numC.rd l s).1)).trans (grown_cell _ (W.heap.size + 1) 1 (.int .i64 (numC.rd l (numC.rd l s).2).1))
 exact bodyPost_ret (v := .agg #[.int .i64 (numC.rd l s).1, .int .i64 (numC.rd l (numC.rd l s).2).1]) (by simp [results, Tryz.results67, go_sem, r0, r1, World.cell?_setCell_same]) rfl ⟨rfl, S3.out.put G⟩
set_option maxRecDepth 100000 in
set_option maxHeartbeats 1000000 in
theorem rKind : RdB kindC 72 (fun nb => #[rdV nb]) (fun p => .agg #[.int .i64 p.1, .int .i64 p.2.1, .bool p.2.2]) := by
 intro base top W nb l s hP
 have S0 := Lib.hid (TrQ.new2 66 94 [.int .i64 0, .int .i64 0, .bool false] hP)
 have X := Lib.hid rNumber
 have Z := Lib.hid iFlgB
 obtain ⟨⟨a, s1⟩, e1⟩ : ∃ q, numC.rd l s = q := ⟨_, rfl⟩
 obtain ⟨⟨b, s2⟩, e2⟩ : ∃ q, numC.rd l s1 = q := ⟨_, rfl⟩
 obtain ⟨⟨f, s3⟩, e3⟩ : ∃ q, flagC.rd l s2 = q := ⟨_, rfl⟩
 rw [bind_eqT (d := fun _ => _) e1 (bind_eqT (d := fun _ => flagC) e2 e3)]
 have E1 := Lib.hid e1
 have E2 := Lib.hid e2
 have E3 := Lib.hid e3
 show Calls Tryz.prog _ #[.agg #[.pointer (some ⟨nb, 0, none⟩)]] W _
 clear hP e1 e2 e3
 dsimp only
 go_enter Tryz.func72, Tryz.ntmps72
 go_wp2_with fail
 refine wp_gen (S := fun Y => TrQ base top W Y nb l s W.heap.size (W.heap.size + 1) [.int .i64 0, .int .i64 0, .bool false]) S0.out (fun W1 hS => ?_)
 have S1 := Lib.hid (hS.bl (Below.refl _ _).drew)
 clear hS S0
 refine wp_region_held_drew (S := fun Y => Y.cell? ⟨W.heap.size, 0, none⟩ = some (.pointer (some ⟨nb, 0, none⟩))) (by kernel_rfl) S1.out.held (fun hHeld => ?_)
 generalize World.drew _ = w0 at *
 refine tkQ 0 3 hHeld ?_
 (try simp only [putA, putB, putC, putD])
 refine tkQ 2 5 hHeld ?_
 (try simp only [putA, putB, putC, putD])
 refine tkQ 4 7 hHeld ?_
 (try simp only [putA, putB, putC, putD])
 refine tkQ 5 8 hHeld ?_
 (try simp only [putA, putB, putC, putD])
 refine onlD 1 (fun K hK => ?_)
 go_simp
 have XE := X.out base top _ nb l _ S1.out.p
 rw [E1.out] at XE
 refine XE.mono ?_
 clear XE
 rintro e x2 ⟨rfl, p2, m2⟩
 have S2 := Lib.hid (S1.out.rd p2 m2)
 clear p2 m2 S1
 go_wp2_with fail
 refine hK.out _ _ (S2.out.held) ?_
 clear hK K hHeld
 intro hHeld
 refine onlD 3 (fun K hK => ?_)
 go_simp
 have XE := X.out base top _ nb l _ S2.out.p
 rw [E2.out] at XE
 refine XE.mono ?_
 clear XE
 rintro e x3 ⟨rfl, p3, m3⟩
 have S3 := Lib.hid (S2.out.rd p3 m3)
 clear p3 m3 S2
 go_wp2_with fail
 refine hK.out _ _ (S3.out.held) ?_
 clear hK K hHeld
 intro hHeld
 refine onlD 6 (fun K hK => ?_)
 go_simp
 have XE := Z.out base top _ nb l _ S3.out.p
 rw [E3.out] at XE
 refine XE.mono ?_
 clear XE
 rintro e x4 ⟨rfl, p4, m4⟩
 have S4 := Lib.hid (S3.out.rd p4 m4)
 clear p4 m4 S3
 go_wp2_with fail
 refine hK.out _ _ (S4.out.held) ?_
 clear hK K hHeld
 intro hHeld
 refine tkQ 7 10 hHeld ?_
 (try simp only [putA, putB, putC, putD])
 have r2 := S4.out.r.c 2 _ rfl
 have r0 := S4.out.r.c 0 _ rfl
 have r1 := S4.out.r.c 1 _ rfl
 have rf := S4.out.r.f
 have rl := S4.out.r.lt
 have hne : W.heap.size + 1 ≠ W.heap.size := by omega
 refine onlD 8 (fun K hK => ?_)
 go_simp
 refine hK.out _ _ (by go_simp) ?_
 clear hK K hHeld
 intro hHeld
 refine wpAnyH_done (by kernel_rfl) ?_ _
 clear hHeld
 go_wp2
 have G := ((grown_cell x4 (W.heap.size + 1) 0 (.int .i64 a)).trans (grown_cell _ (W.heap.size + 1) 1 (.int .i64 b))).trans (grown_cell _ (W.heap.size + 1) 2 (.bool f))
 exact bodyPost_ret (v := .agg #[.int .i64 a, .int .i64 b, .bool f]) (by simp [results, Tryz.results72, go_sem, r0, r1, r2, World.cell?_setCell_same]) rfl ⟨rfl, S4.out.put G⟩
set_option maxRecDepth 100000 in
set_option maxHeartbeats 1000000 in
theorem rGate : RdB gateC 77 (fun nb => #[rdV nb]) (fun p => .agg #[.int .i64 p.1.1, .int .i64 p.1.2, .int .i64 p.2.1.1, .int .i64 p.2.1.2, .bool p.2.2]) := by
 intro base top W nb l s hP
 have S0 := Lib.hid (TrQ.new2 66 59 [.int .i64 0, .int .i64 0, .int .i64 0, .int .i64 0, .bool false] hP)
 have X := Lib.hid rPlace
 have Z := Lib.hid iFlgB
 obtain ⟨⟨⟨a, a'⟩, s1⟩, e1⟩ : ∃ q, placeC.rd l s = q := ⟨_, rfl⟩
 obtain ⟨⟨⟨b, b'⟩, s2⟩, e2⟩ : ∃ q, placeC.rd l s1 = q := ⟨_, rfl⟩
 obtain ⟨⟨f, s3⟩, e3⟩ : ∃ q, flagC.rd l s2 = q := ⟨_, rfl⟩
 rw [bind_eqT (d := fun _ => _) e1 (bind_eqT (d := fun _ => flagC) e2 e3)]
 have E1 := Lib.hid e1
 have E2 := Lib.hid e2
 have E3 := Lib.hid e3
 show Calls Tryz.prog _ #[.agg #[.pointer (some ⟨nb, 0, none⟩)]] W _
 clear hP e1 e2 e3
 dsimp only
 go_enter Tryz.func77, Tryz.ntmps77
 go_wp2_with fail
 refine wp_gen (S := fun Y => TrQ base top W Y nb l s W.heap.size (W.heap.size + 1) [.int .i64 0, .int .i64 0, .int .i64 0, .int .i64 0, .bool false]) S0.out (fun W1 hS => ?_)
 have S1 := Lib.hid (hS.bl (Below.refl _ _).drew)
 clear hS S0
 refine wp_region_held_drew (S := fun Y => Y.cell? ⟨W.heap.size, 0, none⟩ = some (.pointer (some ⟨nb, 0, none⟩))) (by kernel_rfl) S1.out.held (fun hHeld => ?_)
 generalize World.drew _ = w0 at *
 refine tkQ 0 3 hHeld ?_
 (try simp only [putA, putB, putC, putD])
 refine tkQ 2 5 hHeld ?_
 (try simp only [putA, putB, putC, putD])
 refine tkQ 4 7 hHeld ?_
 (try simp only [putA, putB, putC, putD])
 refine tkQ 5 8 hHeld ?_
 (try simp only [putA, putB, putC, putD])
 refine onlD 1 (fun K hK => ?_)
 go_simp
 have XE := X.out base top _ nb l _ S1.out.p
 rw [E1.out] at XE
 refine XE.mono ?_
 clear XE
 rintro e x2 ⟨rfl, p2, m2⟩
 have S2 := Lib.hid (S1.out.rd p2 m2)
 clear p2 m2 S1
 go_wp2_with fail
 refine hK.out _ _ (S2.out.held) ?_
 clear hK K hHeld
 intro hHeld
 refine onlD 3 (fun K hK => ?_)
 go_simp
 have XE := X.out base top _ nb l _ S2.out.p
 rw [E2.out] at XE
 refine XE.mono ?_
 clear XE
 rintro e x3 ⟨rfl, p3, m3⟩
 have S3 := Lib.hid (S2.out.rd p3 m3)
 clear p3 m3 S2
 go_wp2_with fail
 refine hK.out _ _ (S3.out.held) ?_
 clear hK K hHeld
 intro hHeld
 refine onlD 6 (fun K hK => ?_)
 go_simp
 have XE := Z.out base top _ nb l _ S3.out.p
 rw [E3.out] at XE
 refine XE.mono ?_
 clear XE
 rintro e x4 ⟨rfl, p4, m4⟩
 have S4 := Lib.hid (S3.out.rd p4 m4)
 clear p4 m4 S3
 go_wp2_with fail
 refine hK.out _ _ (S4.out.held) ?_
 clear hK K hHeld
 intro hHeld
 refine tkQ 7 10 hHeld ?_
 (try simp only [putA, putB, putC, putD])
 have r2 := S4.out.r.c 2 _ rfl
 have r3 := S4.out.r.c 3 _ rfl
 have r4 := S4.out.r.c 4 _ rfl
 have r0 := S4.out.r.c 0 _ rfl
 have r1 := S4.out.r.c 1 _ rfl
 have rf := S4.out.r.f
 have rl := S4.out.r.lt
 have hne : W.heap.size + 1 ≠ W.heap.size := by omega
 refine onlD 8 (fun K hK => ?_)
 go_simp
 refine hK.out _ _ (by go_simp) ?_
 clear hK K hHeld
 intro hHeld
 refine wpAnyH_done (by kernel_rfl) ?_ _
 clear hHeld
 go_wp2
 have G := ((((grown_cell x4 (W.heap.size + 1) 0 (.int .i64 a)).trans (grown_cell _ (W.heap.size + 1) 1 (.int .i64 a'))).trans (grown_cell _ (W.heap.size + 1) 2 (.int .i64 b))).trans (grown_cell _ (W.heap.size + 1) 3 (.int .i64 b'))).trans (grown_cell _ (W.heap.size + 1) 4 (.bool f))
 exact bodyPost_ret (v := .agg #[.int .i64 a, .int .i64 a', .int .i64 b, .int .i64 b', .bool f]) (by simp [results, Tryz.results77, go_sem, r0, r1, r2, r3, r4, World.cell?_setCell_same]) rfl ⟨rfl, S4.out.put G⟩
variable {base top nb c k : Nat} {a : Option Addr} {l : List Int} {s : IS}
set_option maxRecDepth 100000 in
set_option maxHeartbeats 1000000 in
theorem iNumK_any (w : World) (h : IQ base top w nb a c k l s) : Calls Tryz.prog 122 #[.pointer (some ⟨nb, 0, none⟩)] w fun en w' => en = .returned (.int .i64 (numV l s)) ∧ (∃ k', IQ base top w' nb a c k' l (wordS l.length 8 s) ∧ (wordOk l.length 8 s → k' = s.pos)) ∧ Mid base top w w' := by
 rw [numV_take]
 have HM := Lib.hid (fun (w' : World) (g : w.grownBy w' (some nb)) => h.mid g)
 go_enter Tryz.func122, Tryz.ntmps122
 have X := Lib.hid (iWord_any 8 w (by omega) h)
 have LN := takeL_len l 8 s
 clear h
 go_wp2_with fail
 refine X.out.mono ?_
 rintro en w1 ⟨k1, hk1, ⟨a1, c1, rfl, h1, h2, h3, h4⟩, h5, h6⟩
 have H5 := Lib.hid (And.intro hk1 (And.intro h5 h6))
 have WH := Lib.hid (iWhole_any a1 _ c1 _ w1 h1 (by omega))
 clear hk1 h1 h2 h3 h4 h5 h6 X LN
 go_wp2_with fail
 refine WH.out.mono ?_
 rintro en w2 ⟨rfl, rfl⟩
 clear WH
 go_wp2
 go_ret
 exact ⟨rfl, ⟨_, H5.out.2.1, H5.out.1⟩, HM.out _ H5.out.2.2⟩
set_option maxRecDepth 100000 in
set_option maxHeartbeats 1000000 in
theorem rAngle : RdB headC 78 (fun nb => #[rdV nb]) (fun n => .int .u32 n) := by
 intro base top W nb l s hP
 have S0 := Lib.hid (TrQ.new1 66 hP)
 show Calls Tryz.prog _ #[.agg #[.pointer (some ⟨nb, 0, none⟩)]] W fun e W' => e = .returned (.int .u32 (numV l s % 4294967296)) ∧ inTw.P base top W' nb l (headS l s) ∧ Mid base top W W'
 have NV : -9223372036854775808 ≤ numV l s ∧ numV l s ≤ 9223372036854775807 := by unfold numV wrap64; split <;> omega
 have NO := Lib.hid (fun (h : ¬ wordOk l.length 8 s) => show numV l s = 0 from if_neg h)
 have WD := Lib.hid (fun (h : wordOk l.length 8 s) => show (wordS l.length 8 s).last = s.pos by rw [wordS_ok h])
 have HS := Lib.hid (show headS l s = if numV l s < 0 ∨ 4294967295 < numV l s then failS 40 (wordS l.length 8 s).last (wordS l.length 8 s) else wordS l.length 8 s from rfl)
 have HX := Lib.hid (fun (Y : World) (a : Option Addr) (c k : Nat) (h : IQ base top Y nb a c k l s) => iNumK_any Y h)
 have HU := IntKind.wrap_u32 (numV l s)
 generalize headS l s = s2 at *
 generalize wordS l.length 8 s = s1 at *
 generalize numV l s = n at *
 obtain ⟨n0, n1⟩ := NV
 clear hP
 go_enter Tryz.func78, Tryz.ntmps78
 go_wp2_with fail
 refine calls_gen (S := fun Y => TrQ base top W Y nb l s W.heap.size W.heap.size [.pointer (some ⟨nb, 0, none⟩)]) S0.out (fun W1 hS => ?_)
 have S1 := Lib.hid hS
 clear hS S0
 obtain ⟨a, c, k, hq⟩ := S1.out.p
 refine (HX.out _ a c k hq).mono ?_
 rintro e x2 ⟨rfl, ⟨k2, q2, hk⟩, m2⟩
 have S2 := Lib.hid (S1.out.rd ⟨a, c, k2, q2⟩ m2)
 have Q2 := Lib.hid (And.intro q2 hk)
 clear hq q2 hk m2 S1 HX
 have b0 := S2.out.held
 have HR := Lib.hid (fun (h : n < 0 ∨ 4294967295 < n) => show k2 = s1.last from by
  rcases Classical.em (wordOk l.length 8 s) with ok | ok
  ·rw [WD.out ok]; exact Q2.out.2 ok
  ·have := NO.out ok; omega)
 clear WD NO
 by_cases c1 : n < 0
 ·have E := Lib.hid (show failS 40 k2 s1 = s2 by rw [HS.out, if_pos (Or.inl c1), HR.out (Or.inl c1)])
  clear HS HR
  go_wp2_with fail
  refine (iRefuse_any 40 (by omega) _ Q2.out.1).mono ?_
  rintro e x3 ⟨rfl, q3, g3⟩
  have R := Lib.hid (show inTw.P base top x3 nb l s2 ∧ Mid base top W x3 from ⟨⟨a, c, k2, by rw [← E.out]; exact q3⟩, S2.out.m.tr (Q2.out.1.mid g3)⟩)
  clear q3 g3 Q2 S2 E
  go_wp2
  go_ret
  exact ⟨by first | rfl | (rw [HU]; done) | (simp [HU]; done), R.out⟩
 ·by_cases c2 : 4294967295 < n
  ·have E := Lib.hid (show failS 40 k2 s1 = s2 by rw [HS.out, if_pos (Or.inr c2), HR.out (Or.inr c2)])
   clear HS HR
   go_wp2_with fail
   refine (iRefuse_any 40 (by omega) _ Q2.out.1).mono ?_
   rintro e x3 ⟨rfl, q3, g3⟩
   have R := Lib.hid (show inTw.P base top x3 nb l s2 ∧ Mid base top W x3 from ⟨⟨a, c, k2, by rw [← E.out]; exact q3⟩, S2.out.m.tr (Q2.out.1.mid g3)⟩)
   clear q3 g3 Q2 S2 E
   go_wp2
   go_ret
   exact ⟨by first | rfl | (rw [HU]; done) | (simp [HU]; done), R.out⟩
  ·have E := Lib.hid (show s1 = s2 by rw [HS.out, if_neg (by omega)])
   clear HS HR Q2
   go_wp2
   go_ret
   exact ⟨by first | rfl | (rw [HU]; done) | (simp [HU]; done) | (congr 1; omega), by rw [← E.out]; exact S2.out.p, S2.out.m⟩
end
theorem gateInfoT : (Tryz.prog.info? 59).map (fun i => (i.zero, i.size, i.bytes)) = some (some (.agg #[.int .i64 0, .int .i64 0, .int .i64 0, .int .i64 0, .bool false]), 5, 40) := by kernel_rfl
def lenV : Value → Nat
 | .slice _ n _ => n
 | _ => 0
theorem own_mono {W : World} {lo lo' : Nat} {e : TypeId} {sz : Nat} {v : Value} {n : Nat} {xs : List Value} (O : W.ownsRow lo e sz v n xs) (h : lo' ≤ lo) : W.ownsRow lo' e sz v n xs := by
 obtain ⟨h1, h2⟩ := O
 refine ⟨h1, ?_⟩
 rcases h2 with h2 | ⟨g, cap, cur, rfl, hb, hr⟩
 ·exact .inl h2
 ·exact .inr ⟨g, cap, cur, rfl, Nat.le_trans h hb, hr⟩
theorem TrQ.app {base top : Nat} {w W W' : World} {nb : Nat} {l : List Int} {s : IS} {bx rb lo : Nat} {R : List Value} {e : TypeId} {sz : Nat} {v : Value} {n : Nat} {xs : List Value} (S : TrQ base top w W nb l s bx rb R) (O : W.ownsRow lo e sz v n xs) (g : W.grownBy W' v.ownBlock) (h : bx < lo ∧ rb < lo) : TrQ base top w W' nb l s bx rb R := by
 have z := S.z
 have t := inTw.top S.p
 have lo' : ∀ k, v.ownBlock = some k → lo ≤ k := fun k e => (O.lt k e).1
 exact ⟨inTw.keep S.p g.size (fun k _ h2 => g.block k (by omega) (fun e => by have := lo' k e.symm; omega)), ⟨g.os.trans S.m.os, g.tape.trans S.m.tape, g.output.trans S.m.output, Nat.le_trans S.m.size g.size, fun j hj ho => (g.block j (Nat.lt_of_lt_of_le hj S.m.size) (fun e => by have := lo' j e.symm; omega)).trans (S.m.block j hj ho)⟩, S.b.grown g (fun e => by have := lo' bx e.symm; omega), S.r.grown g (fun e => by have := lo' rb e.symm; omega), z⟩
def LstR {α : Type} (T : TypeId) (sz : Nat) (pv : List α → List Value) (base top : Nat) (W : World) (nb : Nat) (l : List Int) (r : List α × IS) (e : Ending) (W' : World) : Prop :=
 (∃ v, e = .returned v ∧ W'.ownsRow (W.heap.size + 1) T sz v r.1.length (pv r.1)) ∧ inTw.P base top W' nb l r.2 ∧ Mid base top W W'
set_option maxRecDepth 100000 in
set_option maxHeartbeats 4000000 in
theorem rqFx (N : Nat) (hN : N ≤ 5000) (base top : Nat) (W : World) (nb : Nat) (l : List Int) (s : IS) (hP : inTw.P base top W nb l s) :
  Calls Tryz.prog 68 #[rdV nb, .int .i64 N, .func (.func 66) #[rdV nb] #[]] W (LstR 22 1 inV base top W nb l (repR (numC.rd l) N s)) := by
 have S0 := Lib.hid (TrQ.new1 66 hP)
 have X := Lib.hid rNumber
 obtain ⟨R, hR⟩ : ∃ R, repR (numC.rd l) N s = R := ⟨_, rfl⟩
 rw [hR]
 have HR := Lib.hid hR
 unfold LstR
 show Calls Tryz.prog _ #[.agg #[.pointer (some ⟨nb, 0, none⟩)], .int .i64 N, .func (.func 66) #[.agg #[.pointer (some ⟨nb, 0, none⟩)]] #[]] W _
 have tt := (inTw.top hP).2
 clear hR hP
 obtain ⟨i0, hi0, hz0, hz1, hz2⟩ := info_parts fxInfoX
 go_enter Tryz.func68, Tryz.ntmps68
 go_wp2_with fail
 refine wp_gen (S := fun Y => TrQ base top W Y nb l s W.heap.size W.heap.size [.pointer (some ⟨nb, 0, none⟩)]) S0.out (fun W1 hS => ?_)
 have S1 := Lib.hid hS
 clear hS S0
 go_wp2
 go_loopw [7] (fun v wr => ∃ (xs : List Int) (sj : IS), xs.length ≤ N ∧ (xs ++ (repR (numC.rd l) (N - xs.length) sj).1, (repR (numC.rd l) (N - xs.length) sj).2) = R ∧ TrQ base top W wr nb l sj W.heap.size W.heap.size [.pointer (some ⟨nb, 0, none⟩)] ∧ wr.ownsRow (W.heap.size + 1) 22 1 v xs.length (inV xs)) (fun v _ => N - lenV v)
 case atStart => exact ⟨[], s, by simp, HR.out, S1.out, World.ownsRow_nil _ _ _ _⟩
 case round =>
  obtain ⟨xs, sj, hx, hRR, hS, hO⟩ := hrel
  have S2 := Lib.hid hS
  have O2 := Lib.hid hO
  have RR := Lib.hid hRR
  obtain ⟨aa, cc, rfl, -, -, -⟩ := lies_owned hO
  clear hS hO hRR S1 HR
  have b0 := S2.out.b.c 0 _ rfl
  by_cases hlt : xs.length < N
  ·have z1 : (xs.length : Int) < (N : Int) := by omega
   go_wp2_with fail
   obtain ⟨qa, qc, qk, hq⟩ := S2.out.p
   refine (iGood_any _ hq).mono ?_
   rintro e w2 ⟨rfl, rfl⟩
   clear hq
   by_cases he : sj.err = 0
   ·have kb : (sj.err == 0) = true := by rw [he]; rfl
    have RQ := Lib.hid (show ((xs ++ [(numC.rd l sj).1]) ++ (repR (numC.rd l) (N - (xs ++ [(numC.rd l sj).1]).length) (numC.rd l sj).2).1, (repR (numC.rd l) (N - (xs ++ [(numC.rd l sj).1]).length) (numC.rd l sj).2).2) = R by
     rw [List.length_append]
     exact rep_next hlt he rfl RR.out)
    have XP := Lib.hid (fun (Y : World) (P : inTw.P base top Y nb l sj) => X.out base top Y nb l sj P)
    generalize numC.rd l sj = q at *
    obtain ⟨p, sq⟩ := q
    dsimp only at XP RQ
    skip
    clear RR he b0
    go_wp2_with fail
    refine (XP.out _ S2.out.p).mono ?_
    rintro e w3 ⟨rfl, p3, m3⟩
    have S3 := Lib.hid (S2.out.rd p3 m3)
    have O3 := Lib.hid (own_mid O2.out m3 (by omega))
    clear p3 m3 S2 O2 XP
    have B3 := (Below.refl w3.heap.size w3).alloc (Nat.le_refl _) (.cells #[Value.int .i64 p] 22)
    have S4 := Lib.hid (S3.out.bl B3)
    have O4 := Lib.hid (own_below O3.out B3)
    have zz := S3.out.m.size
    clear B3
    go_wp2_with (at_builtin; refine wpList_append_lies _ rfl (.tmp 17) (.tmp 20) 25 rfl (W.heap.size + 1) 22 i0 (.int .i64 0) 1 8 Tryz.underlying25 hi0 hz0 hz1 hz2 rfl (by decide) _ _ _ rfl O4.out ⟨w3.heap.size, 0, none⟩ 1 1 [Value.int .i64 p] rfl ?qc1 ?qc2 ?qc3 ?qc4 ?qc5 ?qc6 ?qc7 _ rfl ?_)
    case qc1 => rfl
    case qc2 => exact World.news_of_block (heap_alloc_new w3 _)
    case qc3 => simp [Value.oneCell']
    case qc4 => omega
    case qc5 => unfold maxLen; omega
    case qc6 => omega
    case qc7 => have := S3.out.b.lt; simp; omega
    intro g cap w4 o4 g4 n4 l4
    have S5 := Lib.hid (S4.out.app O4.out g4 ⟨by omega, by omega⟩)
    have O5 := Lib.hid (show w4.ownsRow (W.heap.size + 1) 22 1 (.slice (some ⟨g, 0, none⟩) (xs.length + 1) cap) (xs ++ [p]).length (inV (xs ++ [p])) by
     rw [inV_add, List.length_append]; exact o4)
    clear o4 g4 n4 l4 S3 O3 S4 O4
    go_wp2
    go_roundw
    case rel => exact ⟨_, sq, by simp; omega, RQ.out, S5.out, O5.out⟩
    case measure => simp [lenV]; omega
   ·have kb : (sj.err == 0) = false := beq_false_of_ne he
    have RE := Lib.hid (show (xs, sj) = R by rw [← RR.out, repR_stay _ _ he, List.append_nil])
    clear RR b0
    go_wp2
    go_ret
    rw [← RE.out]
    exact ⟨⟨_, rfl, O2.out⟩, S2.out.p, S2.out.m⟩
  ·have z1 : ¬ (xs.length : Int) < (N : Int) := by omega
   have RE := Lib.hid (show (xs, sj) = R by
    rw [← RR.out, show N - xs.length = 0 by omega]
    show (xs, sj) = (xs ++ [], sj)
    rw [List.append_nil])
   clear RR b0
   go_wp2
   go_ret
   rw [← RE.out]
   exact ⟨⟨_, rfl, O2.out⟩, S2.out.p, S2.out.m⟩
set_option maxRecDepth 100000 in
set_option maxHeartbeats 4000000 in
theorem rqInt (N : Nat) (hN : N ≤ 5000) (base top : Nat) (W : World) (nb : Nat) (l : List Int) (s : IS) (hP : inTw.P base top W nb l s) :
  Calls Tryz.prog 69 #[rdV nb, .int .i64 N, .func (.func 70) #[rdV nb] #[]] W (LstR 3 1 inV base top W nb l (repR ((cntC 0 7).rd l) N s)) := by
 have S0 := Lib.hid (TrQ.new1 66 hP)
 have X := Lib.hid rCell
 obtain ⟨R, hR⟩ : ∃ R, repR ((cntC 0 7).rd l) N s = R := ⟨_, rfl⟩
 rw [hR]
 have HR := Lib.hid hR
 unfold LstR
 show Calls Tryz.prog _ #[.agg #[.pointer (some ⟨nb, 0, none⟩)], .int .i64 N, .func (.func 70) #[.agg #[.pointer (some ⟨nb, 0, none⟩)]] #[]] W _
 have tt := (inTw.top hP).2
 clear hR hP
 obtain ⟨i0, hi0, hz0, hz1, hz2⟩ := info_parts intInfo
 go_enter Tryz.func69, Tryz.ntmps69
 go_wp2_with fail
 refine wp_gen (S := fun Y => TrQ base top W Y nb l s W.heap.size W.heap.size [.pointer (some ⟨nb, 0, none⟩)]) S0.out (fun W1 hS => ?_)
 have S1 := Lib.hid hS
 clear hS S0
 go_wp2
 go_loopw [7] (fun v wr => ∃ (xs : List Int) (sj : IS), xs.length ≤ N ∧ (xs ++ (repR ((cntC 0 7).rd l) (N - xs.length) sj).1, (repR ((cntC 0 7).rd l) (N - xs.length) sj).2) = R ∧ TrQ base top W wr nb l sj W.heap.size W.heap.size [.pointer (some ⟨nb, 0, none⟩)] ∧ wr.ownsRow (W.heap.size + 1) 3 1 v xs.length (inV xs)) (fun v _ => N - lenV v)
 case atStart => exact ⟨[], s, by simp, HR.out, S1.out, World.ownsRow_nil _ _ _ _⟩
 case round =>
  obtain ⟨xs, sj, hx, hRR, hS, hO⟩ := hrel
  have S2 := Lib.hid hS
  have O2 := Lib.hid hO
  have RR := Lib.hid hRR
  obtain ⟨aa, cc, rfl, -, -, -⟩ := lies_owned hO
  clear hS hO hRR S1 HR
  have b0 := S2.out.b.c 0 _ rfl
  by_cases hlt : xs.length < N
  ·have z1 : (xs.length : Int) < (N : Int) := by omega
   go_wp2_with fail
   obtain ⟨qa, qc, qk, hq⟩ := S2.out.p
   refine (iGood_any _ hq).mono ?_
   rintro e w2 ⟨rfl, rfl⟩
   clear hq
   by_cases he : sj.err = 0
   ·have kb : (sj.err == 0) = true := by rw [he]; rfl
    have RQ := Lib.hid (show ((xs ++ [((cntC 0 7).rd l sj).1]) ++ (repR ((cntC 0 7).rd l) (N - (xs ++ [((cntC 0 7).rd l sj).1]).length) ((cntC 0 7).rd l sj).2).1, (repR ((cntC 0 7).rd l) (N - (xs ++ [((cntC 0 7).rd l sj).1]).length) ((cntC 0 7).rd l sj).2).2) = R by
     rw [List.length_append]
     exact rep_next hlt he rfl RR.out)
    have XP := Lib.hid (fun (Y : World) (P : inTw.P base top Y nb l sj) => X.out base top Y nb l sj P)
    generalize (cntC 0 7).rd l sj = q at *
    obtain ⟨p, sq⟩ := q
    dsimp only at XP RQ
    skip
    clear RR he b0
    go_wp2_with fail
    refine (XP.out _ S2.out.p).mono ?_
    rintro e w3 ⟨rfl, p3, m3⟩
    have S3 := Lib.hid (S2.out.rd p3 m3)
    have O3 := Lib.hid (own_mid O2.out m3 (by omega))
    clear p3 m3 S2 O2 XP
    have B3 := (Below.refl w3.heap.size w3).alloc (Nat.le_refl _) (.cells #[Value.int .i64 p] 3)
    have S4 := Lib.hid (S3.out.bl B3)
    have O4 := Lib.hid (own_below O3.out B3)
    have zz := S3.out.m.size
    clear B3
    go_wp2_with (at_builtin; refine wpList_append_lies _ rfl (.tmp 17) (.tmp 20) 26 rfl (W.heap.size + 1) 3 i0 (.int .i64 0) 1 8 Tryz.underlying26 hi0 hz0 hz1 hz2 rfl (by decide) _ _ _ rfl O4.out ⟨w3.heap.size, 0, none⟩ 1 1 [Value.int .i64 p] rfl ?qc1 ?qc2 ?qc3 ?qc4 ?qc5 ?qc6 ?qc7 _ rfl ?_)
    case qc1 => rfl
    case qc2 => exact World.news_of_block (heap_alloc_new w3 _)
    case qc3 => simp [Value.oneCell']
    case qc4 => omega
    case qc5 => unfold maxLen; omega
    case qc6 => omega
    case qc7 => have := S3.out.b.lt; simp; omega
    intro g cap w4 o4 g4 n4 l4
    have S5 := Lib.hid (S4.out.app O4.out g4 ⟨by omega, by omega⟩)
    have O5 := Lib.hid (show w4.ownsRow (W.heap.size + 1) 3 1 (.slice (some ⟨g, 0, none⟩) (xs.length + 1) cap) (xs ++ [p]).length (inV (xs ++ [p])) by
     rw [inV_add, List.length_append]; exact o4)
    clear o4 g4 n4 l4 S3 O3 S4 O4
    go_wp2
    go_roundw
    case rel => exact ⟨_, sq, by simp; omega, RQ.out, S5.out, O5.out⟩
    case measure => simp [lenV]; omega
   ·have kb : (sj.err == 0) = false := beq_false_of_ne he
    have RE := Lib.hid (show (xs, sj) = R by rw [← RR.out, repR_stay _ _ he, List.append_nil])
    clear RR b0
    go_wp2
    go_ret
    rw [← RE.out]
    exact ⟨⟨_, rfl, O2.out⟩, S2.out.p, S2.out.m⟩
  ·have z1 : ¬ (xs.length : Int) < (N : Int) := by omega
   have RE := Lib.hid (show (xs, sj) = R by
    rw [← RR.out, show N - xs.length = 0 by omega]
    show (xs, sj) = (xs ++ [], sj)
    rw [List.append_nil])
   clear RR b0
   go_wp2
   go_ret
   rw [← RE.out]
   exact ⟨⟨_, rfl, O2.out⟩, S2.out.p, S2.out.m⟩
set_option maxRecDepth 100000 in
set_option maxHeartbeats 4000000 in
theorem rqKind (N : Nat) (hN : N ≤ 5000) (base top : Nat) (W : World) (nb : Nat) (l : List Int) (s : IS) (hP : inTw.P base top W nb l s) :
  Calls Tryz.prog 124 #[rdV nb, .int .i64 N, .func (.func 72) #[rdV nb] #[]] W (LstR 94 3 kdV base top W nb l (repR (kindC.rd l) N s)) := by
 have S0 := Lib.hid (TrQ.new1 66 hP)
 have X := Lib.hid rKind
 obtain ⟨R, hR⟩ : ∃ R, repR (kindC.rd l) N s = R := ⟨_, rfl⟩
 rw [hR]
 have HR := Lib.hid hR
 unfold LstR
 show Calls Tryz.prog _ #[.agg #[.pointer (some ⟨nb, 0, none⟩)], .int .i64 N, .func (.func 72) #[.agg #[.pointer (some ⟨nb, 0, none⟩)]] #[]] W _
 have tt := (inTw.top hP).2
 clear hR hP
 obtain ⟨i0, hi0, hz0, hz1, hz2⟩ := info_parts kindInfo
 go_enter Tryz.func124, Tryz.ntmps124
 go_wp2_with fail
 refine wp_gen (S := fun Y => TrQ base top W Y nb l s W.heap.size W.heap.size [.pointer (some ⟨nb, 0, none⟩)]) S0.out (fun W1 hS => ?_)
 have S1 := Lib.hid hS
 clear hS S0
 go_wp2
 go_loopw [7] (fun v wr => ∃ (xs : List (Int × Int × Bool)) (sj : IS), xs.length ≤ N ∧ (xs ++ (repR (kindC.rd l) (N - xs.length) sj).1, (repR (kindC.rd l) (N - xs.length) sj).2) = R ∧ TrQ base top W wr nb l sj W.heap.size W.heap.size [.pointer (some ⟨nb, 0, none⟩)] ∧ wr.ownsRow (W.heap.size + 1) 94 3 v xs.length (kdV xs)) (fun v _ => N - lenV v)
 case atStart => exact ⟨[], s, by simp, HR.out, S1.out, World.ownsRow_nil _ _ _ _⟩
 case round =>
  obtain ⟨xs, sj, hx, hRR, hS, hO⟩ := hrel
  have S2 := Lib.hid hS
  have O2 := Lib.hid hO
  have RR := Lib.hid hRR
  obtain ⟨aa, cc, rfl, -, -, -⟩ := lies_owned hO
  clear hS hO hRR S1 HR
  have b0 := S2.out.b.c 0 _ rfl
  by_cases hlt : xs.length < N
  ·have z1 : (xs.length : Int) < (N : Int) := by omega
   go_wp2_with fail
   obtain ⟨qa, qc, qk, hq⟩ := S2.out.p
   refine (iGood_any _ hq).mono ?_
   rintro e w2 ⟨rfl, rfl⟩
   clear hq
   by_cases he : sj.err = 0
   ·have kb : (sj.err == 0) = true := by rw [he]; rfl
    have RQ := Lib.hid (show ((xs ++ [(kindC.rd l sj).1]) ++ (repR (kindC.rd l) (N - (xs ++ [(kindC.rd l sj).1]).length) (kindC.rd l sj).2).1, (repR (kindC.rd l) (N - (xs ++ [(kindC.rd l sj).1]).length) (kindC.rd l sj).2).2) = R by
     rw [List.length_append]
     exact rep_next hlt he rfl RR.out)
    have XP := Lib.hid (fun (Y : World) (P : inTw.P base top Y nb l sj) => X.out base top Y nb l sj P)
    generalize kindC.rd l sj = q at *
    obtain ⟨p, sq⟩ := q
    dsimp only at XP RQ
    obtain ⟨x, y, z⟩ := p
    clear RR he b0
    go_wp2_with fail
    refine (XP.out _ S2.out.p).mono ?_
    rintro e w3 ⟨rfl, p3, m3⟩
    have S3 := Lib.hid (S2.out.rd p3 m3)
    have O3 := Lib.hid (own_mid O2.out m3 (by omega))
    clear p3 m3 S2 O2 XP
    have B3 := (Below.refl w3.heap.size w3).alloc (Nat.le_refl _) (.cells #[Value.int .i64 x, Value.int .i64 y, Value.bool z] 94)
    have S4 := Lib.hid (S3.out.bl B3)
    have O4 := Lib.hid (own_below O3.out B3)
    have zz := S3.out.m.size
    clear B3
    go_wp2_with (at_builtin; refine wpList_append_lies _ rfl (.tmp 17) (.tmp 20) 27 rfl (W.heap.size + 1) 94 i0 (.agg #[.int .i64 0, .int .i64 0, .bool false]) 3 24 Tryz.underlying27 hi0 hz0 hz1 hz2 rfl (by decide) _ _ _ rfl O4.out ⟨w3.heap.size, 0, none⟩ 1 1 [Value.int .i64 x, Value.int .i64 y, Value.bool z] rfl ?qc1 ?qc2 ?qc3 ?qc4 ?qc5 ?qc6 ?qc7 _ rfl ?_)
    case qc1 => rfl
    case qc2 => exact World.news_of_block (heap_alloc_new w3 _)
    case qc3 => simp [Value.oneCell']
    case qc4 => omega
    case qc5 => unfold maxLen; omega
    case qc6 => omega
    case qc7 => have := S3.out.b.lt; simp; omega
    intro g cap w4 o4 g4 n4 l4
    have S5 := Lib.hid (S4.out.app O4.out g4 ⟨by omega, by omega⟩)
    have O5 := Lib.hid (show w4.ownsRow (W.heap.size + 1) 94 3 (.slice (some ⟨g, 0, none⟩) (xs.length + 1) cap) (xs ++ [(x, y, z)]).length (kdV (xs ++ [(x, y, z)])) by
     rw [kdV_add, List.length_append]; exact o4)
    clear o4 g4 n4 l4 S3 O3 S4 O4
    go_wp2
    go_roundw
    case rel => exact ⟨_, sq, by simp; omega, RQ.out, S5.out, O5.out⟩
    case measure => simp [lenV]; omega
   ·have kb : (sj.err == 0) = false := beq_false_of_ne he
    have RE := Lib.hid (show (xs, sj) = R by rw [← RR.out, repR_stay _ _ he, List.append_nil])
    clear RR b0
    go_wp2
    go_ret
    rw [← RE.out]
    exact ⟨⟨_, rfl, O2.out⟩, S2.out.p, S2.out.m⟩
  ·have z1 : ¬ (xs.length : Int) < (N : Int) := by omega
   have RE := Lib.hid (show (xs, sj) = R by
    rw [← RR.out, show N - xs.length = 0 by omega]
    show (xs, sj) = (xs ++ [], sj)
    rw [List.append_nil])
   clear RR b0
   go_wp2
   go_ret
   rw [← RE.out]
   exact ⟨⟨_, rfl, O2.out⟩, S2.out.p, S2.out.m⟩
set_option maxRecDepth 100000 in
set_option maxHeartbeats 4000000 in
theorem rqV2 (N : Nat) (hN : N ≤ 5000) (base top : Nat) (W : World) (nb : Nat) (l : List Int) (s : IS) (hP : inTw.P base top W nb l s) :
  Calls Tryz.prog 126 #[rdV nb, .int .i64 N, .func (.func 67) #[rdV nb] #[]] W (LstR 24 2 ptV base top W nb l (repR (placeC.rd l) N s)) := by
 have S0 := Lib.hid (TrQ.new1 66 hP)
 have X := Lib.hid rPlace
 obtain ⟨R, hR⟩ : ∃ R, repR (placeC.rd l) N s = R := ⟨_, rfl⟩
 rw [hR]
 have HR := Lib.hid hR
 unfold LstR
 show Calls Tryz.prog _ #[.agg #[.pointer (some ⟨nb, 0, none⟩)], .int .i64 N, .func (.func 67) #[.agg #[.pointer (some ⟨nb, 0, none⟩)]] #[]] W _
 have tt := (inTw.top hP).2
 clear hR hP
 obtain ⟨i0, hi0, hz0, hz1, hz2⟩ := info_parts v2InfoX
 go_enter Tryz.func126, Tryz.ntmps126
 go_wp2_with fail
 refine wp_gen (S := fun Y => TrQ base top W Y nb l s W.heap.size W.heap.size [.pointer (some ⟨nb, 0, none⟩)]) S0.out (fun W1 hS => ?_)
 have S1 := Lib.hid hS
 clear hS S0
 go_wp2
 go_loopw [7] (fun v wr => ∃ (xs : List (Int × Int)) (sj : IS), xs.length ≤ N ∧ (xs ++ (repR (placeC.rd l) (N - xs.length) sj).1, (repR (placeC.rd l) (N - xs.length) sj).2) = R ∧ TrQ base top W wr nb l sj W.heap.size W.heap.size [.pointer (some ⟨nb, 0, none⟩)] ∧ wr.ownsRow (W.heap.size + 1) 24 2 v xs.length (ptV xs)) (fun v _ => N - lenV v)
 case atStart => exact ⟨[], s, by simp, HR.out, S1.out, World.ownsRow_nil _ _ _ _⟩
 case round =>
  obtain ⟨xs, sj, hx, hRR, hS, hO⟩ := hrel
  have S2 := Lib.hid hS
  have O2 := Lib.hid hO
  have RR := Lib.hid hRR
  obtain ⟨aa, cc, rfl, -, -, -⟩ := lies_owned hO
  clear hS hO hRR S1 HR
  have b0 := S2.out.b.c 0 _ rfl
  by_cases hlt : xs.length < N
  ·have z1 : (xs.length : Int) < (N : Int) := by omega
   go_wp2_with fail
   obtain ⟨qa, qc, qk, hq⟩ := S2.out.p
   refine (iGood_any _ hq).mono ?_
   rintro e w2 ⟨rfl, rfl⟩
   clear hq
   by_cases he : sj.err = 0
   ·have kb : (sj.err == 0) = true := by rw [he]; rfl
    have RQ := Lib.hid (show ((xs ++ [(placeC.rd l sj).1]) ++ (repR (placeC.rd l) (N - (xs ++ [(placeC.rd l sj).1]).length) (placeC.rd l sj).2).1, (repR (placeC.rd l) (N - (xs ++ [(placeC.rd l sj).1]).length) (placeC.rd l sj).2).2) = R by
     rw [List.length_append]
     exact rep_next hlt he rfl RR.out)
    have XP := Lib.hid (fun (Y : World) (P : inTw.P base top Y nb l sj) => X.out base top Y nb l sj P)
    generalize placeC.rd l sj = q at *
    obtain ⟨p, sq⟩ := q
    dsimp only at XP RQ
    obtain ⟨x, y⟩ := p
    clear RR he b0
    go_wp2_with fail
    refine (XP.out _ S2.out.p).mono ?_
    rintro e w3 ⟨rfl, p3, m3⟩
    have S3 := Lib.hid (S2.out.rd p3 m3)
    have O3 := Lib.hid (own_mid O2.out m3 (by omega))
    clear p3 m3 S2 O2 XP
    have B3 := (Below.refl w3.heap.size w3).alloc (Nat.le_refl _) (.cells #[Value.int .i64 x, Value.int .i64 y] 24)
    have S4 := Lib.hid (S3.out.bl B3)
    have O4 := Lib.hid (own_below O3.out B3)
    have zz := S3.out.m.size
    clear B3
    go_wp2_with (at_builtin; refine wpList_append_lies _ rfl (.tmp 17) (.tmp 20) 28 rfl (W.heap.size + 1) 24 i0 (.agg #[.int .i64 0, .int .i64 0]) 2 16 Tryz.underlying28 hi0 hz0 hz1 hz2 rfl (by decide) _ _ _ rfl O4.out ⟨w3.heap.size, 0, none⟩ 1 1 [Value.int .i64 x, Value.int .i64 y] rfl ?qc1 ?qc2 ?qc3 ?qc4 ?qc5 ?qc6 ?qc7 _ rfl ?_)
    case qc1 => rfl
    case qc2 => exact World.news_of_block (heap_alloc_new w3 _)
    case qc3 => simp [Value.oneCell']
    case qc4 => omega
    case qc5 => unfold maxLen; omega
    case qc6 => omega
    case qc7 => have := S3.out.b.lt; simp; omega
    intro g cap w4 o4 g4 n4 l4
    have S5 := Lib.hid (S4.out.app O4.out g4 ⟨by omega, by omega⟩)
    have O5 := Lib.hid (show w4.ownsRow (W.heap.size + 1) 24 2 (.slice (some ⟨g, 0, none⟩) (xs.length + 1) cap) (xs ++ [(x, y)]).length (ptV (xs ++ [(x, y)])) by
     rw [ptV_add, List.length_append]; exact o4)
    clear o4 g4 n4 l4 S3 O3 S4 O4
    go_wp2
    go_roundw
    case rel => exact ⟨_, sq, by simp; omega, RQ.out, S5.out, O5.out⟩
    case measure => simp [lenV]; omega
   ·have kb : (sj.err == 0) = false := beq_false_of_ne he
    have RE := Lib.hid (show (xs, sj) = R by rw [← RR.out, repR_stay _ _ he, List.append_nil])
    clear RR b0
    go_wp2
    go_ret
    rw [← RE.out]
    exact ⟨⟨_, rfl, O2.out⟩, S2.out.p, S2.out.m⟩
  ·have z1 : ¬ (xs.length : Int) < (N : Int) := by omega
   have RE := Lib.hid (show (xs, sj) = R by
    rw [← RR.out, show N - xs.length = 0 by omega]
    show (xs, sj) = (xs ++ [], sj)
    rw [List.append_nil])
   clear RR b0
   go_wp2
   go_ret
   rw [← RE.out]
   exact ⟨⟨_, rfl, O2.out⟩, S2.out.p, S2.out.m⟩
set_option maxRecDepth 100000 in
set_option maxHeartbeats 4000000 in
theorem rqGate (N : Nat) (hN : N ≤ 5000) (base top : Nat) (W : World) (nb : Nat) (l : List Int) (s : IS) (hP : inTw.P base top W nb l s) :
  Calls Tryz.prog 128 #[rdV nb, .int .i64 N, .func (.func 77) #[rdV nb] #[]] W (LstR 59 5 gtV base top W nb l (repR (gateC.rd l) N s)) := by
 have S0 := Lib.hid (TrQ.new1 66 hP)
 have X := Lib.hid rGate
 obtain ⟨R, hR⟩ : ∃ R, repR (gateC.rd l) N s = R := ⟨_, rfl⟩
 rw [hR]
 have HR := Lib.hid hR
 unfold LstR
 show Calls Tryz.prog _ #[.agg #[.pointer (some ⟨nb, 0, none⟩)], .int .i64 N, .func (.func 77) #[.agg #[.pointer (some ⟨nb, 0, none⟩)]] #[]] W _
 have tt := (inTw.top hP).2
 clear hR hP
 obtain ⟨i0, hi0, hz0, hz1, hz2⟩ := info_parts gateInfoT
 go_enter Tryz.func128, Tryz.ntmps128
 go_wp2_with fail
 refine wp_gen (S := fun Y => TrQ base top W Y nb l s W.heap.size W.heap.size [.pointer (some ⟨nb, 0, none⟩)]) S0.out (fun W1 hS => ?_)
 have S1 := Lib.hid hS
 clear hS S0
 go_wp2
 go_loopw [7] (fun v wr => ∃ (xs : List ((Int × Int) × (Int × Int) × Bool)) (sj : IS), xs.length ≤ N ∧ (xs ++ (repR (gateC.rd l) (N - xs.length) sj).1, (repR (gateC.rd l) (N - xs.length) sj).2) = R ∧ TrQ base top W wr nb l sj W.heap.size W.heap.size [.pointer (some ⟨nb, 0, none⟩)] ∧ wr.ownsRow (W.heap.size + 1) 59 5 v xs.length (gtV xs)) (fun v _ => N - lenV v)
 case atStart => exact ⟨[], s, by simp, HR.out, S1.out, World.ownsRow_nil _ _ _ _⟩
 case round =>
  obtain ⟨xs, sj, hx, hRR, hS, hO⟩ := hrel
  have S2 := Lib.hid hS
  have O2 := Lib.hid hO
  have RR := Lib.hid hRR
  obtain ⟨aa, cc, rfl, -, -, -⟩ := lies_owned hO
  clear hS hO hRR S1 HR
  have b0 := S2.out.b.c 0 _ rfl
  by_cases hlt : xs.length < N
  ·have z1 : (xs.length : Int) < (N : Int) := by omega
   go_wp2_with fail
   obtain ⟨qa, qc, qk, hq⟩ := S2.out.p
   refine (iGood_any _ hq).mono ?_
   rintro e w2 ⟨rfl, rfl⟩
   clear hq
   by_cases he : sj.err = 0
   ·have kb : (sj.err == 0) = true := by rw [he]; rfl
    have RQ := Lib.hid (show ((xs ++ [(gateC.rd l sj).1]) ++ (repR (gateC.rd l) (N - (xs ++ [(gateC.rd l sj).1]).length) (gateC.rd l sj).2).1, (repR (gateC.rd l) (N - (xs ++ [(gateC.rd l sj).1]).length) (gateC.rd l sj).2).2) = R by
     rw [List.length_append]
     exact rep_next hlt he rfl RR.out)
    have XP := Lib.hid (fun (Y : World) (P : inTw.P base top Y nb l sj) => X.out base top Y nb l sj P)
    generalize gateC.rd l sj = q at *
    obtain ⟨p, sq⟩ := q
    dsimp only at XP RQ
    obtain ⟨⟨x, y⟩, ⟨x', y'⟩, z⟩ := p
    clear RR he b0
    go_wp2_with fail
    refine (XP.out _ S2.out.p).mono ?_
    rintro e w3 ⟨rfl, p3, m3⟩
    have S3 := Lib.hid (S2.out.rd p3 m3)
    have O3 := Lib.hid (own_mid O2.out m3 (by omega))
    clear p3 m3 S2 O2 XP
    have B3 := (Below.refl w3.heap.size w3).alloc (Nat.le_refl _) (.cells #[Value.int .i64 x, Value.int .i64 y, Value.int .i64 x', Value.int .i64 y', Value.bool z] 59)
    have S4 := Lib.hid (S3.out.bl B3)
    have O4 := Lib.hid (own_below O3.out B3)
    have zz := S3.out.m.size
    clear B3
    go_wp2_with (at_builtin; refine wpList_append_lies _ rfl (.tmp 17) (.tmp 20) 30 rfl (W.heap.size + 1) 59 i0 (.agg #[.int .i64 0, .int .i64 0, .int .i64 0, .int .i64 0, .bool false]) 5 40 Tryz.underlying30 hi0 hz0 hz1 hz2 rfl (by decide) _ _ _ rfl O4.out ⟨w3.heap.size, 0, none⟩ 1 1 [Value.int .i64 x, Value.int .i64 y, Value.int .i64 x', Value.int .i64 y', Value.bool z] rfl ?qc1 ?qc2 ?qc3 ?qc4 ?qc5 ?qc6 ?qc7 _ rfl ?_)
    case qc1 => rfl
    case qc2 => exact World.news_of_block (heap_alloc_new w3 _)
    case qc3 => simp [Value.oneCell']
    case qc4 => omega
    case qc5 => unfold maxLen; omega
    case qc6 => omega
    case qc7 => have := S3.out.b.lt; simp; omega
    intro g cap w4 o4 g4 n4 l4
    have S5 := Lib.hid (S4.out.app O4.out g4 ⟨by omega, by omega⟩)
    have O5 := Lib.hid (show w4.ownsRow (W.heap.size + 1) 59 5 (.slice (some ⟨g, 0, none⟩) (xs.length + 1) cap) (xs ++ [((x, y), (x', y'), z)]).length (gtV (xs ++ [((x, y), (x', y'), z)])) by
     rw [gtV_add, List.length_append]; exact o4)
    clear o4 g4 n4 l4 S3 O3 S4 O4
    go_wp2
    go_roundw
    case rel => exact ⟨_, sq, by simp; omega, RQ.out, S5.out, O5.out⟩
    case measure => simp [lenV]; omega
   ·have kb : (sj.err == 0) = false := beq_false_of_ne he
    have RE := Lib.hid (show (xs, sj) = R by rw [← RR.out, repR_stay _ _ he, List.append_nil])
    clear RR b0
    go_wp2
    go_ret
    rw [← RE.out]
    exact ⟨⟨_, rfl, O2.out⟩, S2.out.p, S2.out.m⟩
  ·have z1 : ¬ (xs.length : Int) < (N : Int) := by omega
   have RE := Lib.hid (show (xs, sj) = R by
    rw [← RR.out, show N - xs.length = 0 by omega]
    show (xs, sj) = (xs ++ [], sj)
    rw [List.append_nil])
   clear RR b0
   go_wp2
   go_ret
   rw [← RE.out]
   exact ⟨⟨_, rfl, O2.out⟩, S2.out.p, S2.out.m⟩
abbrev LstKind := LstR 94 3 kdV
abbrev LstV2 := LstR 24 2 ptV
abbrev LstGate := LstR 59 5 gtV
set_option maxRecDepth 100000 in
set_option maxHeartbeats 2000000 in
theorem rcKind (lo hi : Int) (hlo : 0 ≤ lo ∧ lo ≤ 5000) (hhi : 0 ≤ hi ∧ hi ≤ 5000) (base top : Nat) (W : World) (nb : Nat) (l : List Int) (s : IS) (hP : inTw.P base top W nb l s) :
  Calls Tryz.prog 71 #[rdV nb, .int .i64 lo, .int .i64 hi, .func (.func 72) #[rdV nb] #[]] W (LstKind base top W nb l ((lstC lo hi kindC).rd l s)) := by
 have S0 := Lib.hid (TrQ.new1 66 hP)
 have X := Lib.hid (iCntB lo hi (by unfold In64Y; omega) (by unfold In64Y; omega))
 have CB := cnt_bd (lo := lo) (hi := hi) hlo.1 l s
 obtain ⟨N, hN⟩ : ∃ N : Nat, cntV lo hi l s = (N : Int) := ⟨(cntV lo hi l s).toNat, by omega⟩
 rw [lst_eq (c := kindC) (n := cntV lo hi l s) (s' := cntS lo hi l s) (xs := (repR (kindC.rd l) N (cntS lo hi l s)).1) (s'' := (repR (kindC.rd l) N (cntS lo hi l s)).2) rfl (by rw [hN, show (N : Int).toNat = N from rfl])]
 have Y := Lib.hid (fun (W2 : World) (P2 : inTw.P base top W2 nb l (cntS lo hi l s)) => rqKind N (by omega) base top W2 nb l (cntS lo hi l s) P2)
 have XX := Lib.hid (fun (W2 : World) (P2 : inTw.P base top W2 nb l s) => show Calls Tryz.prog 65 #[.pointer (some ⟨nb, 0, none⟩), .int .i64 lo, .int .i64 hi] W2 fun e W' => e = .returned (.int .i64 N) ∧ inTw.P base top W' nb l (cntS lo hi l s) ∧ Mid base top W2 W' from by
  have := X.out base top W2 nb l s P2
  rw [← hN]; exact this)
 generalize cntS lo hi l s = s1 at *
 generalize repR (kindC.rd l) N s1 = R at *
 have z0 : (0 : Int) ≤ (N : Int) := by omega
 unfold LstR at Y
 unfold LstKind LstR
 show Calls Tryz.prog _ #[.agg #[.pointer (some ⟨nb, 0, none⟩)], .int .i64 lo, .int .i64 hi, .func (.func 72) #[.agg #[.pointer (some ⟨nb, 0, none⟩)]] #[]] W _
 clear hP CB hN X hlo hhi
 go_enter Tryz.func71, Tryz.ntmps71
 go_wp2_with fail
 refine wp_gen (S := fun Y => TrQ base top W Y nb l s W.heap.size W.heap.size [.pointer (some ⟨nb, 0, none⟩)]) S0.out (fun W1 hS => ?_)
 have S1 := Lib.hid (hS.bl (Below.refl _ _).drew)
 clear hS S0
 refine wp_region_held_drew (S := fun Y => Y.cell? ⟨W.heap.size, 0, none⟩ = some (.pointer (some ⟨nb, 0, none⟩))) (by kernel_rfl) S1.out.held (fun hHeld => ?_)
 generalize World.drew _ = w0 at *
 refine tkQ 0 9 hHeld ?_
 (try simp only [putA, putB, putC, putD])
 refine tkQ 1 10 hHeld ?_
 (try simp only [putA, putB, putC, putD])
 refine tkQ 2 11 hHeld ?_
 (try simp only [putA, putB, putC, putD])
 refine tkQ 3 12 hHeld ?_
 (try simp only [putA, putB, putC, putD])
 refine tkQ 4 13 hHeld ?_
 (try simp only [putA, putB, putC, putD])
 refine tkQ 6 15 hHeld ?_
 (try simp only [putA, putB, putC, putD])
 refine onlD 5 (fun K hK => ?_)
 go_simp
 refine (XX.out _ S1.out.p).mono ?_
 rintro e x2 ⟨rfl, p2, m2⟩
 have S2 := Lib.hid (S1.out.rd p2 m2)
 clear p2 m2 S1 XX
 go_wp2_with fail
 refine hK.out _ _ (S2.out.held) ?_
 clear hK K hHeld
 intro hHeld
 refine onlD 7 (fun K hK => ?_)
 go_simp
 refine (Y.out _ S2.out.p).mono ?_
 rintro e x3 ⟨⟨v3, rfl, o3⟩, p3, m3⟩
 have sz := S2.out.b.lt
 have S3 := Lib.hid (S2.out.rd p3 m3)
 clear Y S2 p3 m3
 go_wp2_with fail
 refine hK.out _ _ (S3.out.held) ?_
 clear hK K hHeld
 intro hHeld
 refine tkQ 8 8 hHeld ?_
 (try simp only [putA, putB, putC, putD])
 refine wpAnyH_done (by kernel_rfl) ?_ _
 clear hHeld
 go_wp2
 go_ret
 exact ⟨⟨_, rfl, own_mono o3 (by omega)⟩, S3.out.p, S3.out.m⟩
set_option maxRecDepth 100000 in
set_option maxHeartbeats 2000000 in
theorem rcV2 (lo hi : Int) (hlo : 0 ≤ lo ∧ lo ≤ 5000) (hhi : 0 ≤ hi ∧ hi ≤ 5000) (base top : Nat) (W : World) (nb : Nat) (l : List Int) (s : IS) (hP : inTw.P base top W nb l s) :
  Calls Tryz.prog 73 #[rdV nb, .int .i64 lo, .int .i64 hi, .func (.func 67) #[rdV nb] #[]] W (LstV2 base top W nb l ((lstC lo hi placeC).rd l s)) := by
 have S0 := Lib.hid (TrQ.new1 66 hP)
 have X := Lib.hid (iCntB lo hi (by unfold In64Y; omega) (by unfold In64Y; omega))
 have CB := cnt_bd (lo := lo) (hi := hi) hlo.1 l s
 obtain ⟨N, hN⟩ : ∃ N : Nat, cntV lo hi l s = (N : Int) := ⟨(cntV lo hi l s).toNat, by omega⟩
 rw [lst_eq (c := placeC) (n := cntV lo hi l s) (s' := cntS lo hi l s) (xs := (repR (placeC.rd l) N (cntS lo hi l s)).1) (s'' := (repR (placeC.rd l) N (cntS lo hi l s)).2) rfl (by rw [hN, show (N : Int).toNat = N from rfl])]
 have Y := Lib.hid (fun (W2 : World) (P2 : inTw.P base top W2 nb l (cntS lo hi l s)) => rqV2 N (by omega) base top W2 nb l (cntS lo hi l s) P2)
 have XX := Lib.hid (fun (W2 : World) (P2 : inTw.P base top W2 nb l s) => show Calls Tryz.prog 65 #[.pointer (some ⟨nb, 0, none⟩), .int .i64 lo, .int .i64 hi] W2 fun e W' => e = .returned (.int .i64 N) ∧ inTw.P base top W' nb l (cntS lo hi l s) ∧ Mid base top W2 W' from by
  have := X.out base top W2 nb l s P2
  rw [← hN]; exact this)
 generalize cntS lo hi l s = s1 at *
 generalize repR (placeC.rd l) N s1 = R at *
 have z0 : (0 : Int) ≤ (N : Int) := by omega
 unfold LstR at Y
 unfold LstV2 LstR
 show Calls Tryz.prog _ #[.agg #[.pointer (some ⟨nb, 0, none⟩)], .int .i64 lo, .int .i64 hi, .func (.func 67) #[.agg #[.pointer (some ⟨nb, 0, none⟩)]] #[]] W _
 clear hP CB hN X hlo hhi
 go_enter Tryz.func73, Tryz.ntmps73
 go_wp2_with fail
 refine wp_gen (S := fun Y => TrQ base top W Y nb l s W.heap.size W.heap.size [.pointer (some ⟨nb, 0, none⟩)]) S0.out (fun W1 hS => ?_)
 have S1 := Lib.hid (hS.bl (Below.refl _ _).drew)
 clear hS S0
 refine wp_region_held_drew (S := fun Y => Y.cell? ⟨W.heap.size, 0, none⟩ = some (.pointer (some ⟨nb, 0, none⟩))) (by kernel_rfl) S1.out.held (fun hHeld => ?_)
 generalize World.drew _ = w0 at *
 refine tkQ 0 9 hHeld ?_
 (try simp only [putA, putB, putC, putD])
 refine tkQ 1 10 hHeld ?_
 (try simp only [putA, putB, putC, putD])
 refine tkQ 2 11 hHeld ?_
 (try simp only [putA, putB, putC, putD])
 refine tkQ 3 12 hHeld ?_
 (try simp only [putA, putB, putC, putD])
 refine tkQ 4 13 hHeld ?_
 (try simp only [putA, putB, putC, putD])
 refine tkQ 6 15 hHeld ?_
 (try simp only [putA, putB, putC, putD])
 refine onlD 5 (fun K hK => ?_)
 go_simp
 refine (XX.out _ S1.out.p).mono ?_
 rintro e x2 ⟨rfl, p2, m2⟩
 have S2 := Lib.hid (S1.out.rd p2 m2)
 clear p2 m2 S1 XX
 go_wp2_with fail
 refine hK.out _ _ (S2.out.held) ?_
 clear hK K hHeld
 intro hHeld
 refine onlD 7 (fun K hK => ?_)
 go_simp
 refine (Y.out _ S2.out.p).mono ?_
 rintro e x3 ⟨⟨v3, rfl, o3⟩, p3, m3⟩
 have sz := S2.out.b.lt
 have S3 := Lib.hid (S2.out.rd p3 m3)
 clear Y S2 p3 m3
 go_wp2_with fail
 refine hK.out _ _ (S3.out.held) ?_
 clear hK K hHeld
 intro hHeld
 refine tkQ 8 8 hHeld ?_
 (try simp only [putA, putB, putC, putD])
 refine wpAnyH_done (by kernel_rfl) ?_ _
 clear hHeld
 go_wp2
 go_ret
 exact ⟨⟨_, rfl, own_mono o3 (by omega)⟩, S3.out.p, S3.out.m⟩
set_option maxRecDepth 100000 in
set_option maxHeartbeats 2000000 in
theorem rcGate (lo hi : Int) (hlo : 0 ≤ lo ∧ lo ≤ 5000) (hhi : 0 ≤ hi ∧ hi ≤ 5000) (base top : Nat) (W : World) (nb : Nat) (l : List Int) (s : IS) (hP : inTw.P base top W nb l s) :
  Calls Tryz.prog 76 #[rdV nb, .int .i64 lo, .int .i64 hi, .func (.func 77) #[rdV nb] #[]] W (LstGate base top W nb l ((lstC lo hi gateC).rd l s)) := by
 have S0 := Lib.hid (TrQ.new1 66 hP)
 have X := Lib.hid (iCntB lo hi (by unfold In64Y; omega) (by unfold In64Y; omega))
 have CB := cnt_bd (lo := lo) (hi := hi) hlo.1 l s
 obtain ⟨N, hN⟩ : ∃ N : Nat, cntV lo hi l s = (N : Int) := ⟨(cntV lo hi l s).toNat, by omega⟩
 rw [lst_eq (c := gateC) (n := cntV lo hi l s) (s' := cntS lo hi l s) (xs := (repR (gateC.rd l) N (cntS lo hi l s)).1) (s'' := (repR (gateC.rd l) N (cntS lo hi l s)).2) rfl (by rw [hN, show (N : Int).toNat = N from rfl])]
 have Y := Lib.hid (fun (W2 : World) (P2 : inTw.P base top W2 nb l (cntS lo hi l s)) => rqGate N (by omega) base top W2 nb l (cntS lo hi l s) P2)
 have XX := Lib.hid (fun (W2 : World) (P2 : inTw.P base top W2 nb l s) => show Calls Tryz.prog 65 #[.pointer (some ⟨nb, 0, none⟩), .int .i64 lo, .int .i64 hi] W2 fun e W' => e = .returned (.int .i64 N) ∧ inTw.P base top W' nb l (cntS lo hi l s) ∧ Mid base top W2 W' from by
  have := X.out base top W2 nb l s P2
  rw [← hN]; exact this)
 generalize cntS lo hi l s = s1 at *
 generalize repR (gateC.rd l) N s1 = R at *
 have z0 : (0 : Int) ≤ (N : Int) := by omega
 unfold LstR at Y
 unfold LstGate LstR
 show Calls Tryz.prog _ #[.agg #[.pointer (some ⟨nb, 0, none⟩)], .int .i64 lo, .int .i64 hi, .func (.func 77) #[.agg #[.pointer (some ⟨nb, 0, none⟩)]] #[]] W _
 clear hP CB hN X hlo hhi
 go_enter Tryz.func76, Tryz.ntmps76
 go_wp2_with fail
 refine wp_gen (S := fun Y => TrQ base top W Y nb l s W.heap.size W.heap.size [.pointer (some ⟨nb, 0, none⟩)]) S0.out (fun W1 hS => ?_)
 have S1 := Lib.hid (hS.bl (Below.refl _ _).drew)
 clear hS S0
 refine wp_region_held_drew (S := fun Y => Y.cell? ⟨W.heap.size, 0, none⟩ = some (.pointer (some ⟨nb, 0, none⟩))) (by kernel_rfl) S1.out.held (fun hHeld => ?_)
 generalize World.drew _ = w0 at *
 refine tkQ 0 9 hHeld ?_
 (try simp only [putA, putB, putC, putD])
 refine tkQ 1 10 hHeld ?_
 (try simp only [putA, putB, putC, putD])
 refine tkQ 2 11 hHeld ?_
 (try simp only [putA, putB, putC, putD])
 refine tkQ 3 12 hHeld ?_
 (try simp only [putA, putB, putC, putD])
 refine tkQ 4 13 hHeld ?_
 (try simp only [putA, putB, putC, putD])
 refine tkQ 6 15 hHeld ?_
 (try simp only [putA, putB, putC, putD])
 refine onlD 5 (fun K hK => ?_)
 go_simp
 refine (XX.out _ S1.out.p).mono ?_
 rintro e x2 ⟨rfl, p2, m2⟩
 have S2 := Lib.hid (S1.out.rd p2 m2)
 clear p2 m2 S1 XX
 go_wp2_with fail
 refine hK.out _ _ (S2.out.held) ?_
 clear hK K hHeld
 intro hHeld
 refine onlD 7 (fun K hK => ?_)
 go_simp
 refine (Y.out _ S2.out.p).mono ?_
 rintro e x3 ⟨⟨v3, rfl, o3⟩, p3, m3⟩
 have sz := S2.out.b.lt
 have S3 := Lib.hid (S2.out.rd p3 m3)
 clear Y S2 p3 m3
 go_wp2_with fail
 refine hK.out _ _ (S3.out.held) ?_
 clear hK K hHeld
 intro hHeld
 refine tkQ 8 8 hHeld ?_
 (try simp only [putA, putB, putC, putD])
 refine wpAnyH_done (by kernel_rfl) ?_ _
 clear hHeld
 go_wp2
 go_ret
 exact ⟨⟨_, rfl, own_mono o3 (by omega)⟩, S3.out.p, S3.out.m⟩
theorem slInfoT : (Tryz.prog.info? 28).map (fun i => (i.zero, i.size, i.bytes)) = some (some (.slice none 0 0), 1, 24) := by kernel_rfl
theorem RailP.mid {base top N : Nat} {v : Value} {r : Nat → Option Addr × Nat} {ys : List (List (Int × Int))} {W W' : World} (P : RailP N v r ys W) (h : Mid base top W W') (hN : top ≤ N) : RailP N v r ys W' := fun k hk => by
 obtain ⟨h1, h2⟩ := P k hk
 refine ⟨h1, fun h0 => ?_⟩
 obtain ⟨b, e, l1, l2, ne, hc⟩ := h2 h0
 exact ⟨b, e, l1, Nat.lt_of_lt_of_le l2 h.size, ne, fun i u hu => (World.cell?_of_block (w := W) (a := ⟨b, i, none⟩) (h.block b l2 (Or.inr (by omega)))).trans (hc i u hu)⟩
theorem RailP.less {N N' : Nat} {v : Value} {r : Nat → Option Addr × Nat} {ys : List (List (Int × Int))} {W : World} (P : RailP N v r ys W) (h : N' ≤ N) : RailP N' v r ys W := fun k hk => by
 obtain ⟨h1, h2⟩ := P k hk
 refine ⟨h1, fun h0 => ?_⟩
 obtain ⟨b, e, l1, l2, ne, hc⟩ := h2 h0
 exact ⟨b, e, by omega, l2, ne, hc⟩
def LstRl (base top : Nat) (W : World) (nb : Nat) (l : List Int) (q : List (List (Int × Int)) × IS) (e : Ending) (W' : World) : Prop :=
 (∃ v, e = .returned v ∧ ∃ r, W'.ownsRow (W.heap.size + 1) 28 1 v q.1.length (rvV r q.1) ∧ RailP (W.heap.size + 1) v r q.1 W') ∧ inTw.P base top W' nb l q.2 ∧ Mid base top W W'
set_option maxRecDepth 100000 in
theorem rRail (base top : Nat) (W : World) (nb : Nat) (l : List Int) (s : IS) (hP : inTw.P base top W nb l s) :
  Calls Tryz.prog 75 #[rdV nb] W (LstV2 base top W nb l ((lstC 2 64 placeC).rd l s)) := by
 have S0 := Lib.hid (TrQ.new1 66 hP)
 have Y := Lib.hid (fun (W2 : World) (P2 : inTw.P base top W2 nb l s) => rcV2 2 64 (by omega) (by omega) base top W2 nb l s P2)
 generalize (lstC 2 64 placeC).rd l s = q at *
 unfold LstV2 LstR at Y ⊢
 show Calls Tryz.prog _ #[.agg #[.pointer (some ⟨nb, 0, none⟩)]] W _
 clear hP
 go_enter Tryz.func75, Tryz.ntmps75
 go_wp2_with fail
 refine calls_gen (S := fun Y => TrQ base top W Y nb l s W.heap.size W.heap.size [.pointer (some ⟨nb, 0, none⟩)]) S0.out (fun W1 hS => ?_)
 have S1 := Lib.hid hS
 clear hS S0
 refine (Y.out _ S1.out.p).mono ?_
 rintro e x3 ⟨⟨v3, rfl, o3⟩, p3, m3⟩
 have sz := S1.out.b.lt
 have S3 := Lib.hid (S1.out.rd p3 m3)
 clear Y S1 p3 m3
 go_wp2
 go_ret
 exact ⟨⟨_, rfl, own_mono o3 (by omega)⟩, S3.out.p, S3.out.m⟩
set_option maxRecDepth 100000 in
set_option maxHeartbeats 4000000 in
theorem rqRl (N : Nat) (hN : N ≤ 5000) (base top : Nat) (W : World) (nb : Nat) (l : List Int) (s : IS) (hP : inTw.P base top W nb l s) :
  Calls Tryz.prog 127 #[rdV nb, .int .i64 N, .func (.func 75) #[rdV nb] #[]] W (LstRl base top W nb l (repR ((lstC 2 64 placeC).rd l) N s)) := by
 have S0 := Lib.hid (TrQ.new1 66 hP)
 have X := Lib.hid rRail
 obtain ⟨R, hR⟩ : ∃ R, repR ((lstC 2 64 placeC).rd l) N s = R := ⟨_, rfl⟩
 rw [hR]
 have HR := Lib.hid hR
 unfold LstRl
 show Calls Tryz.prog _ #[.agg #[.pointer (some ⟨nb, 0, none⟩)], .int .i64 N, .func (.func 75) #[.agg #[.pointer (some ⟨nb, 0, none⟩)]] #[]] W _
 have tt := (inTw.top hP).2
 clear hR hP
 obtain ⟨i0, hi0, hz0, hz1, hz2⟩ := info_parts slInfoT
 go_enter Tryz.func127, Tryz.ntmps127
 go_wp2_with fail
 refine wp_gen (S := fun Y => TrQ base top W Y nb l s W.heap.size W.heap.size [.pointer (some ⟨nb, 0, none⟩)]) S0.out (fun W1 hS => ?_)
 have S1 := Lib.hid hS
 clear hS S0
 go_wp2
 go_loopw [7] (fun v wr => ∃ (xs : List (List (Int × Int))) (sj : IS) (r : Nat → Option Addr × Nat), xs.length ≤ N ∧ (xs ++ (repR ((lstC 2 64 placeC).rd l) (N - xs.length) sj).1, (repR ((lstC 2 64 placeC).rd l) (N - xs.length) sj).2) = R ∧ TrQ base top W wr nb l sj W.heap.size W.heap.size [.pointer (some ⟨nb, 0, none⟩)] ∧ wr.ownsRow (W.heap.size + 1) 28 1 v xs.length (rvV r xs) ∧ RailP (W.heap.size + 1) v r xs wr) (fun v _ => N - lenV v)
 case atStart => exact ⟨[], s, fun _ => (none, 0), by simp, HR.out, S1.out, World.ownsRow_nil _ _ _ _, fun k hk => absurd hk (by simp)⟩
 case round =>
  obtain ⟨xs, sj, r, hx, hRR, hS, hO, hp⟩ := hrel
  have S2 := Lib.hid hS
  have O2 := Lib.hid hO
  have P2 := Lib.hid hp
  have RR := Lib.hid hRR
  obtain ⟨aa, cc, rfl, -, -, -⟩ := lies_owned hO
  clear hS hO hRR hp S1 HR
  have b0 := S2.out.b.c 0 _ rfl
  by_cases hlt : xs.length < N
  ·have z1 : (xs.length : Int) < (N : Int) := by omega
   go_wp2_with fail
   obtain ⟨qa, qc, qk, hq⟩ := S2.out.p
   refine (iGood_any _ hq).mono ?_
   rintro e w2 ⟨rfl, rfl⟩
   clear hq
   by_cases he : sj.err = 0
   ·have kb : (sj.err == 0) = true := by rw [he]; rfl
    have RQ := Lib.hid (show ((xs ++ [((lstC 2 64 placeC).rd l sj).1]) ++ (repR ((lstC 2 64 placeC).rd l) (N - (xs ++ [((lstC 2 64 placeC).rd l sj).1]).length) ((lstC 2 64 placeC).rd l sj).2).1, (repR ((lstC 2 64 placeC).rd l) (N - (xs ++ [((lstC 2 64 placeC).rd l sj).1]).length) ((lstC 2 64 placeC).rd l sj).2).2) = R by
     rw [List.length_append]
     exact rep_next hlt he rfl RR.out)
    have XP := Lib.hid (fun (Y : World) (P : inTw.P base top Y nb l sj) => X.out base top Y nb l sj P)
    generalize (lstC 2 64 placeC).rd l sj = q at *
    obtain ⟨y, sq⟩ := q
    unfold LstV2 LstR at XP
    dsimp only at XP RQ
    clear RR he b0
    go_wp2_with fail
    refine (XP.out _ S2.out.p).mono ?_
    rintro e w3 ⟨⟨v3, rfl, o3⟩, p3, m3⟩
    obtain ⟨a4, c4, rfl, q1, q2, q3⟩ := lies_owned o3
    have S3 := Lib.hid (S2.out.rd p3 m3)
    have O3 := Lib.hid (own_mid O2.out m3 (by omega))
    have lt2 := S2.out.b.lt
    have sz3 := m3.size
    have P3 := Lib.hid ((P2.out.mid m3 (by omega)).add (ad := (a4, c4)) (y := y) ⟨q1, q2⟩ (fun h0 => by
     obtain ⟨gg, e2, l1, l2, hcc⟩ := q3 h0
     exact ⟨gg, e2, by omega, l2, fun q => by have := (O2.out.lt _ q).2; omega, hcc⟩))
    clear p3 m3 S2 O2 P2 XP o3 q1 q2 q3
    have B3 := (Below.refl w3.heap.size w3).alloc (Nat.le_refl _) (.cells #[Value.slice a4 y.length c4] 28)
    have S4 := Lib.hid (S3.out.bl B3)
    have O4 := Lib.hid (own_below O3.out B3)
    have P4 := Lib.hid (P3.out.grown (below_grown B3 none) (fun k e => by cases e))
    have P3' := P3
    clear B3
    go_wp2_with (at_builtin; refine wpList_append_lies _ rfl (.tmp 17) (.tmp 20) 29 rfl (W.heap.size + 1) 28 i0 (.slice none 0 0) 1 24 Tryz.underlying29 hi0 hz0 hz1 hz2 rfl (by decide) _ _ _ rfl O4.out ⟨w3.heap.size, 0, none⟩ 1 1 [Value.slice a4 y.length c4] rfl ?qc1 ?qc2 ?qc3 ?qc4 ?qc5 ?qc6 ?qc7 _ rfl ?_)
    case qc1 => rfl
    case qc2 => exact World.news_of_block (heap_alloc_new w3 _)
    case qc3 => simp [Value.oneCell']
    case qc4 => omega
    case qc5 => unfold maxLen; omega
    case qc6 => omega
    case qc7 => have := S3.out.b.lt; simp; omega
    intro g cap w4 o4 g4 hat l4
    have S5 := Lib.hid (S4.out.app O4.out g4 ⟨by omega, by omega⟩)
    have O5 := Lib.hid (show w4.ownsRow (W.heap.size + 1) 28 1 (.slice (some ⟨g, 0, none⟩) (xs.length + 1) cap) (xs ++ [y]).length (rvV (fun k => if k = xs.length then (a4, c4) else r k) (xs ++ [y])) by
     rw [rvV_add, List.length_append]; exact o4)
    have P5 := Lib.hid ((P4.out.grown g4 (fun k e => Or.inr e)).own (v' := .slice (some ⟨g, 0, none⟩) (xs.length + 1) cap) (fun b e => by
     have e : g = b := Option.some.inj e
     subst e
     rcases hat with x | x
     ·exact Or.inl x
     ·refine Or.inr (fun k hk h0 gg e2 => ?_)
      obtain ⟨g0, e3, -, l2, -, -⟩ := (P3'.out k hk).2 h0
      rw [e3] at e2
      cases e2
      (try simp at x)
      omega))
    clear o4 g4 hat l4 S3 O3 S4 O4 P3 P4 P3'
    go_wp2
    go_roundw
    case rel => exact ⟨_, sq, _, by simp; omega, RQ.out, S5.out, O5.out, P5.out⟩
    case measure => simp [lenV]; omega
   ·have kb : (sj.err == 0) = false := beq_false_of_ne he
    have RE := Lib.hid (show (xs, sj) = R by rw [← RR.out, repR_stay _ _ he, List.append_nil])
    clear RR b0
    go_wp2
    go_ret
    rw [← RE.out]
    exact ⟨⟨_, rfl, r, O2.out, P2.out⟩, S2.out.p, S2.out.m⟩
  ·have z1 : ¬ (xs.length : Int) < (N : Int) := by omega
   have RE := Lib.hid (show (xs, sj) = R by
    rw [← RR.out, show N - xs.length = 0 by omega]
    show (xs, sj) = (xs ++ [], sj)
    rw [List.append_nil])
   clear RR b0
   go_wp2
   go_ret
   rw [← RE.out]
   exact ⟨⟨_, rfl, r, O2.out, P2.out⟩, S2.out.p, S2.out.m⟩
set_option maxRecDepth 100000 in
set_option maxHeartbeats 2000000 in
theorem rcRl (lo hi : Int) (hlo : 0 ≤ lo ∧ lo ≤ 5000) (hhi : 0 ≤ hi ∧ hi ≤ 5000) (base top : Nat) (W : World) (nb : Nat) (l : List Int) (s : IS) (hP : inTw.P base top W nb l s) :
  Calls Tryz.prog 74 #[rdV nb, .int .i64 lo, .int .i64 hi, .func (.func 75) #[rdV nb] #[]] W (LstRl base top W nb l ((lstC lo hi (lstC 2 64 placeC)).rd l s)) := by
 have S0 := Lib.hid (TrQ.new1 66 hP)
 have X := Lib.hid (iCntB lo hi (by unfold In64Y; omega) (by unfold In64Y; omega))
 have CB := cnt_bd (lo := lo) (hi := hi) hlo.1 l s
 obtain ⟨N, hN⟩ : ∃ N : Nat, cntV lo hi l s = (N : Int) := ⟨(cntV lo hi l s).toNat, by omega⟩
 rw [lst_eq (c := (lstC 2 64 placeC)) (n := cntV lo hi l s) (s' := cntS lo hi l s) (xs := (repR ((lstC 2 64 placeC).rd l) N (cntS lo hi l s)).1) (s'' := (repR ((lstC 2 64 placeC).rd l) N (cntS lo hi l s)).2) rfl (by rw [hN, show (N : Int).toNat = N from rfl])]
 have Y := Lib.hid (fun (W2 : World) (P2 : inTw.P base top W2 nb l (cntS lo hi l s)) => rqRl N (by omega) base top W2 nb l (cntS lo hi l s) P2)
 have XX := Lib.hid (fun (W2 : World) (P2 : inTw.P base top W2 nb l s) => show Calls Tryz.prog 65 #[.pointer (some ⟨nb, 0, none⟩), .int .i64 lo, .int .i64 hi] W2 fun e W' => e = .returned (.int .i64 N) ∧ inTw.P base top W' nb l (cntS lo hi l s) ∧ Mid base top W2 W' from by
  have := X.out base top W2 nb l s P2
  rw [← hN]; exact this)
 generalize cntS lo hi l s = s1 at *
 generalize repR ((lstC 2 64 placeC).rd l) N s1 = R at *
 have z0 : (0 : Int) ≤ (N : Int) := by omega
 unfold LstRl at Y
 unfold LstRl
 show Calls Tryz.prog _ #[.agg #[.pointer (some ⟨nb, 0, none⟩)], .int .i64 lo, .int .i64 hi, .func (.func 75) #[.agg #[.pointer (some ⟨nb, 0, none⟩)]] #[]] W _
 clear hP CB hN X hlo hhi
 go_enter Tryz.func74, Tryz.ntmps74
 go_wp2_with fail
 refine wp_gen (S := fun Y => TrQ base top W Y nb l s W.heap.size W.heap.size [.pointer (some ⟨nb, 0, none⟩)]) S0.out (fun W1 hS => ?_)
 have S1 := Lib.hid (hS.bl (Below.refl _ _).drew)
 clear hS S0
 refine wp_region_held_drew (S := fun Y => Y.cell? ⟨W.heap.size, 0, none⟩ = some (.pointer (some ⟨nb, 0, none⟩))) (by kernel_rfl) S1.out.held (fun hHeld => ?_)
 generalize World.drew _ = w0 at *
 refine tkQ 0 9 hHeld ?_
 (try simp only [putA, putB, putC, putD])
 refine tkQ 1 10 hHeld ?_
 (try simp only [putA, putB, putC, putD])
 refine tkQ 2 11 hHeld ?_
 (try simp only [putA, putB, putC, putD])
 refine tkQ 3 12 hHeld ?_
 (try simp only [putA, putB, putC, putD])
 refine tkQ 4 13 hHeld ?_
 (try simp only [putA, putB, putC, putD])
 refine tkQ 6 15 hHeld ?_
 (try simp only [putA, putB, putC, putD])
 refine onlD 5 (fun K hK => ?_)
 go_simp
 refine (XX.out _ S1.out.p).mono ?_
 rintro e x2 ⟨rfl, p2, m2⟩
 have S2 := Lib.hid (S1.out.rd p2 m2)
 clear p2 m2 S1 XX
 go_wp2_with fail
 refine hK.out _ _ (S2.out.held) ?_
 clear hK K hHeld
 intro hHeld
 refine onlD 7 (fun K hK => ?_)
 go_simp
 refine (Y.out _ S2.out.p).mono ?_
 rintro e x3 ⟨⟨v3, rfl, r3, o3, r4⟩, p3, m3⟩
 have sz := S2.out.b.lt
 have S3 := Lib.hid (S2.out.rd p3 m3)
 clear Y S2 p3 m3
 go_wp2_with fail
 refine hK.out _ _ (S3.out.held) ?_
 clear hK K hHeld
 intro hHeld
 refine tkQ 8 8 hHeld ?_
 (try simp only [putA, putB, putC, putD])
 refine wpAnyH_done (by kernel_rfl) ?_ _
 clear hHeld
 go_wp2
 go_ret
 exact ⟨⟨_, rfl, r3, own_mono o3 (by omega), r4.less (by omega)⟩, S3.out.p, S3.out.m⟩
abbrev tqL (rate cell cols rows x y : Int) (vh vg vk vl vr vt : Value) (sx sy head laps : Int) : List Value := [.int .i64 rate, .int .i64 cell, .int .i64 cols, .int .i64 rows, .int .i64 x, .int .i64 y, vh, vg, vk, vl, vr, vt, .int .i64 sx, .int .i64 sy, .int .u32 head, .int .i64 laps]
structure TrT (base top : Nat) (w W : World) (nb : Nat) (l : List Int) (s : IS) (bx rb tb N : Nat) (R L : List Value) (F : World → Prop) : Prop where
 p : inTw.P base top W nb l s
 m : Mid base top w W
 b : BW W bx [.pointer (some ⟨nb, 0, none⟩)]
 r : BW W rb R
 t : BW W tb L
 z : (top ≤ w.heap.size ∧ w.heap.size ≤ bx ∧ w.heap.size ≤ rb) ∧ (bx < tb ∧ rb < tb) ∧ tb < N ∧ N ≤ W.heap.size
 f : F W
 st : Stab (tb + 1) N F
theorem TrT.rd {base top : Nat} {w W W' : World} {nb : Nat} {l : List Int} {s s' : IS} {bx rb tb N : Nat} {R L : List Value} {F : World → Prop} (S : TrT base top w W nb l s bx rb tb N R L F) (p : inTw.P base top W' nb l s') (m : Mid base top W W') : TrT base top w W' nb l s' bx rb tb N R L F := by
 have z := S.z
 have h := m.size
 exact ⟨p, S.m.tr m, S.b.mid m (by omega), S.r.mid m (by omega), S.t.mid m (by omega), ⟨z.1, z.2.1, z.2.2.1, by omega⟩, S.st _ _ S.f h (fun j h1 h2 => m.block j (by omega) (Or.inr (by omega))), S.st⟩
theorem TrT.put {base top : Nat} {w W : World} {nb : Nat} {l : List Int} {s : IS} {bx rb tb N : Nat} {R L : List Value} {F : World → Prop} (S : TrT base top w W nb l s bx rb tb N R L F) (k : Nat) (v u : Value) (hu : L[k]? = some u) : TrT base top w (W.setCell ⟨tb, k, none⟩ v) nb l s bx rb tb N R (L.set k v) F := by
 have z := S.z
 have t := inTw.top S.p
 have gc := grown_cell W tb k v
 exact ⟨inTw.keep S.p gc.size (fun j _ h2 => gc.block j (by omega) (fun e => by injection e with e; omega)), ⟨gc.os.trans S.m.os, gc.tape.trans S.m.tape, gc.output.trans S.m.output, Nat.le_trans S.m.size gc.size, fun j hj ho => (gc.block j (Nat.lt_of_lt_of_le hj S.m.size) (fun e => by injection e with e; omega)).trans (S.m.block j hj ho)⟩, S.b.grown gc (fun e => by injection e with e; omega), S.r.grown gc (fun e => by injection e with e; omega), S.t.put v u hu, ⟨z.1, z.2.1, z.2.2.1, by rw [set_size]; exact z.2.2.2⟩, S.st _ _ S.f (by rw [set_size]; exact Nat.le_refl _) (fun j h1 h2 => Below.heap_setCell _ _ _ _ (by show j ≠ tb; omega)), S.st⟩
theorem TrT.lst {base top : Nat} {w W : World} {nb : Nat} {l : List Int} {s : IS} {bx rb tb N : Nat} {R L : List Value} {F G : World → Prop} (S : TrT base top w W nb l s bx rb tb N R L F) (g : G W) (sg : Stab (tb + 1) W.heap.size G) : TrT base top w W nb l s bx rb tb W.heap.size R L (fun W' => F W' ∧ G W') := by
 have z := S.z
 exact ⟨S.p, S.m, S.b, S.r, S.t, ⟨z.1, z.2.1, by omega, Nat.le_refl _⟩, ⟨S.f, g⟩, (S.st.mono (Nat.le_refl _) z.2.2.2).and sg⟩
theorem TrT.fin {base top : Nat} {w W : World} {nb : Nat} {l : List Int} {s : IS} {bx rb tb N : Nat} {R L : List Value} {F : World → Prop} (S : TrT base top w W nb l s bx rb tb N R L F) (v0 v1 v2 v3 v4 v5 v6 v7 v8 v9 v10 v11 v12 v13 v14 v15 : Value) :
  (inTw.P base top ((((((((((((((((W.setCell ⟨rb, 0, none⟩ v0).setCell ⟨rb, 1, none⟩ v1).setCell ⟨rb, 2, none⟩ v2).setCell ⟨rb, 3, none⟩ v3).setCell ⟨rb, 4, none⟩ v4).setCell ⟨rb, 5, none⟩ v5).setCell ⟨rb, 6, none⟩ v6).setCell ⟨rb, 7, none⟩ v7).setCell ⟨rb, 8, none⟩ v8).setCell ⟨rb, 9, none⟩ v9).setCell ⟨rb, 10, none⟩ v10).setCell ⟨rb, 11, none⟩ v11).setCell ⟨rb, 12, none⟩ v12).setCell ⟨rb, 13, none⟩ v13).setCell ⟨rb, 14, none⟩ v14).setCell ⟨rb, 15, none⟩ v15) nb l s ∧ Mid base top w ((((((((((((((((W.setCell ⟨rb, 0, none⟩ v0).setCell ⟨rb, 1, none⟩ v1).setCell ⟨rb, 2, none⟩ v2).setCell ⟨rb, 3, none⟩ v3).setCell ⟨rb, 4, none⟩ v4).setCell ⟨rb, 5, none⟩ v5).setCell ⟨rb, 6, none⟩ v6).setCell ⟨rb, 7, none⟩ v7).setCell ⟨rb, 8, none⟩ v8).setCell ⟨rb, 9, none⟩ v9).setCell ⟨rb, 10, none⟩ v10).setCell ⟨rb, 11, none⟩ v11).setCell ⟨rb, 12, none⟩ v12).setCell ⟨rb, 13, none⟩ v13).setCell ⟨rb, 14, none⟩ v14).setCell ⟨rb, 15, none⟩ v15)) ∧ F ((((((((((((((((W.setCell ⟨rb, 0, none⟩ v0).setCell ⟨rb, 1, none⟩ v1).setCell ⟨rb, 2, none⟩ v2).setCell ⟨rb, 3, none⟩ v3).setCell ⟨rb, 4, none⟩ v4).setCell ⟨rb, 5, none⟩ v5).setCell ⟨rb, 6, none⟩ v6).setCell ⟨rb, 7, none⟩ v7).setCell ⟨rb, 8, none⟩ v8).setCell ⟨rb, 9, none⟩ v9).setCell ⟨rb, 10, none⟩ v10).setCell ⟨rb, 11, none⟩ v11).setCell ⟨rb, 12, none⟩ v12).setCell ⟨rb, 13, none⟩ v13).setCell ⟨rb, 14, none⟩ v14).setCell ⟨rb, 15, none⟩ v15) ∧ W.heap.size ≤ ((((((((((((((((W.setCell ⟨rb, 0, none⟩ v0).setCell ⟨rb, 1, none⟩ v1).setCell ⟨rb, 2, none⟩ v2).setCell ⟨rb, 3, none⟩ v3).setCell ⟨rb, 4, none⟩ v4).setCell ⟨rb, 5, none⟩ v5).setCell ⟨rb, 6, none⟩ v6).setCell ⟨rb, 7, none⟩ v7).setCell ⟨rb, 8, none⟩ v8).setCell ⟨rb, 9, none⟩ v9).setCell ⟨rb, 10, none⟩ v10).setCell ⟨rb, 11, none⟩ v11).setCell ⟨rb, 12, none⟩ v12).setCell ⟨rb, 13, none⟩ v13).setCell ⟨rb, 14, none⟩ v14).setCell ⟨rb, 15, none⟩ v15).heap.size := by
 have z := S.z
 have t := inTw.top S.p
 have G : W.grownBy ((((((((((((((((W.setCell ⟨rb, 0, none⟩ v0).setCell ⟨rb, 1, none⟩ v1).setCell ⟨rb, 2, none⟩ v2).setCell ⟨rb, 3, none⟩ v3).setCell ⟨rb, 4, none⟩ v4).setCell ⟨rb, 5, none⟩ v5).setCell ⟨rb, 6, none⟩ v6).setCell ⟨rb, 7, none⟩ v7).setCell ⟨rb, 8, none⟩ v8).setCell ⟨rb, 9, none⟩ v9).setCell ⟨rb, 10, none⟩ v10).setCell ⟨rb, 11, none⟩ v11).setCell ⟨rb, 12, none⟩ v12).setCell ⟨rb, 13, none⟩ v13).setCell ⟨rb, 14, none⟩ v14).setCell ⟨rb, 15, none⟩ v15) (some rb) := (((((((((((((((grown_cell W rb 0 v0).trans (grown_cell _ rb 1 v1)).trans (grown_cell _ rb 2 v2)).trans (grown_cell _ rb 3 v3)).trans (grown_cell _ rb 4 v4)).trans (grown_cell _ rb 5 v5)).trans (grown_cell _ rb 6 v6)).trans (grown_cell _ rb 7 v7)).trans (grown_cell _ rb 8 v8)).trans (grown_cell _ rb 9 v9)).trans (grown_cell _ rb 10 v10)).trans (grown_cell _ rb 11 v11)).trans (grown_cell _ rb 12 v12)).trans (grown_cell _ rb 13 v13)).trans (grown_cell _ rb 14 v14)).trans (grown_cell _ rb 15 v15)
 exact ⟨⟨inTw.keep S.p G.size (fun j _ h2 => G.block j (by omega) (fun e => by injection e with e; omega)), ⟨G.os.trans S.m.os, G.tape.trans S.m.tape, G.output.trans S.m.output, Nat.le_trans S.m.size G.size, fun j hj ho => (G.block j (Nat.lt_of_lt_of_le hj S.m.size) (fun e => by injection e with e; omega)).trans (S.m.block j hj ho)⟩⟩, S.st _ _ S.f G.size (fun j h1 h2 => G.block j (by omega) (fun q => by injection q with q; omega)), G.size⟩
def AlD (lo hi : Nat) (ad : TAd) (d : TD) (W : World) : Prop :=
 ∃ nb tb M4 M5 M6, (lo ≤ nb ∧ lo ≤ tb ∧ lo ≤ M4 ∧ lo ≤ M5) ∧ (tb ≤ hi ∧ M4 ≤ hi ∧ M5 ≤ hi ∧ M6 ≤ hi) ∧ AlF nb tb M4 M5 M6 ad d W
theorem AlD.stab (lo hi : Nat) (ad : TAd) (d : TD) : Stab lo hi (AlD lo hi ad d) := fun W W' ⟨nb, tb, M4, M5, M6, h1, h2, F⟩ hs k => by
 have LS : ∀ (a b : Nat) (v : Value) (n : Nat) (xs : List Value), lo ≤ a → b ≤ hi → Lies a b v n xs W → Lies a b v n xs W' := fun a b v n xs ha hb h => (Lies.stab a b v n xs) W W' h hs (fun j j1 j2 => k j (by omega) (by omega))
 obtain ⟨⟨⟨⟨fH, fG, fK⟩, fL⟩, fR⟩, fT⟩ := F
 exact ⟨nb, tb, M4, M5, M6, h1, h2, ⟨⟨⟨LS _ _ _ _ _ (by omega) (by omega) fH, LS _ _ _ _ _ (by omega) (by omega) fG, LS _ _ _ _ _ (by omega) (by omega) fK⟩, LS _ _ _ _ _ (by omega) (by omega) fL⟩, (RlF.stab M4 M5 _ _ _) W W' fR hs (fun j j1 j2 => k j (by omega) (by omega))⟩, LS _ _ _ _ _ (by omega) (by omega) fT⟩
set_option maxRecDepth 100000 in
set_option maxHeartbeats 8000000 in
theorem rTrack (base top : Nat) (W : World) (nb : Nat) (l : List Int) (s : IS) (hP : inTw.P base top W nb l s) :
  Calls Tryz.prog 27 #[rdV nb] W fun e W' => (∃ ad, e = .returned (.agg (tdL ad (trackCod.rd l s).1).toArray) ∧ AlD W.heap.size W'.heap.size ad (trackCod.rd l s).1 W') ∧ inTw.P base top W' nb l (trackCod.rd l s).2 ∧ Mid base top W W' := by
 obtain ⟨⟨u0, t1⟩, e1⟩ : ∃ q, (markC chtr).rd l s = q := ⟨_, rfl⟩
 obtain ⟨⟨rate, t2⟩, e2⟩ : ∃ q, (cntC 60 1024).rd l t1 = q := ⟨_, rfl⟩
 obtain ⟨⟨cell, t3⟩, e3⟩ : ∃ q, numC.rd l t2 = q := ⟨_, rfl⟩
 obtain ⟨⟨cols, t4⟩, e4⟩ : ∃ q, (cntC 1 64).rd l t3 = q := ⟨_, rfl⟩
 obtain ⟨⟨rows, t5⟩, e5⟩ : ∃ q, (cntC 1 64).rd l t4 = q := ⟨_, rfl⟩
 obtain ⟨⟨⟨px, py⟩, t6⟩, e6⟩ : ∃ q, placeC.rd l t5 = q := ⟨_, rfl⟩
 obtain ⟨⟨H, t7⟩, e7⟩ : ∃ q, (repC ((cols + 1) * (rows + 1)).toNat numC).rd l t6 = q := ⟨_, rfl⟩
 obtain ⟨⟨G, t8⟩, e8⟩ : ∃ q, (repC (cols * rows).toNat (cntC 0 7)).rd l t7 = q := ⟨_, rfl⟩
 obtain ⟨⟨K, s1⟩, e9⟩ : ∃ q, (lstC 1 8 kindC).rd l t8 = q := ⟨_, rfl⟩
 obtain ⟨⟨L, s2⟩, f1⟩ : ∃ q, (lstC 3 64 placeC).rd l s1 = q := ⟨_, rfl⟩
 obtain ⟨⟨RR, s4⟩, f3⟩ : ∃ q, (lstC 0 16 (lstC 2 64 placeC)).rd l s2 = q := ⟨_, rfl⟩
 obtain ⟨⟨TT, s6⟩, f5⟩ : ∃ q, (lstC 1 16 gateC).rd l s4 = q := ⟨_, rfl⟩
 obtain ⟨⟨⟨sx, sy⟩, s7⟩, f6⟩ : ∃ q, placeC.rd l s6 = q := ⟨_, rfl⟩
 obtain ⟨⟨head, s8⟩, f7⟩ : ∃ q, headC.rd l s7 = q := ⟨_, rfl⟩
 obtain ⟨⟨laps, s9⟩, f8⟩ : ∃ q, (cntC 1 100).rd l s8 = q := ⟨_, rfl⟩
 have ET : trackC0.rd l s = ((u0, rate, cell, cols, rows, (px, py), H, G, K, L, RR, TT, (sx, sy), head, laps), s9) :=
  bind_eq e1 (bind_eq e2 (bind_eq e3 (bind_eq e4 (bind_eq e5 (bind_eq e6 (bind_eq e7 (bind_eq e8 (bind_eq e9 (bind_eq f1 (bind_eq f3 (bind_eq f5 (bind_eq f6 (bind_eq f7 f8)))))))))))))
 have ED : trackCod.rd l s = (⟨rate, cell, cols, rows, (px, py), H, G, K, L, RR, TT, (sx, sy), head, laps⟩, s9) := by
  show ((_ : TD), (trackC0.rd l s).2) = _
  rw [ET]
 rw [ED]
 have c1 : 0 ≤ cols ∧ cols ≤ 64 := by have := cnt_bd (lo := 1) (hi := 64) (by omega) l t3; have e : cntV 1 64 l t3 = cols := congrArg Prod.fst e4; omega
 have c2 : 0 ≤ rows ∧ rows ≤ 64 := by have := cnt_bd (lo := 1) (hi := 64) (by omega) l t4; have e : cntV 1 64 l t4 = rows := congrArg Prod.fst e5; omega
 have p1 := mul_64 (a := cols + 1) (b := rows + 1) (by omega) (by omega) (by omega) (by omega)
 have p2 : 0 ≤ cols * rows ∧ cols * rows ≤ 4096 := ⟨Int.mul_nonneg c1.1 c2.1, by have := Int.mul_le_mul c1.2 c2.2 c2.1 (by omega : (0 : Int) ≤ 64); omega⟩
 obtain ⟨NH, hNH⟩ : ∃ N : Nat, (cols + 1) * (rows + 1) = (N : Int) := ⟨((cols + 1) * (rows + 1)).toNat, by omega⟩
 obtain ⟨NG, hNG⟩ : ∃ N : Nat, cols * rows = (N : Int) := ⟨(cols * rows).toNat, by omega⟩
 have X1 := Lib.hid (fun (Y : World) (P : inTw.P base top Y nb l s) => iMrkB chtr base top Y nb l s P)
 have X2 := Lib.hid (fun (Y : World) (P : inTw.P base top Y nb l t1) => iCntB 60 1024 (by unfold In64Y; omega) (by unfold In64Y; omega) base top Y nb l t1 P)
 have X3 := Lib.hid (fun (Y : World) (P : inTw.P base top Y nb l t2) => rNumber base top Y nb l t2 P)
 have X4 := Lib.hid (fun (Y : World) (P : inTw.P base top Y nb l t3) => iCntB 1 64 (by unfold In64Y; omega) (by unfold In64Y; omega) base top Y nb l t3 P)
 have X5 := Lib.hid (fun (Y : World) (P : inTw.P base top Y nb l t4) => iCntB 1 64 (by unfold In64Y; omega) (by unfold In64Y; omega) base top Y nb l t4 P)
 have X6 := Lib.hid (fun (Y : World) (P : inTw.P base top Y nb l t5) => rPlace base top Y nb l t5 P)
 have X7 := Lib.hid (fun (Y : World) (P : inTw.P base top Y nb l t6) => rqFx NH (by omega) base top Y nb l t6 P)
 have X8 := Lib.hid (fun (Y : World) (P : inTw.P base top Y nb l t7) => rqInt NG (by omega) base top Y nb l t7 P)
 have X9 := Lib.hid (fun (Y : World) (P : inTw.P base top Y nb l t8) => rcKind 1 8 (by omega) (by omega) base top Y nb l t8 P)
 have X10 := Lib.hid (fun (Y : World) (P : inTw.P base top Y nb l s1) => rcV2 3 64 (by omega) (by omega) base top Y nb l s1 P)
 have X11 := Lib.hid (fun (Y : World) (P : inTw.P base top Y nb l s2) => rcRl 0 16 (by omega) (by omega) base top Y nb l s2 P)
 have X12 := Lib.hid (fun (Y : World) (P : inTw.P base top Y nb l s4) => rcGate 1 16 (by omega) (by omega) base top Y nb l s4 P)
 have X13 := Lib.hid (fun (Y : World) (P : inTw.P base top Y nb l s6) => rPlace base top Y nb l s6 P)
 have X14 := Lib.hid (fun (Y : World) (P : inTw.P base top Y nb l s7) => rAngle base top Y nb l s7 P)
 have X15 := Lib.hid (fun (Y : World) (P : inTw.P base top Y nb l s8) => iCntB 1 100 (by unfold In64Y; omega) (by unfold In64Y; omega) base top Y nb l s8 P)
 have e7' : repR (numC.rd l) NH t6 = (H, t7) := by rw [hNH] at e7; exact e7
 have e8' : repR ((cntC 0 7).rd l) NG t7 = (G, t8) := by rw [hNG] at e8; exact e8
 unfold LstR at X7 X8
 unfold LstKind LstR at X9
 unfold LstV2 LstR at X10
 unfold LstRl at X11
 unfold LstGate LstR at X12
 rw [e1] at X1
 rw [e2] at X2
 rw [e3] at X3
 rw [e4] at X4
 rw [e5] at X5
 rw [e6] at X6
 rw [e7'] at X7
 rw [e8'] at X8
 rw [e9] at X9
 rw [f1] at X10
 rw [f3] at X11
 rw [f5] at X12
 rw [f6] at X13
 rw [f7] at X14
 rw [f8] at X15
 dsimp only at X1 X2 X3 X4 X5 X6 X7 X8 X9 X10 X11 X12 X13 X14 X15
 have QH := Lib.hid (show (cols + 1) * (rows + 1) = (NH : Int) ∧ NH ≤ 4225 by omega)
 have QG := Lib.hid (show cols * rows = (NG : Int) ∧ NG ≤ 4225 by omega)
 have S0 := Lib.hid (show TrT base top W (((W.alloc (.cells #[.pointer (some ⟨nb, 0, none⟩)] 66)).alloc (.cells (gdL 0 0 0 0 0 0 sl0 sl0 sl0).toArray 34)).alloc (.cells (gdL 0 0 0 0 0 0 sl0 sl0 sl0).toArray 34)) nb l s W.heap.size (W.heap.size + 1) (W.heap.size + 1 + 1) (W.heap.size + 1 + 1 + 1) (gdL 0 0 0 0 0 0 sl0 sl0 sl0) (gdL 0 0 0 0 0 0 sl0 sl0 sl0) (fun _ => True) from by
  have S := TrQ.new2 66 34 (gdL 0 0 0 0 0 0 sl0 sl0 sl0) hP
  have lt := S.r.lt
  have n1 : ((W.alloc (.cells #[.pointer (some ⟨nb, 0, none⟩)] 66)).alloc (.cells (gdL 0 0 0 0 0 0 sl0 sl0 sl0).toArray 34)).heap.size = W.heap.size + 1 + 1 := by simp
  have S' := S.bl ((Below.refl _ _).alloc (Nat.le_refl _) (.cells (gdL 0 0 0 0 0 0 sl0 sl0 sl0).toArray 34))
  have z := S.z
  exact ⟨S'.p, S'.m, S'.b, S'.r, BW.new _ _ (gdL 0 0 0 0 0 0 sl0 sl0 sl0) 34 n1.symm, ⟨z, by omega, by omega, by simp⟩, trivial, fun _ _ _ _ _ => trivial⟩)
 have tt := (inTw.top hP).2
 clear hP e1 e2 e3 e4 e5 e6 e7 e8 e9 f1 f3 f5 f6 f7 f8 ET ED p1 p2 hNH hNG e7' e8'
 show Calls Tryz.prog _ #[.agg #[.pointer (some ⟨nb, 0, none⟩)]] W _
 go_enter Tryz.func27, Tryz.ntmps27
 go_wp2_with fail
 refine calls_gen (S := fun Y => TrT base top W Y nb l s W.heap.size (W.heap.size + 1) (W.heap.size + 1 + 1) (W.heap.size + 1 + 1 + 1) (gdL 0 0 0 0 0 0 sl0 sl0 sl0) (gdL 0 0 0 0 0 0 sl0 sl0 sl0) (fun _ => True)) S0.out (fun W1 hS => ?_)
 have S1 := Lib.hid hS
 clear hS S0
 refine (X1.out _ S1.out.p).mono ?_
 rintro e x2 ⟨rfl, p, m⟩
 have S2 := Lib.hid (S1.out.rd p m)
 clear p m S1 X1
 have b0 := S2.out.b.c 0 _ rfl
 go_wp2_with fail
 refine (X2.out _ S2.out.p).mono ?_
 rintro e x3 ⟨rfl, p, m⟩
 have Z3 := Lib.hid (S2.out.rd p m)
 clear p m S2 X2 b0
 (try clear tc tf tl)
 (try clear td)
 have tc := Z3.out.t.c 0 _ rfl
 have tf := Z3.out.t.f
 have tl := Z3.out.t.lt
 skip
 have S3 := Lib.hid (show TrT base top W _ nb l _ W.heap.size (W.heap.size + 1) (W.heap.size + 1 + 1) _ _ (tqL rate 0 0 0 0 0 sl0 sl0 sl0 sl0 sl0 sl0 0 0 0 0) _ from Z3.out.put 0 (.int .i64 rate) _ rfl)
 have b0 := S3.out.b.c 0 _ rfl
 clear Z3
 go_wp2_with fail
 refine (X3.out _ S3.out.p).mono ?_
 rintro e x4 ⟨rfl, p, m⟩
 have Z4 := Lib.hid (S3.out.rd p m)
 clear p m S3 X3 b0
 (try clear tc tf tl)
 (try clear td)
 have tc := Z4.out.t.c 1 _ rfl
 have tf := Z4.out.t.f
 have tl := Z4.out.t.lt
 skip
 have S4 := Lib.hid (show TrT base top W _ nb l _ W.heap.size (W.heap.size + 1) (W.heap.size + 1 + 1) _ _ (tqL rate cell 0 0 0 0 sl0 sl0 sl0 sl0 sl0 sl0 0 0 0 0) _ from Z4.out.put 1 (.int .i64 cell) _ rfl)
 have b0 := S4.out.b.c 0 _ rfl
 clear Z4
 go_wp2_with fail
 refine (X4.out _ S4.out.p).mono ?_
 rintro e x5 ⟨rfl, p, m⟩
 have Z5 := Lib.hid (S4.out.rd p m)
 clear p m S4 X4 b0
 (try clear tc tf tl)
 (try clear td)
 have tc := Z5.out.t.c 2 _ rfl
 have tf := Z5.out.t.f
 have tl := Z5.out.t.lt
 skip
 have S5 := Lib.hid (show TrT base top W _ nb l _ W.heap.size (W.heap.size + 1) (W.heap.size + 1 + 1) _ _ (tqL rate cell cols 0 0 0 sl0 sl0 sl0 sl0 sl0 sl0 0 0 0 0) _ from Z5.out.put 2 (.int .i64 cols) _ rfl)
 have b0 := S5.out.b.c 0 _ rfl
 clear Z5
 go_wp2_with fail
 refine (X5.out _ S5.out.p).mono ?_
 rintro e x6 ⟨rfl, p, m⟩
 have Z6 := Lib.hid (S5.out.rd p m)
 clear p m S5 X5 b0
 (try clear tc tf tl)
 (try clear td)
 have tc := Z6.out.t.c 3 _ rfl
 have tf := Z6.out.t.f
 have tl := Z6.out.t.lt
 skip
 have S6 := Lib.hid (show TrT base top W _ nb l _ W.heap.size (W.heap.size + 1) (W.heap.size + 1 + 1) _ _ (tqL rate cell cols rows 0 0 sl0 sl0 sl0 sl0 sl0 sl0 0 0 0 0) _ from Z6.out.put 3 (.int .i64 rows) _ rfl)
 have b0 := S6.out.b.c 0 _ rfl
 clear Z6
 go_wp2_with fail
 refine (X6.out _ S6.out.p).mono ?_
 rintro e x7 ⟨rfl, p, m⟩
 have Z7 := Lib.hid (S6.out.rd p m)
 clear p m S6 X6 b0
 (try clear tc tf tl)
 (try clear td)
 have tc := Z7.out.t.c 4 _ rfl
 have tf := Z7.out.t.f
 have tl := Z7.out.t.lt
 have td := Z7.out.t.c 5 _ rfl
 have S7 := Lib.hid (show TrT base top W _ nb l _ W.heap.size (W.heap.size + 1) (W.heap.size + 1 + 1) _ _ (tqL rate cell cols rows px py sl0 sl0 sl0 sl0 sl0 sl0 0 0 0 0) _ from (Z7.out.put 4 (.int .i64 px) _ rfl).put 5 (.int .i64 py) _ rfl)
 have b0 := S7.out.b.c 0 _ rfl
 clear Z7
 have d2 := S7.out.t.c 2 _ rfl
 have d3 := S7.out.t.c 3 _ rfl
 have q1 := QH.out.1
 have q2 := QG.out.1
 have u3 : IntKind.i64.wrap ((cols + 1) * (rows + 1)) = (NH : Int) := by rw [q1]; exact (wrap_in' (by have := QH.out.2; unfold In64; omega)).1
 have v3 : wrap64 ((cols + 1) * (rows + 1)) = (NH : Int) := by rw [q1]; exact (wrap_in' (by have := QH.out.2; unfold In64; omega)).2
 have u4 : IntKind.i64.wrap (cols * rows) = (NG : Int) := by rw [q2]; exact (wrap_in' (by have := QG.out.2; unfold In64; omega)).1
 have v4 : wrap64 (cols * rows) = (NG : Int) := by rw [q2]; exact (wrap_in' (by have := QG.out.2; unfold In64; omega)).2
 obtain ⟨c10, c11⟩ := c1
 obtain ⟨c20, c21⟩ := c2
 clear q1 q2
 go_wp2_with fail
 refine (X7.out _ S7.out.p).mono ?_
 rintro e x8 ⟨⟨v8, rfl, o⟩, p, m⟩
 obtain ⟨aH, cH, rfl, -, -, -⟩ := lies_owned o
 have Y8 := Lib.hid (S7.out.rd p m)
 have y8 := S7.out.z
 have z8 := m.size
 have Z8 := Lib.hid (Y8.out.lst (G := fun V => Lies (W.heap.size + 1 + 1 + 1) x8.heap.size (.slice aH H.length cH) H.length (inV H) V) ((lies_owned o).mono (by omega) (Nat.le_refl _)) ((Lies.stab _ _ _ _ _).mono (by omega) (Nat.le_refl _)))
 clear p m S7 X7 b0 o Y8
 (try clear tc tf tl)
 (try clear td)
 have tc := Z8.out.t.c 6 _ rfl
 have tf := Z8.out.t.f
 have tl := Z8.out.t.lt
 skip
 have S8 := Lib.hid (show TrT base top W _ nb l _ W.heap.size (W.heap.size + 1) (W.heap.size + 1 + 1) _ _ (tqL rate cell cols rows px py (.slice aH H.length cH) sl0 sl0 sl0 sl0 sl0 0 0 0 0) _ from Z8.out.put 6 (.slice aH H.length cH) _ rfl)
 have b0 := S8.out.b.c 0 _ rfl
 clear Z8
 clear d2 d3
 have d2 := S8.out.t.c 2 _ rfl
 have d3 := S8.out.t.c 3 _ rfl
 go_wp2_with fail
 refine (X8.out _ S8.out.p).mono ?_
 rintro e x9 ⟨⟨v9, rfl, o⟩, p, m⟩
 obtain ⟨aG, cG, rfl, -, -, -⟩ := lies_owned o
 have Y9 := Lib.hid (S8.out.rd p m)
 have y9 := S8.out.z
 have z9 := m.size
 have Z9 := Lib.hid (Y9.out.lst (G := fun V => Lies (W.heap.size + 1 + 1 + 1) x9.heap.size (.slice aG G.length cG) G.length (inV G) V) ((lies_owned o).mono (by omega) (Nat.le_refl _)) ((Lies.stab _ _ _ _ _).mono (by omega) (Nat.le_refl _)))
 clear p m S8 X8 b0 o Y9
 (try clear tc tf tl)
 (try clear td)
 have tc := Z9.out.t.c 7 _ rfl
 have tf := Z9.out.t.f
 have tl := Z9.out.t.lt
 skip
 have S9 := Lib.hid (show TrT base top W _ nb l _ W.heap.size (W.heap.size + 1) (W.heap.size + 1 + 1) _ _ (tqL rate cell cols rows px py (.slice aH H.length cH) (.slice aG G.length cG) sl0 sl0 sl0 sl0 0 0 0 0) _ from Z9.out.put 7 (.slice aG G.length cG) _ rfl)
 have b0 := S9.out.b.c 0 _ rfl
 clear Z9
 clear d2 d3 u3 v3 u4 v4 c10 c11 c20 c21
 go_wp2_with fail
 refine (X9.out _ S9.out.p).mono ?_
 rintro e x10 ⟨⟨v10, rfl, o⟩, p, m⟩
 obtain ⟨aK, cK, rfl, -, -, -⟩ := lies_owned o
 have Y10 := Lib.hid (S9.out.rd p m)
 have y10 := S9.out.z
 have z10 := m.size
 have Z10 := Lib.hid (Y10.out.lst (G := fun V => Lies (W.heap.size + 1 + 1 + 1) x10.heap.size (.slice aK K.length cK) K.length (kdV K) V) ((lies_owned o).mono (by omega) (Nat.le_refl _)) ((Lies.stab _ _ _ _ _).mono (by omega) (Nat.le_refl _)))
 clear p m S9 X9 b0 o Y10
 (try clear tc tf tl)
 (try clear td)
 have tc := Z10.out.t.c 8 _ rfl
 have tf := Z10.out.t.f
 have tl := Z10.out.t.lt
 skip
 have S10 := Lib.hid (show TrT base top W _ nb l _ W.heap.size (W.heap.size + 1) (W.heap.size + 1 + 1) _ _ (tqL rate cell cols rows px py (.slice aH H.length cH) (.slice aG G.length cG) (.slice aK K.length cK) sl0 sl0 sl0 0 0 0 0) _ from Z10.out.put 8 (.slice aK K.length cK) _ rfl)
 have b0 := S10.out.b.c 0 _ rfl
 clear Z10
 go_wp2_with fail
 refine (X10.out _ S10.out.p).mono ?_
 rintro e x11 ⟨⟨v11, rfl, o⟩, p, m⟩
 obtain ⟨aL, cL, rfl, -, -, -⟩ := lies_owned o
 have Y11 := Lib.hid (S10.out.rd p m)
 have y11 := S10.out.z
 have z11 := m.size
 have Z11 := Lib.hid (Y11.out.lst (G := fun V => Lies (x10.heap.size + 1) x11.heap.size (.slice aL L.length cL) L.length (ptV L) V) ((lies_owned o).mono (by omega) (Nat.le_refl _)) ((Lies.stab _ _ _ _ _).mono (by omega) (Nat.le_refl _)))
 clear p m S10 X10 b0 o Y11
 (try clear tc tf tl)
 (try clear td)
 have tc := Z11.out.t.c 9 _ rfl
 have tf := Z11.out.t.f
 have tl := Z11.out.t.lt
 skip
 have S11 := Lib.hid (show TrT base top W _ nb l _ W.heap.size (W.heap.size + 1) (W.heap.size + 1 + 1) _ _ (tqL rate cell cols rows px py (.slice aH H.length cH) (.slice aG G.length cG) (.slice aK K.length cK) (.slice aL L.length cL) sl0 sl0 0 0 0 0) _ from Z11.out.put 9 (.slice aL L.length cL) _ rfl)
 have b0 := S11.out.b.c 0 _ rfl
 clear Z11
 go_wp2_with fail
 refine (X11.out _ S11.out.p).mono ?_
 rintro e x12 ⟨⟨v12, rfl, r, o, hr⟩, p, m⟩
 obtain ⟨aR, cR, rfl, -, -, -⟩ := lies_owned o
 have Y12 := Lib.hid (S11.out.rd p m)
 have y12 := S11.out.z
 have z12 := m.size
 have Z12 := Lib.hid (Y12.out.lst (G := fun V => RlF x11.heap.size x12.heap.size (.slice aR RR.length cR) r RR V) ⟨(lies_owned o).mono (by omega) (Nat.le_refl _), fun k hk => ⟨(hr k hk).1, fun h0 => (by obtain ⟨g, e, l1, l2, -, hc⟩ := (hr k hk).2 h0; exact ⟨g, e, by omega, l2, hc⟩)⟩⟩ ((RlF.stab _ _ _ _ _).mono (by omega) (Nat.le_refl _)))
 clear p m S11 X11 b0 o Y12
 (try clear tc tf tl)
 (try clear td)
 have tc := Z12.out.t.c 10 _ rfl
 have tf := Z12.out.t.f
 have tl := Z12.out.t.lt
 skip
 have S12 := Lib.hid (show TrT base top W _ nb l _ W.heap.size (W.heap.size + 1) (W.heap.size + 1 + 1) _ _ (tqL rate cell cols rows px py (.slice aH H.length cH) (.slice aG G.length cG) (.slice aK K.length cK) (.slice aL L.length cL) (.slice aR RR.length cR) sl0 0 0 0 0) _ from Z12.out.put 10 (.slice aR RR.length cR) _ rfl)
 have b0 := S12.out.b.c 0 _ rfl
 clear Z12
 go_wp2_with fail
 refine (X12.out _ S12.out.p).mono ?_
 rintro e x13 ⟨⟨v13, rfl, o⟩, p, m⟩
 obtain ⟨aT, cT, rfl, -, -, -⟩ := lies_owned o
 have Y13 := Lib.hid (S12.out.rd p m)
 have y13 := S12.out.z
 have z13 := m.size
 have Z13 := Lib.hid (Y13.out.lst (G := fun V => Lies x12.heap.size x13.heap.size (.slice aT TT.length cT) TT.length (gtV TT) V) ((lies_owned o).mono (by omega) (Nat.le_refl _)) ((Lies.stab _ _ _ _ _).mono (by omega) (Nat.le_refl _)))
 clear p m S12 X12 b0 o Y13
 (try clear tc tf tl)
 (try clear td)
 have tc := Z13.out.t.c 11 _ rfl
 have tf := Z13.out.t.f
 have tl := Z13.out.t.lt
 skip
 have S13 := Lib.hid (show TrT base top W _ nb l _ W.heap.size (W.heap.size + 1) (W.heap.size + 1 + 1) _ _ (tqL rate cell cols rows px py (.slice aH H.length cH) (.slice aG G.length cG) (.slice aK K.length cK) (.slice aL L.length cL) (.slice aR RR.length cR) (.slice aT TT.length cT) 0 0 0 0) _ from Z13.out.put 11 (.slice aT TT.length cT) _ rfl)
 have b0 := S13.out.b.c 0 _ rfl
 clear Z13
 go_wp2_with fail
 refine (X13.out _ S13.out.p).mono ?_
 rintro e x14 ⟨rfl, p, m⟩
 have Z14 := Lib.hid (S13.out.rd p m)
 clear p m S13 X13 b0
 (try clear tc tf tl)
 (try clear td)
 have tc := Z14.out.t.c 12 _ rfl
 have tf := Z14.out.t.f
 have tl := Z14.out.t.lt
 have td := Z14.out.t.c 13 _ rfl
 have S14 := Lib.hid (show TrT base top W _ nb l _ W.heap.size (W.heap.size + 1) (W.heap.size + 1 + 1) _ _ (tqL rate cell cols rows px py (.slice aH H.length cH) (.slice aG G.length cG) (.slice aK K.length cK) (.slice aL L.length cL) (.slice aR RR.length cR) (.slice aT TT.length cT) sx sy 0 0) _ from (Z14.out.put 12 (.int .i64 sx) _ rfl).put 13 (.int .i64 sy) _ rfl)
 have b0 := S14.out.b.c 0 _ rfl
 clear Z14
 go_wp2_with fail
 refine (X14.out _ S14.out.p).mono ?_
 rintro e x15 ⟨rfl, p, m⟩
 have Z15 := Lib.hid (S14.out.rd p m)
 clear p m S14 X14 b0
 (try clear tc tf tl)
 (try clear td)
 have tc := Z15.out.t.c 14 _ rfl
 have tf := Z15.out.t.f
 have tl := Z15.out.t.lt
 skip
 have S15 := Lib.hid (show TrT base top W _ nb l _ W.heap.size (W.heap.size + 1) (W.heap.size + 1 + 1) _ _ (tqL rate cell cols rows px py (.slice aH H.length cH) (.slice aG G.length cG) (.slice aK K.length cK) (.slice aL L.length cL) (.slice aR RR.length cR) (.slice aT TT.length cT) sx sy head 0) _ from Z15.out.put 14 (.int .u32 head) _ rfl)
 have b0 := S15.out.b.c 0 _ rfl
 clear Z15
 go_wp2_with fail
 refine (X15.out _ S15.out.p).mono ?_
 rintro e x16 ⟨rfl, p, m⟩
 have Z16 := Lib.hid (S15.out.rd p m)
 clear p m S15 X15 b0
 (try clear tc tf tl)
 (try clear td)
 have tc := Z16.out.t.c 15 _ rfl
 have tf := Z16.out.t.f
 have tl := Z16.out.t.lt
 skip
 have S16 := Lib.hid (show TrT base top W _ nb l _ W.heap.size (W.heap.size + 1) (W.heap.size + 1 + 1) _ _ (tqL rate cell cols rows px py (.slice aH H.length cH) (.slice aG G.length cG) (.slice aK K.length cK) (.slice aL L.length cL) (.slice aR RR.length cR) (.slice aT TT.length cT) sx sy head laps) _ from Z16.out.put 15 (.int .i64 laps) _ rfl)
 have b0 := S16.out.b.c 0 _ rfl
 clear Z16
 have t0 := S16.out.t.c 0 _ rfl
 have t1 := S16.out.t.c 1 _ rfl
 have t2 := S16.out.t.c 2 _ rfl
 have t3 := S16.out.t.c 3 _ rfl
 have t4 := S16.out.t.c 4 _ rfl
 have t5 := S16.out.t.c 5 _ rfl
 have t6 := S16.out.t.c 6 _ rfl
 have t7 := S16.out.t.c 7 _ rfl
 have t8 := S16.out.t.c 8 _ rfl
 have t9 := S16.out.t.c 9 _ rfl
 have t10 := S16.out.t.c 10 _ rfl
 have t11 := S16.out.t.c 11 _ rfl
 have t12 := S16.out.t.c 12 _ rfl
 have t13 := S16.out.t.c 13 _ rfl
 have t14 := S16.out.t.c 14 _ rfl
 have t15 := S16.out.t.c 15 _ rfl
 have r0 := S16.out.r.c 0 _ rfl
 have r1 := S16.out.r.c 1 _ rfl
 have r2 := S16.out.r.c 2 _ rfl
 have r3 := S16.out.r.c 3 _ rfl
 have r4 := S16.out.r.c 4 _ rfl
 have r5 := S16.out.r.c 5 _ rfl
 have r6 := S16.out.r.c 6 _ rfl
 have r7 := S16.out.r.c 7 _ rfl
 have r8 := S16.out.r.c 8 _ rfl
 have r9 := S16.out.r.c 9 _ rfl
 have r10 := S16.out.r.c 10 _ rfl
 have r11 := S16.out.r.c 11 _ rfl
 have r12 := S16.out.r.c 12 _ rfl
 have r13 := S16.out.r.c 13 _ rfl
 have r14 := S16.out.r.c 14 _ rfl
 have r15 := S16.out.r.c 15 _ rfl
 have tl2 := S16.out.t.lt
 have rf := S16.out.r.f
 have rl := S16.out.r.lt
 clear b0
 go_wp2
 have FN := S16.out.fin (.int .i64 rate) (.int .i64 cell) (.int .i64 cols) (.int .i64 rows) (.int .i64 px) (.int .i64 py) (.slice aH H.length cH) (.slice aG G.length cG) (.slice aK K.length cK) (.slice aL L.length cL) (.slice aR RR.length cR) (.slice aT TT.length cT) (.int .i64 sx) (.int .i64 sy) (.int .u32 head) (.int .i64 laps)
 have zz := S16.out.z
 refine bodyPost_ret (v := .agg #[.int .i64 rate, .int .i64 cell, .int .i64 cols, .int .i64 rows, .int .i64 px, .int .i64 py, .slice aH H.length cH, .slice aG G.length cG, .slice aK K.length cK, .slice aL L.length cL, .slice aR RR.length cR, .slice aT TT.length cT, .int .i64 sx, .int .i64 sy, .int .u32 head, .int .i64 laps]) (by simp [results, Tryz.results27, go_sem, r0, r1, r2, r3, r4, r5, r6, r7, r8, r9, r10, r11, r12, r13, r14, r15]) rfl ?_
 refine ⟨⟨(⟨(aH, cH), (aG, cG), (aK, cK), (aL, cL), (aR, cR), (aT, cT), r⟩ : TAd), rfl, ?_⟩, FN.1⟩
 have F3 := FN.2.2
 obtain ⟨⟨⟨⟨⟨⟨-, gH⟩, gG⟩, gK⟩, gL⟩, gR⟩, gT⟩ := FN.2.1
 refine ⟨W.heap.size + 1 + 1, x10.heap.size, x11.heap.size, x12.heap.size, x13.heap.size, by omega, by omega, ?_⟩
 exact ⟨⟨⟨⟨gH.mono (Nat.le_refl _) (by omega), gG.mono (Nat.le_refl _) (by omega), gK⟩, gL⟩, gR⟩, gT⟩
end Go.Proofs.YtmdjnamkbekjkaaGreatDoor

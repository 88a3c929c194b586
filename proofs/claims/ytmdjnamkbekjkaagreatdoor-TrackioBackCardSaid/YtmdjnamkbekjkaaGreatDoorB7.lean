/- -/
import Derived.Test.YtmdjnamkbekjkaaGreatDoorBt
import Derived.BigQuiet
import Derived.Test.YtmdjnamkbekjkaaGreatDoorBk
import Derived.Laws.BytesArg
import Derived.Deep.Slices
import Derived.ChangeSame
import Derived.ChangeArms
import Derived.Laws.IdiomStrings
namespace Go.Proofs.YtmdjnamkbekjkaaGreatDoor
open Go.RowKit
set_option linter.unusedVariables false
set_option linter.unusedSimpArgs false
structure BL (W : World) (a : Option Addr) (n : Nat) (l : List Int) : Prop where
 hn : l.length = n
 u : ∀ x ∈ l, 0 ≤ x ∧ x ≤ 255
 c : 0 < n → ∃ b off, a = some ⟨b, off, none⟩ ∧ b < W.heap.size ∧ ∀ i x, l[i]? = some x → W.cell? ⟨b, off + i, none⟩ = some (.int .u8 x)
theorem BL.grown {W W' : World} {a : Option Addr} {n : Nat} {l : List Int} {nb : Nat} (h : BL W a n l) (k : W.grownBy W' (some nb)) (hne : 0 < n → ∀ p, a = some p → p.block ≠ nb) : BL W' a n l :=
 ⟨h.hn, h.u, fun h0 => by
  obtain ⟨b, off, rfl, hb, hc⟩ := h.c h0
  have ne : some b ≠ some nb := fun e => hne h0 _ rfl (Option.some.inj e)
  exact ⟨b, off, rfl, Nat.lt_of_lt_of_le hb k.size, fun i x hx => by rw [k.cell_far ⟨b, off + i, none⟩ hb ne]; exact hc i x hx⟩⟩
theorem BL.below {W W' : World} {a : Option Addr} {n : Nat} {l : List Int} (h : BL W a n l) (k : Below W.heap.size W W') : BL W' a n l :=
 ⟨h.hn, h.u, fun h0 => by
  obtain ⟨b, off, rfl, hb, hc⟩ := h.c h0
  exact ⟨b, off, rfl, Nat.lt_of_lt_of_le hb k.size, fun i x hx => by rw [k.cell (p := ⟨b, off + i, none⟩) hb]; exact hc i x hx⟩⟩
structure IS where
 pos : Nat
 last : Nat
 err : Int
 place : Int
structure IN (W : World) (nb : Nat) (a : Option Addr) (n c : Nat) (l : List Int) (s : IS) : Prop where
 c0 : W.cell? ⟨nb, 0, none⟩ = some (.slice a n c)
 c1 : W.cell? ⟨nb, 1, none⟩ = some (.int .i64 s.pos)
 c2 : W.cell? ⟨nb, 2, none⟩ = some (.int .i64 s.last)
 c3 : W.cell? ⟨nb, 3, none⟩ = some (.int .i64 s.err)
 c4 : W.cell? ⟨nb, 4, none⟩ = some (.int .i64 s.place)
 f : ∀ j, W.frozen? ⟨nb, j, none⟩ = false
 lt : nb < W.heap.size
 bl : BL W a n l
 ne : 0 < n → ∀ p, a = some p → p.block ≠ nb
 nc : n ≤ c
 cm : c ≤ maxLen
 nm : n ≤ 1000000000
 le : s.pos ≤ n
 ll : s.last ≤ s.pos
theorem grown_cell (W : World) (g j : Nat) (v : Value) : W.grownBy (W.setCell ⟨g, j, none⟩ v) (some g) := grown_setCells g [v] j W
theorem IN.put3 {W : World} {nb : Nat} {a : Option Addr} {n c : Nat} {l : List Int} {s : IS} (h : IN W nb a n c l s) (e p : Int) : IN ((W.setCell ⟨nb, 3, none⟩ (.int .i64 e)).setCell ⟨nb, 4, none⟩ (.int .i64 p)) nb a n c l { s with err := e, place := p } := by
 have o : ∀ (W : World) (i j : Nat) (v : Value), i ≠ j → (W.setCell ⟨nb, i, none⟩ v).cell? ⟨nb, j, none⟩ = W.cell? ⟨nb, j, none⟩ := fun W i j v k => World.cell?_setCell_other _ _ _ _ (by intro e; injection e; omega)
 refine ⟨?_, ?_, ?_, ?_, ?_, fun j => by rw [World.frozen?_setCell, World.frozen?_setCell]; exact h.f j, by simp [World.setCell]; exact h.lt, (h.bl.grown (grown_cell W nb 3 _) h.ne).grown (grown_cell _ nb 4 _) h.ne, h.ne, h.nc, h.cm, h.nm, h.le, h.ll⟩
 ·rw [o _ 4 0 _ (by omega), o _ 3 0 _ (by omega)]; exact h.c0
 ·rw [o _ 4 1 _ (by omega), o _ 3 1 _ (by omega)]; exact h.c1
 ·rw [o _ 4 2 _ (by omega), o _ 3 2 _ (by omega)]; exact h.c2
 ·rw [o _ 4 3 _ (by omega)]; exact World.cell?_setCell_same _ _ _ h.c3
 ·exact World.cell?_setCell_same _ _ _ (by rw [o _ 3 4 _ (by omega)]; exact h.c4)
theorem IN.put12 {W : World} {nb : Nat} {a : Option Addr} {n c : Nat} {l : List Int} {s : IS} (h : IN W nb a n c l s) (q p : Nat) (hq : q ≤ p) (hp : p ≤ n) : IN ((W.setCell ⟨nb, 2, none⟩ (.int .i64 q)).setCell ⟨nb, 1, none⟩ (.int .i64 p)) nb a n c l { s with pos := p, last := q } := by
 have o : ∀ (W : World) (i j : Nat) (v : Value), i ≠ j → (W.setCell ⟨nb, i, none⟩ v).cell? ⟨nb, j, none⟩ = W.cell? ⟨nb, j, none⟩ := fun W i j v k => World.cell?_setCell_other _ _ _ _ (by intro e; injection e; omega)
 refine ⟨?_, ?_, ?_, ?_, ?_, fun j => by rw [World.frozen?_setCell, World.frozen?_setCell]; exact h.f j, by simp [World.setCell]; exact h.lt, (h.bl.grown (grown_cell W nb 2 _) h.ne).grown (grown_cell _ nb 1 _) h.ne, h.ne, h.nc, h.cm, h.nm, hp, hq⟩
 ·rw [o _ 1 0 _ (by omega), o _ 2 0 _ (by omega)]; exact h.c0
 ·exact World.cell?_setCell_same _ _ _ (by rw [o _ 2 1 _ (by omega)]; exact h.c1)
 ·rw [o _ 1 2 _ (by omega)]; exact World.cell?_setCell_same _ _ _ h.c2
 ·rw [o _ 1 3 _ (by omega), o _ 2 3 _ (by omega)]; exact h.c3
 ·rw [o _ 1 4 _ (by omega), o _ 2 4 _ (by omega)]; exact h.c4
theorem IN.grown {W W' : World} {nb : Nat} {a : Option Addr} {n c : Nat} {l : List Int} {s : IS} (h : IN W nb a n c l s) {row : Option Nat} (k : W.grownBy W' row) (hr : ∀ j, row = some j → j ≠ nb ∧ (0 < n → ∀ p, a = some p → p.block ≠ j)) : IN W' nb a n c l s := by
 have ne : some nb ≠ row := fun e => (hr nb e.symm).1 rfl
 have g : ∀ j, W'.cell? ⟨nb, j, none⟩ = W.cell? ⟨nb, j, none⟩ := fun j => k.cell_far ⟨nb, j, none⟩ h.lt ne
 refine ⟨(g 0).trans h.c0, (g 1).trans h.c1, (g 2).trans h.c2, (g 3).trans h.c3, (g 4).trans h.c4, fun j => (k.frozen_far ⟨nb, j, none⟩ h.lt ne).trans (h.f j), Nat.lt_of_lt_of_le h.lt k.size, ?_, h.ne, h.nc, h.cm, h.nm, h.le, h.ll⟩
 cases row with
 | none => exact h.bl.below ⟨k.os, k.tape, k.output, k.size, fun i hi => k.block i hi (by simp)⟩
 | some j => exact h.bl.grown k (hr j rfl).2
theorem grown_below {W W' : World} (k : Below W.heap.size W W') (row : Option Nat) : W.grownBy W' row := ⟨k.os, k.tape, k.output, k.size, fun i hi _ => k.block i hi⟩
def failS (e p : Int) (s : IS) : IS := if s.err = 0 then { s with err := e, place := p } else s
set_option maxRecDepth 100000 in
theorem riFail_any (e p : Int) (nb : Nat) (a : Option Addr) (n c : Nat) (l : List Int) (s : IS) (w : World) (h : IN w nb a n c l s) :
  Calls Tryz.prog 82 #[.pointer (some ⟨nb, 0, none⟩), .int .i64 e, .int .i64 p] w fun en w' => en = .returned (.tuple #[]) ∧ IN w' nb a n c l (failS e p s) ∧ w.grownBy w' (some nb) := by
 have H := Lib.hid h
 have c3 := h.c3
 have c4 := h.c4
 have hf := h.f
 by_cases k : s.err = 0
 ·have E := Lib.hid (show failS e p s = { s with err := e, place := p } by unfold failS; rw [if_pos k])
  rw [E.out]
  clear h
  go_enter Tryz.func82, Tryz.ntmps82
  go_wp2
  go_end0
  exact ⟨rfl, H.out.put3 e p, (grown_cell w nb 3 _).trans (grown_cell _ nb 4 _)⟩
 ·have E := Lib.hid (show failS e p s = s by unfold failS; rw [if_neg k])
  rw [E.out]
  clear h
  go_enter Tryz.func82, Tryz.ntmps82
  go_wp2
  go_end0
  exact ⟨rfl, H.out, World.grownBy.refl _ _⟩
theorem wpg {P : Program} {c : Code} {Q : Exit → Act → World → Prop} {a : Act} {W : World} (S : World → Prop) (h : S W) (k : ∀ W', S W' → Code.wp P c Q a W') : Code.wp P c Q a W := k W h
theorem callsg {P : Program} {f : Nat} {args : Array Value} {W : World} {K : Ending → World → Prop} (S : World → Prop) (h : S W) (k : ∀ W', S W' → Calls P f args W' K) : Calls P f args W K := k W h
theorem BL.sub {W : World} {a : Option Addr} {n : Nat} {l : List Int} (h : BL W a n l) {q m : Nat} (hq : q + m ≤ n) : BL W (a.map (fun x => x.add q)) m ((l.drop q).take m) := by
 have hl := h.hn
 refine ⟨by rw [List.length_take, List.length_drop]; omega, fun x hx => h.u x (List.mem_of_mem_drop (List.mem_of_mem_take hx)), fun h0 => ?_⟩
 obtain ⟨b, off, rfl, hb, hc⟩ := h.c (by omega)
 refine ⟨b, off + q, by rw [Option.map_some, Addr.add_lit], hb, fun i x hx => ?_⟩
 rw [show off + q + i = off + (q + i) by omega]
 apply hc
 rw [List.getElem?_take] at hx
 split at hx
 ·rw [List.getElem?_drop] at hx; exact hx
 ·cases hx
theorem BL.nought {W : World} {a : Option Addr} {l : List Int} (q : Nat) : BL W a 0 ((l.drop q).take 0) := ⟨by simp, fun x hx => by simp at hx, fun h => absurd h (by omega)⟩
def wordL (l : List Int) (m : Nat) (s : IS) : List Int := (l.drop s.pos).take m
def wordS (N m : Nat) (s : IS) : IS := if s.err = 0 then (if s.pos + m ≤ N then { s with pos := s.pos + m, last := s.pos } else failS 20 N s) else s
def wordOk (N m : Nat) (s : IS) : Prop := s.err = 0 ∧ s.pos + m ≤ N
theorem bel_drewN (w : World) (k : Nat) : Below w.heap.size w (w.drewN k) := by
 first
  | exact ⟨rfl, rfl, rfl, Nat.le_refl _, fun _ _ => rfl⟩
  | (refine ⟨?_, ?_, ?_, ?_, ?_⟩ <;> simp)
theorem IN.drewN {W : World} {nb : Nat} {a : Option Addr} {n c : Nat} {l : List Int} {s : IS} (h : IN W nb a n c l s) (k : Nat) : IN (W.drewN k) nb a n c l s :=
 h.grown (row := none) (grown_below (bel_drewN W k) none) (fun j e => by cases e)
set_option maxRecDepth 100000 in
set_option maxHeartbeats 1000000 in
theorem riWord_no (m : Nat) (nb : Nat) (a : Option Addr) (n c : Nat) (l : List Int) (s : IS) (w : World) (hm : m ≤ 1000000000) (h : IN w nb a n c l s) (hno : ¬ wordOk n m s) :
  Calls Tryz.prog 81 #[.pointer (some ⟨nb, 0, none⟩), .int .i64 m] w fun en w' => en = .returned (.tuple #[.slice none 0 0, .bool false]) ∧ IN w' nb a n c l (wordS n m s) ∧ w.grownBy w' (some nb) := by
 have H := Lib.hid h
 have c0 := (h).c0
 have c1 := (h).c1
 have c2 := (h).c2
 have c3 := (h).c3
 have c4 := (h).c4
 have hf := (h).f
 have le := h.le
 have nm := h.nm
 unfold wordOk at hno
 by_cases k : s.err = 0
 ·have q : ¬ s.pos + m ≤ n := fun q => hno ⟨k, q⟩
  have E := Lib.hid (show wordS n m s = failS 20 n s by unfold wordS; rw [if_pos k, if_neg q])
  rw [E.out]
  have q' : (n : Int) - (s.pos : Int) < (m : Int) := by omega
  clear h hno
  go_enter Tryz.func81, Tryz.ntmps81
  go_wp2_with fail
  go_quiet (fail)
  clear c1 c2 c3 c4 q'
  go_wp2_with fail
  refine callsg (S := fun W => IN W nb a n c l s ∧ w.grownBy W (some nb)) ⟨H.out.drewN _, grown_below (bel_drewN _ _) _⟩ (fun W0 hS => ?_)
  have G0 := Lib.hid hS.2
  refine (riFail_any 20 n nb a n c l s W0 hS.1).mono ?_
  clear hS c0
  rintro e w1 ⟨rfl, h1, g1⟩
  have H1 := Lib.hid h1
  have G1 := Lib.hid (G0.out.trans g1)
  clear h1 g1
  go_wp2
  go_ret2
  exact ⟨rfl, H1.out, G1.out⟩
 ·have E := Lib.hid (show wordS n m s = s by unfold wordS; rw [if_neg k])
  rw [E.out]
  clear h hno
  go_enter Tryz.func81, Tryz.ntmps81
  go_wp2
  go_ret2
  exact ⟨rfl, H.out, World.grownBy.refl _ _⟩
set_option maxRecDepth 100000 in
set_option maxHeartbeats 1000000 in
theorem riWord_yes (m : Nat) (nb : Nat) (a : Option Addr) (n c : Nat) (l : List Int) (s : IS) (w : World) (hm : m ≤ 1000000000) (h : IN w nb a n c l s) (hok : wordOk n m s) :
  Calls Tryz.prog 81 #[.pointer (some ⟨nb, 0, none⟩), .int .i64 m] w fun en w' => (∃ a' c', en = .returned (.tuple #[.slice a' m c', .bool true]) ∧ BL w' a' m (wordL l m s) ∧ (0 < m → ∀ p, a' = some p → p.block ≠ nb) ∧ m ≤ c' ∧ c' ≤ maxLen) ∧ IN w' nb a n c l (wordS n m s) ∧ w.grownBy w' (some nb) := by
 have H := Lib.hid h
 have c0 := h.c0
 have c1 := h.c1
 have c2 := h.c2
 have c3 := h.c3
 have c4 := h.c4
 have hf := h.f
 have le := h.le
 have nm := h.nm
 obtain ⟨k, q⟩ := hok
 obtain ⟨p, hp⟩ : ∃ p, s.pos + m = p := ⟨_, rfl⟩
 have E := Lib.hid (show wordS n m s = { pos := p, last := s.pos, err := 0, place := s.place } by unfold wordS; rw [if_pos k, if_pos q, hp, k])
 have KK := Lib.hid k
 rw [E.out]
 have q' : ¬ (n : Int) - (s.pos : Int) < (m : Int) := by omega
 have pp : (s.pos : Int) + (m : Int) = (p : Int) := by omega
 have HP := Lib.hid hp
 have hpn : p ≤ n := by omega
 clear h hp
 go_enter Tryz.func81, Tryz.ntmps81
 go_wp2_with fail
 go_quiet (fail)
 go_wp2_with fail
 refine wpg (S := fun W => IN W nb a n c l { s with pos := p, last := s.pos } ∧ w.grownBy W (some nb)) ⟨(H.out.drewN _).put12 s.pos p (by omega) hpn, (grown_below (bel_drewN _ _) _).trans ((grown_cell _ nb 2 _).trans (grown_cell _ nb 1 _))⟩ (fun W1 hS => ?_)
 have H1 := Lib.hid (show IN W1 nb a n c l { pos := p, last := s.pos, err := 0, place := s.place } by rw [← KK.out]; exact hS.1)
 have G1 := Lib.hid hS.2
 clear c0 c1 c2 c3 c4 hf H
 have c0 := hS.1.c0
 have c1 := hS.1.c1
 have c2 := hS.1.c2
 have nc := hS.1.nc
 clear hS
 have hpm : p - s.pos = m := by omega
 have HPM := Lib.hid hpm
 clear hpm
 have PC := Lib.hid (And.intro pp le)
 go_quiet (fail)
 go_wp2
 ·rename_i h
  subst h
  have m0 : m = 0 := by have := PC.out; omega
  subst m0
  go_ret2
  exact ⟨⟨_, _, by rw [← HPM.out]; rfl, BL.nought _, fun h => absurd h (by omega), by omega, by have := H1.out.cm; omega⟩, H1.out.drewN _, G1.out.trans (grown_below (bel_drewN _ _) _)⟩
 ·go_ret2
  refine ⟨⟨_, _, by rw [← HPM.out]; rfl, (H1.out.bl.sub (by have := PC.out; omega)).below (bel_drewN _ _), fun h0 x hx => ?_, by have := PC.out; omega, by have := H1.out.cm; omega⟩, H1.out.drewN _, G1.out.trans (grown_below (bel_drewN _ _) _)⟩
  obtain ⟨b, off, e, _, _⟩ := H1.out.bl.c (by have := PC.out; omega)
  rw [e, Option.map_some, Addr.add_lit] at hx
  cases hx
  exact (show b ≠ nb from H1.out.ne (by have := PC.out; omega) _ e)
instance (N m : Nat) (s : IS) : Decidable (wordOk N m s) := by unfold wordOk; exact inferInstance
def valB : List Int → Int
 | [] => 0
 | x :: r => x + 256 * valB r
theorem valB_in : ∀ (l : List Int), (∀ x ∈ l, 0 ≤ x ∧ x ≤ 255) → 0 ≤ valB l ∧ valB l < 256 ^ l.length
 | [], _ => by simp [valB]
 | x :: r, h => by
  have h1 := valB_in r (fun y hy => h y (List.mem_cons_of_mem _ hy))
  have h2 := h x (List.mem_cons_self ..)
  show 0 ≤ x + 256 * valB r ∧ x + 256 * valB r < 256 ^ (r.length + 1)
  rw [Int.pow_succ]
  omega
theorem pow_8 : ∀ n : Nat, n ≤ 7 → (256 : Int) ^ n ≤ 72057594037927936 := by decide
theorem valB_drop (l : List Int) (j : Nat) (h : j < l.length) : valB (l.drop j) = l[j] + 256 * valB (l.drop (j + 1)) := by rw [List.drop_eq_getElem_cons h]; rfl
def numV (l : List Int) (s : IS) : Int := if wordOk l.length 8 s then wrap64 (valB (wordL l 8 s)) else 0
set_option maxRecDepth 100000 in
set_option maxHeartbeats 1000000 in
theorem riNum_any (nb : Nat) (a : Option Addr) (n c : Nat) (l : List Int) (s : IS) (w : World) (h : IN w nb a n c l s) :
  Calls Tryz.prog 34 #[.pointer (some ⟨nb, 0, none⟩)] w fun en w' => en = .returned (.int .i64 (numV l s)) ∧ IN w' nb a n c l (wordS n 8 s) ∧ w.grownBy w' (some nb) := by
 have hn := h.bl.hn
 by_cases ok : wordOk n 8 s
 ·have V := Lib.hid (show numV l s = wrap64 (valB (wordL l 8 s)) by unfold numV; rw [hn, if_pos ok])
  rw [V.out]
  have X := Lib.hid (riWord_yes 8 nb a n c l s w (by omega) h ok)
  obtain ⟨wl, hwl⟩ : ∃ wl, wordL l 8 s = wl := ⟨_, rfl⟩
  rw [hwl] at X ⊢
  clear h hn V hwl ok
  go_enter Tryz.func34, Tryz.ntmps34
  go_wp2_with fail
  refine X.out.mono ?_
  rintro e w1 ⟨⟨a', c', rfl, hb, hne, hc', hcm⟩, h1, g1⟩
  have H1 := Lib.hid h1
  have G1 := Lib.hid g1
  have hl := hb.hn
  have hu := Lib.hid hb.u
  obtain ⟨b, off, rfl, hbl, hcell⟩ := hb.c (by omega)
  have HC := Lib.hid hcell
  clear h1 g1 X hb hne hcell
  go_wp2
  go_loopw [5, 6] (fun u i wr => ∃ j : Nat, j ≤ 8 ∧ i = .int .i64 ((j : Int) - 1) ∧ u = .int .u64 (valB (wl.drop j)) ∧ wr = w1) (fun _ i _ => (intOf i + 1).toNat)
  case atStart => exact ⟨8, by omega, rfl, by rw [List.drop_eq_nil_of_le (by omega)]; rfl, rfl⟩
  case round =>
   obtain ⟨j, hj, rfl, rfl, rfl⟩ := hrel
   cases j with
   | zero =>
    have E := Lib.hid (show wl.drop 0 = wl from rfl)
    rw [E.out]
    obtain ⟨q, hq⟩ : ∃ q, valB wl = q := ⟨_, rfl⟩
    rw [hq]
    have HQ := Lib.hid hq
    clear hq
    go_wp2
    go_ret
    exact ⟨by rw [HQ.out]; rfl, H1.out, G1.out⟩
   | succ k =>
    have hk : k < wl.length := by omega
    have E := Lib.hid (valB_drop wl k hk)
    have cell := HC.out k wl[k] (List.getElem?_eq_getElem hk)
    have x0 := hu.out wl[k] (List.getElem_mem hk)
    obtain ⟨q, hq⟩ : ∃ q, valB (wl.drop (k + 1)) = q := ⟨_, rfl⟩
    have I := valB_in (wl.drop (k + 1)) (fun x hx => hu.out x (List.mem_of_mem_drop hx))
    have I2 := valB_in (wl.drop k) (fun x hx => hu.out x (List.mem_of_mem_drop hx))
    have p1 := pow_8 (wl.drop (k + 1)).length (by rw [List.length_drop]; omega)
    rw [hq] at E I ⊢
    have q0 : 0 ≤ q := I.1
    have q1 : q < 72057594037927936 := Int.lt_of_lt_of_le I.2 p1
    obtain ⟨x, hx⟩ : ∃ x, wl[k] = x := ⟨_, rfl⟩
    rw [hx] at E cell x0
    have x1 := x0.1
    have x2 := x0.2
    clear I I2 p1 x0 hq hx
    go_wp2
    go_roundw
    case rel => exact ⟨k, by omega, by go_num, by rw [E.out, Int.mul_comm 256 q, Int.add_comm], trivial⟩
    case measure => (simp [intOf]; try omega)
 ·have V := Lib.hid (show numV l s = 0 by unfold numV; rw [hn, if_neg ok])
  rw [V.out]
  have X := Lib.hid (riWord_no 8 nb a n c l s w (by omega) h ok)
  clear h hn V ok
  go_enter Tryz.func34, Tryz.ntmps34
  go_wp2_with fail
  refine X.out.mono ?_
  rintro e w1 ⟨rfl, h1, g1⟩
  have H1 := Lib.hid h1
  have G1 := Lib.hid g1
  clear h1 g1 X
  go_wp2
  go_ret
  exact ⟨rfl, H1.out, G1.out⟩
theorem wordS_ok {N m : Nat} {s : IS} (h : wordOk N m s) : wordS N m s = { s with pos := s.pos + m, last := s.pos } := by
 unfold wordS; rw [if_pos h.1, if_pos h.2]
theorem wordL_length {l : List Int} {n m : Nat} {s : IS} (hn : l.length = n) (h : wordOk n m s) : (wordL l m s).length = m := by
 have := h.2
 unfold wordL; rw [List.length_take, List.length_drop]; omega
set_option maxRecDepth 100000 in
theorem wordL_in {l : List Int} {m : Nat} {s : IS} (hu : ∀ x ∈ l, 0 ≤ x ∧ x ≤ 255) : ∀ x ∈ wordL l m s, 0 ≤ x ∧ x ≤ 255 := fun x hx => hu x (List.mem_of_mem_drop (List.mem_of_mem_take hx))
def flagV (l : List Int) (s : IS) : Bool := if wordOk l.length 1 s then decide ((wordL l 1 s).headD 0 = 1) else false
def flagS (l : List Int) (s : IS) : IS := if wordOk l.length 1 s then (if 1 < (wordL l 1 s).headD 0 then failS 24 s.pos (wordS l.length 1 s) else wordS l.length 1 s) else wordS l.length 1 s
set_option maxRecDepth 100000 in
set_option maxHeartbeats 1000000 in
theorem riFlag_any (nb : Nat) (a : Option Addr) (n c : Nat) (l : List Int) (s : IS) (w : World) (h : IN w nb a n c l s) :
  Calls Tryz.prog 33 #[.pointer (some ⟨nb, 0, none⟩)] w fun en w' => en = .returned (.bool (flagV l s)) ∧ IN w' nb a n c l (flagS l s) ∧ w.grownBy w' (some nb) := by
 have hn := h.bl.hn
 by_cases ok : wordOk n 1 s
 ·have V := Lib.hid (show flagV l s = decide ((wordL l 1 s).headD 0 = 1) ∧ flagS l s = if 1 < (wordL l 1 s).headD 0 then failS 24 s.pos (wordS n 1 s) else wordS n 1 s by unfold flagV flagS; rw [hn, if_pos ok, if_pos ok]; exact ⟨rfl, rfl⟩)
  obtain ⟨x, hwl⟩ : ∃ x, wordL l 1 s = [x] := by
   have := wordL_length hn ok
   match hw : wordL l 1 s, this with
   | [x], _ => exact ⟨x, rfl⟩
  have x0 := wordL_in (m := 1) (s := s) h.bl.u x (by rw [hwl]; simp)
  rw [V.out.1, V.out.2, hwl, show ([x] : List Int).headD 0 = x from rfl]
  clear V
  have x1 := x0.1
  have x2 := x0.2
  clear x0
  by_cases k : 1 < x
  ·rw [if_pos k]
   have E2 := Lib.hid (show decide (x = 1) = false by simp; omega)
   rw [E2.out]
   have X := Lib.hid (riWord_yes 1 nb a n c l s w (by omega) h ok)
   obtain ⟨s1, hs1⟩ : ∃ s1, wordS n 1 s = s1 := ⟨_, rfl⟩
   have W1 := wordS_ok ok
   rw [hs1] at X W1 ⊢
   rw [hwl] at X
   have L1 := Lib.hid (show s1.last = s.pos by rw [W1])
   clear h hn hwl hs1 W1 ok
   go_enter Tryz.func33, Tryz.ntmps33
   go_wp2_with fail
   refine X.out.mono ?_
   rintro e w1 ⟨⟨a', c', rfl, hb, hne, hc', hcm⟩, h1, g1⟩
   have H1 := Lib.hid h1
   have G1 := Lib.hid g1
   obtain ⟨b, off, rfl, hbl, hcell⟩ := hb.c (by omega)
   have HC := Lib.hid hcell
   have i2 := h1.c2
   clear h1 g1 X hb hne hcell
   have cell := HC.out 0 x rfl
   rw [Nat.add_zero] at cell
   clear HC
   go_wp2_with fail
   refine (riFail_any 24 s1.last nb a n c l s1 w1 H1.out).mono ?_
   rintro e w2 ⟨rfl, h2, g2⟩
   have H2 := Lib.hid h2
   have G2 := Lib.hid (G1.out.trans g2)
   clear h2 g2 H1 G1
   go_wp2
   go_ret
   exact ⟨rfl, by have := H2.out; rw [L1.out] at this; exact this, G2.out⟩
  ·rw [if_neg k]
   have X := Lib.hid (riWord_yes 1 nb a n c l s w (by omega) h ok)
   obtain ⟨s1, hs1⟩ : ∃ s1, wordS n 1 s = s1 := ⟨_, rfl⟩
   have W1 := wordS_ok ok
   rw [hs1] at X W1 ⊢
   rw [hwl] at X
   have L1 := Lib.hid (show s1.last = s.pos by rw [W1])
   clear h hn hwl hs1 W1 ok
   go_enter Tryz.func33, Tryz.ntmps33
   go_wp2_with fail
   refine X.out.mono ?_
   rintro e w1 ⟨⟨a', c', rfl, hb, hne, hc', hcm⟩, h1, g1⟩
   have H1 := Lib.hid h1
   have G1 := Lib.hid g1
   obtain ⟨b, off, rfl, hbl, hcell⟩ := hb.c (by omega)
   have HC := Lib.hid hcell
   have i2 := h1.c2
   clear h1 g1 X hb hne hcell
   have cell := HC.out 0 x rfl
   rw [Nat.add_zero] at cell
   clear HC
   go_wp2
   go_ret
   exact ⟨rfl, H1.out, G1.out⟩
 ·have V := Lib.hid (show flagV l s = false ∧ flagS l s = wordS n 1 s by unfold flagV flagS; rw [hn, if_neg ok, if_neg ok]; exact ⟨rfl, rfl⟩)
  rw [V.out.1, V.out.2]
  have X := Lib.hid (riWord_no 1 nb a n c l s w (by omega) h ok)
  clear h hn ok
  go_enter Tryz.func33, Tryz.ntmps33
  go_wp2_with fail
  refine X.out.mono ?_
  rintro e w1 ⟨rfl, h1, g1⟩
  have H1 := Lib.hid h1
  have G1 := Lib.hid g1
  clear h1 g1 X
  go_wp2
  go_ret
  exact ⟨rfl, H1.out, G1.out⟩
def cntOf (l : List Int) (s : IS) : Int := match wordL l 2 s with | [x, y] => x + 256 * y | _ => 0
def cntBad (lo hi : Int) (l : List Int) (s : IS) : Prop := cntOf l s < lo ∨ hi < cntOf l s
instance (lo hi : Int) (l : List Int) (s : IS) : Decidable (cntBad lo hi l s) := by unfold cntBad; exact inferInstance
def cntV (lo hi : Int) (l : List Int) (s : IS) : Int := if wordOk l.length 2 s then (if cntBad lo hi l s then 0 else cntOf l s) else 0
def cntS (lo hi : Int) (l : List Int) (s : IS) : IS := if wordOk l.length 2 s then (if cntBad lo hi l s then failS 22 s.pos (wordS l.length 2 s) else wordS l.length 2 s) else wordS l.length 2 s
set_option maxRecDepth 100000 in
set_option maxHeartbeats 2000000 in
theorem riCount_any (lo hi : Int) (nb : Nat) (a : Option Addr) (n c : Nat) (l : List Int) (s : IS) (w : World) (h : IN w nb a n c l s) :
  Calls Tryz.prog 31 #[.pointer (some ⟨nb, 0, none⟩), .int .i64 lo, .int .i64 hi] w fun en w' => en = .returned (.int .i64 (cntV lo hi l s)) ∧ IN w' nb a n c l (cntS lo hi l s) ∧ w.grownBy w' (some nb) := by
 have hn := h.bl.hn
 by_cases ok : wordOk n 2 s
 ·have V := Lib.hid (show cntV lo hi l s = (if cntBad lo hi l s then 0 else cntOf l s) ∧ cntS lo hi l s = if cntBad lo hi l s then failS 22 s.pos (wordS n 2 s) else wordS n 2 s by unfold cntV cntS; rw [hn, if_pos ok, if_pos ok]; exact ⟨rfl, rfl⟩)
  obtain ⟨x, y, hwl⟩ : ∃ x y, wordL l 2 s = [x, y] := by
   have := wordL_length hn ok
   match hw : wordL l 2 s, this with
   | [x, y], _ => exact ⟨x, y, rfl⟩
  have x0 := wordL_in (m := 2) (s := s) h.bl.u x (by rw [hwl]; simp)
  have y0 := wordL_in (m := 2) (s := s) h.bl.u y (by rw [hwl]; simp)
  have C := Lib.hid (show cntOf l s = x + 256 * y by unfold cntOf; rw [hwl])
  have HB : cntBad lo hi l s ↔ (x + 256 * y < lo ∨ hi < x + 256 * y) := by unfold cntBad; rw [C.out]
  rw [V.out.1, V.out.2, C.out]
  clear V C
  have x1 := x0.1
  have x2 := x0.2
  have y1 := y0.1
  have y2 := y0.2
  clear x0 y0
  by_cases k1 : x + 256 * y < lo
  ·have bad : cntBad lo hi l s := HB.2 (Or.inl k1)
   rw [if_pos bad, if_pos bad]
   clear bad HB
   have X := Lib.hid (riWord_yes 2 nb a n c l s w (by omega) h ok)
   obtain ⟨s1, hs1⟩ : ∃ s1, wordS n 2 s = s1 := ⟨_, rfl⟩
   have W1 := wordS_ok ok
   rw [hs1] at X W1 ⊢
   rw [hwl] at X
   have L1 := Lib.hid (show s1.last = s.pos by rw [W1])
   clear h hn hwl hs1 W1 ok
   go_enter Tryz.func31, Tryz.ntmps31
   go_wp2_with fail
   refine X.out.mono ?_
   rintro e w1 ⟨⟨a', c', rfl, hb, hne, hc', hcm⟩, h1, g1⟩
   have H1 := Lib.hid h1
   have G1 := Lib.hid g1
   obtain ⟨b, off, rfl, hbl, hcell⟩ := hb.c (by omega)
   have HC := Lib.hid hcell
   have i2 := h1.c2
   clear h1 g1 X hb hne hcell
   have cell0 := HC.out 0 x rfl
   have cell1 := HC.out 1 y rfl
   rw [Nat.add_zero] at cell0
   clear HC
   go_wp2_with fail
   go_quiet (fail)
   go_wp2_with fail
   refine callsg (S := fun W => IN W nb a n c l s1 ∧ w.grownBy W (some nb)) ⟨H1.out.drewN _, G1.out.trans (grown_below (bel_drewN _ _) _)⟩ (fun W0 hS => ?_)
   have G0 := Lib.hid hS.2
   refine (riFail_any 22 s1.last nb a n c l s1 W0 hS.1).mono ?_
   rintro e w2 ⟨rfl, h2, g2⟩
   have H2 := Lib.hid h2
   have G2 := Lib.hid (G0.out.trans g2)
   clear hS h2 g2 H1 G1 G0
   go_wp2
   go_ret
   exact ⟨rfl, by have := H2.out; rw [L1.out] at this; exact this, G2.out⟩
  ·by_cases k2 : hi < x + 256 * y
   ·have bad : cntBad lo hi l s := HB.2 (Or.inr k2)
    rw [if_pos bad, if_pos bad]
    clear bad HB
    have X := Lib.hid (riWord_yes 2 nb a n c l s w (by omega) h ok)
    obtain ⟨s1, hs1⟩ : ∃ s1, wordS n 2 s = s1 := ⟨_, rfl⟩
    have W1 := wordS_ok ok
    rw [hs1] at X W1 ⊢
    rw [hwl] at X
    have L1 := Lib.hid (show s1.last = s.pos by rw [W1])
    clear h hn hwl hs1 W1 ok
    go_enter Tryz.func31, Tryz.ntmps31
    go_wp2_with fail
    refine X.out.mono ?_
    rintro e w1 ⟨⟨a', c', rfl, hb, hne, hc', hcm⟩, h1, g1⟩
    have H1 := Lib.hid h1
    have G1 := Lib.hid g1
    obtain ⟨b, off, rfl, hbl, hcell⟩ := hb.c (by omega)
    have HC := Lib.hid hcell
    have i2 := h1.c2
    clear h1 g1 X hb hne hcell
    have cell0 := HC.out 0 x rfl
    have cell1 := HC.out 1 y rfl
    rw [Nat.add_zero] at cell0
    clear HC
    go_wp2_with fail
    go_quiet (fail)
    go_wp2_with fail
    refine callsg (S := fun W => IN W nb a n c l s1 ∧ w.grownBy W (some nb)) ⟨H1.out.drewN _, G1.out.trans (grown_below (bel_drewN _ _) _)⟩ (fun W0 hS => ?_)
    have G0 := Lib.hid hS.2
    refine (riFail_any 22 s1.last nb a n c l s1 W0 hS.1).mono ?_
    rintro e w2 ⟨rfl, h2, g2⟩
    have H2 := Lib.hid h2
    have G2 := Lib.hid (G0.out.trans g2)
    clear hS h2 g2 H1 G1 G0
    go_wp2
    go_ret
    exact ⟨rfl, by have := H2.out; rw [L1.out] at this; exact this, G2.out⟩
   ·have ok2 : ¬ cntBad lo hi l s := fun c => by have := HB.1 c; omega
    rw [if_neg ok2, if_neg ok2]
    clear ok2 HB
    have X := Lib.hid (riWord_yes 2 nb a n c l s w (by omega) h ok)
    obtain ⟨s1, hs1⟩ : ∃ s1, wordS n 2 s = s1 := ⟨_, rfl⟩
    have W1 := wordS_ok ok
    rw [hs1] at X W1 ⊢
    rw [hwl] at X
    have L1 := Lib.hid (show s1.last = s.pos by rw [W1])
    clear h hn hwl hs1 W1 ok
    go_enter Tryz.func31, Tryz.ntmps31
    go_wp2_with fail
    refine X.out.mono ?_
    rintro e w1 ⟨⟨a', c', rfl, hb, hne, hc', hcm⟩, h1, g1⟩
    have H1 := Lib.hid h1
    have G1 := Lib.hid g1
    obtain ⟨b, off, rfl, hbl, hcell⟩ := hb.c (by omega)
    have HC := Lib.hid hcell
    have i2 := h1.c2
    clear h1 g1 X hb hne hcell
    have cell0 := HC.out 0 x rfl
    have cell1 := HC.out 1 y rfl
    rw [Nat.add_zero] at cell0
    clear HC
    go_wp2_with fail
    go_quiet (fail)
    go_wp2
    go_ret
    exact ⟨rfl, H1.out.drewN _, G1.out.trans (grown_below (bel_drewN _ _) _)⟩
 ·have V := Lib.hid (show cntV lo hi l s = 0 ∧ cntS lo hi l s = wordS n 2 s by unfold cntV cntS; rw [hn, if_neg ok, if_neg ok]; exact ⟨rfl, rfl⟩)
  rw [V.out.1, V.out.2]
  have X := Lib.hid (riWord_no 2 nb a n c l s w (by omega) h ok)
  clear h hn ok
  go_enter Tryz.func31, Tryz.ntmps31
  go_wp2_with fail
  refine X.out.mono ?_
  rintro e w1 ⟨rfl, h1, g1⟩
  have H1 := Lib.hid h1
  have G1 := Lib.hid g1
  clear h1 g1 X
  go_wp2
  go_ret
  exact ⟨rfl, H1.out, G1.out⟩
def refE (e : Int) : Int := if e = 0 then 1 else e
set_option maxRecDepth 100000 in
theorem riRefuse_any (e : Int) (nb : Nat) (a : Option Addr) (n c : Nat) (l : List Int) (s : IS) (w : World) (h : IN w nb a n c l s) :
  Calls Tryz.prog 35 #[.pointer (some ⟨nb, 0, none⟩), .int .i64 e] w fun en w' => en = .returned (.tuple #[]) ∧ IN w' nb a n c l (failS (refE e) s.last s) ∧ w.grownBy w' (some nb) := by
 have c2 := h.c2
 have H := Lib.hid h
 clear h
 by_cases k : e = 0
 ·have E := Lib.hid (show refE e = 1 by unfold refE; rw [if_pos k])
  rw [E.out]
  subst k
  go_enter Tryz.func35, Tryz.ntmps35
  go_wp2_with fail
  refine (riFail_any 1 s.last nb a n c l s w H.out).mono ?_
  rintro e w1 ⟨rfl, h1, g1⟩
  clear c2
  have K := Lib.hid (And.intro h1 g1)
  clear h1 g1
  go_wp2
  go_end0
  exact ⟨rfl, K.out.1, K.out.2⟩
 ·have E := Lib.hid (show refE e = e by unfold refE; rw [if_neg k])
  rw [E.out]
  go_enter Tryz.func35, Tryz.ntmps35
  go_wp2_with fail
  refine (riFail_any e s.last nb a n c l s w H.out).mono ?_
  rintro e w1 ⟨rfl, h1, g1⟩
  clear c2
  have K := Lib.hid (And.intro h1 g1)
  clear h1 g1
  go_wp2
  go_end0
  exact ⟨rfl, K.out.1, K.out.2⟩
def endS (n : Nat) (s : IS) : IS := if s.err = 0 ∧ s.pos < n then failS 23 s.pos s else s
set_option maxRecDepth 100000 in
set_option maxHeartbeats 1000000 in
theorem riEnd_any (nb : Nat) (a : Option Addr) (n c : Nat) (l : List Int) (s : IS) (w : World) (h : IN w nb a n c l s) :
  Calls Tryz.prog 36 #[.pointer (some ⟨nb, 0, none⟩)] w fun en w' => en = .returned (.tuple #[.int .i64 (endS n s).err, .int .i64 (endS n s).place]) ∧ IN w' nb a n c l (endS n s) ∧ w.grownBy w' (some nb) := by
 have c0 := h.c0
 have c1 := h.c1
 have c3 := h.c3
 have H := Lib.hid h
 clear h
 by_cases k : s.err = 0
 ·by_cases q : s.pos < n
  ·have E := Lib.hid (show endS n s = failS 23 s.pos s by unfold endS; rw [if_pos ⟨k, q⟩])
   rw [E.out]
   obtain ⟨s1, hs1⟩ : ∃ s1, failS 23 s.pos s = s1 := ⟨_, rfl⟩
   have F := Lib.hid (fun (W : World) (h : IN W nb a n c l s) => riFail_any 23 s.pos nb a n c l s W h)
   rw [hs1] at F ⊢
   clear hs1 E
   have q' : (s.pos : Int) < (n : Int) := by omega
   have hd : decide (s.err = 0) = true := decide_eq_true k
   go_enter Tryz.func36, Tryz.ntmps36
   go_wp2_with fail
   go_quiet (fail)
   go_wp2_with fail
   refine callsg (S := fun W => IN W nb a n c l s ∧ w.grownBy W (some nb)) ⟨H.out.drewN _, grown_below (bel_drewN _ _) _⟩ (fun W0 hS => ?_)
   have G0 := Lib.hid hS.2
   refine (F.out W0 hS.1).mono ?_
   rintro e w2 ⟨rfl, h2, g2⟩
   have H2 := Lib.hid h2
   have G2 := Lib.hid (G0.out.trans g2)
   clear hS h2 g2 H G0 F c0 c1 c3 q' hd
   go_wp2_with fail
   refine wpg (S := fun W => IN W nb a n c l s1 ∧ w.grownBy W (some nb)) ⟨H2.out, G2.out⟩ (fun W1 hS => ?_)
   have H1 := Lib.hid hS.1
   have G1 := Lib.hid hS.2
   have d3 := hS.1.c3
   have d4 := hS.1.c4
   clear hS
   go_quiet (fail)
   go_wp2
   go_ret2
   exact ⟨rfl, H1.out.drewN _, G1.out.trans (grown_below (bel_drewN _ _) _)⟩
  ·have E := Lib.hid (show endS n s = s by unfold endS; rw [if_neg (fun h => q h.2)])
   rw [E.out]
   have q' : ¬ (s.pos : Int) < (n : Int) := by omega
   have hd : decide (s.err = 0) = true := decide_eq_true k
   go_enter Tryz.func36, Tryz.ntmps36
   go_wp2_with fail
   go_quiet (fail)
   clear c0 c1 c3 hd k
   go_wp2_with fail
   refine wpg (S := fun W => IN W nb a n c l s ∧ w.grownBy W (some nb)) ⟨H.out.drewN _, grown_below (bel_drewN _ _) _⟩ (fun W1 hS => ?_)
   have H1 := Lib.hid hS.1
   have G1 := Lib.hid hS.2
   have d3 := hS.1.c3
   have d4 := hS.1.c4
   clear hS
   go_quiet (fail)
   go_wp2
   go_ret2
   exact ⟨rfl, H1.out.drewN _, G1.out.trans (grown_below (bel_drewN _ _) _)⟩
 ·have E := Lib.hid (show endS n s = s by unfold endS; rw [if_neg (fun h => k h.1)])
  rw [E.out]
  have hd : decide (s.err = 0) = false := decide_eq_false k
  go_enter Tryz.func36, Tryz.ntmps36
  go_wp2_with fail
  go_quiet (fail)
  clear c0 c1 c3 hd k
  go_wp2_with fail
  refine wpg (S := fun W => IN W nb a n c l s ∧ w.grownBy W (some nb)) ⟨H.out.drewN _, grown_below (bel_drewN _ _) _⟩ (fun W1 hS => ?_)
  have H1 := Lib.hid hS.1
  have G1 := Lib.hid hS.2
  have d3 := hS.1.c3
  have d4 := hS.1.c4
  clear hS
  go_quiet (fail)
  go_wp2
  go_ret2
  exact ⟨rfl, H1.out.drewN _, G1.out.trans (grown_below (bel_drewN _ _) _)⟩
theorem src_bl {P : Program} {tx e' : TypeId} (hk : P.underlying tx = some (.slice e')) {W : World} {a : Option Addr} {n : Nat} {l : List Int} (h : BL W a n l) (hn : n = 0 → a = none ∨ ∃ x, a = some x) (c : Nat) : Src P 1 tx (.slice a n c) n (byC l) W := by
 have hl := h.hn
 by_cases n0 : n = 0
 ·subst n0
  have : l = [] := List.eq_nil_of_length_eq_zero hl
  subst this
  cases a with
  | none => exact Src.ofNil _ hk c
  | some x => exact Src.ofSlice _ hk x 0 c [] rfl (fun j u hj => by simp at hj) (fun u hu => by cases hu)
 ·obtain ⟨b, off, rfl, hb, hc⟩ := h.c (by omega)
  exact Src.ofSlice _ hk ⟨b, off, none⟩ n c (byC l) (by rw [byC_length]; omega) (fun j u hj => by
   rw [Addr.add_lit]
   unfold byC at hj
   rw [List.getElem?_map] at hj
   cases hx : l[j]? with
   | none => rw [hx] at hj; cases hj
   | some x => rw [hx] at hj; cases hj; exact hc j x hx) (one_ints .u8 l)
def rawOk (m : Int) (l : List Int) (s : IS) : Prop := (0 ≤ m ∧ m ≤ 16777216) ∧ wordOk l.length m.toNat s
instance (m : Int) (l : List Int) (s : IS) : Decidable (rawOk m l s) := by unfold rawOk; exact inferInstance
def txt (l : List Int) : ByteArray := strOfNums l
theorem txt_inj {a b : List Int} (ha : ∀ x ∈ a, 0 ≤ x ∧ x ≤ 255) (hb : ∀ x ∈ b, 0 ≤ x ∧ x ≤ 255) (h : txt a = txt b) : a = b := by
 have e : (strOfNums a).data.toList = (strOfNums b).data.toList := congrArg (fun s => s.data.toList) h
 rw [strOfNums_data, strOfNums_data] at e
 have g : ∀ (l : List Int), (∀ x ∈ l, 0 ≤ x ∧ x ≤ 255) → (l.map fun n => UInt8.ofNat n.toNat).map (fun (u : UInt8) => (u.toNat : Int)) = l := by
  intro l hl
  rw [List.map_map]
  conv => rhs; rw [← List.map_id l]
  apply List.map_congr_left
  intro x hx
  have := hl x hx
  simp only [Function.comp, id, UInt8.toNat_ofNat']
  omega
 rw [← g a ha, ← g b hb, e]
theorem txt_eq {a b : List Int} (ha : ∀ x ∈ a, 0 ≤ x ∧ x ≤ 255) (hb : ∀ x ∈ b, 0 ≤ x ∧ x ≤ 255) : ((txt a).toList == (txt b).toList) = decide (a = b) := by
 by_cases k : a = b
 ·subst k; simp
 ·rw [decide_eq_false k, beq_eq_false_iff_ne]
  intro e
  rw [ByteArray.toList_eq, ByteArray.toList_eq] at e
  refine k (txt_inj ha hb ?_)
  cases h1 : txt a with | mk d1 => cases h2 : txt b with | mk d2 => rw [h1, h2] at e; congr 1; exact Array.toList_inj.1 e
theorem conv_bl {P : Program} {W : World} {a : Option Addr} {n : Nat} {l : List Int} (h : BL W a n l) (hn : 0 < n) (c : Nat) (src e dst : TypeId) (hs : P.underlying src = some (.slice e)) (he : P.underlying e = some (.int .u8)) (hd : P.underlying dst = some .string) : (convert src dst (.slice a n c)).run P W = .ok (.string (txt l)) W := by
 obtain ⟨b, off, rfl, hb, hc⟩ := h.c hn
 refine run_convert_bytes_arg W src e hs he b off n c l h.hn (fun i hi => ?_) dst hd
 have hl := h.hn
 have := hc i l[i] (List.getElem?_eq_getElem (by omega))
 rw [this]
 simp [List.getD, List.getElem?_eq_getElem (show i < l.length by omega)]
theorem OB.bl {base : Nat} {W : World} {v : Value} {l : List Int} (h : OB base W v (byC l)) (hu : ∀ x ∈ l, 0 ≤ x ∧ x ≤ 255) : ∃ a c, v = .slice a l.length c ∧ BL W a l.length l ∧ (∀ p, a = some p → base ≤ p.block) := by
 rcases h with ⟨rfl, e⟩ | ⟨g, cap, rfl, hb, hg, hl, hm, hc, hf, hx⟩
 ·have : l = [] := by cases l with | nil => rfl | cons x r => cases e
  subst this
  exact ⟨none, 0, rfl, ⟨rfl, hu, fun h => absurd h (by simp)⟩, fun p h => by cases h⟩
 ·rw [byC_length]
  refine ⟨_, cap, rfl, ⟨rfl, hu, fun _ => ⟨g, 0, rfl, hg, fun i x hi => ?_⟩⟩, fun p h => by cases h; exact hb⟩
  rw [Nat.zero_add]
  apply hx
  unfold byC
  rw [List.getElem?_map, hi]; rfl
theorem markB_in (s : ByteArray) (n : Nat) : ∀ x ∈ markB s n, 0 ≤ x ∧ x ≤ 255 := by
 intro x hx
 unfold markB at hx
 obtain ⟨i, _, rfl⟩ := List.mem_map.1 hx
 unfold chB
 split
 ·rename_i h
  have := s[i].toNat_lt
  omega
 ·omega
def mkS (t : ByteArray) (l : List Int) (s : IS) : IS := if wordOk l.length 4 s then (if wordL l 4 s = markB t 4 then wordS l.length 4 s else failS 21 s.pos (wordS l.length 4 s)) else wordS l.length 4 s
set_option maxRecDepth 100000 in
set_option maxHeartbeats 1000000 in
theorem riMark_any (t : ByteArray) (nb : Nat) (a : Option Addr) (n c : Nat) (l : List Int) (s : IS) (w : World) (h : IN w nb a n c l s) :
  Calls Tryz.prog 80 #[.pointer (some ⟨nb, 0, none⟩), .string t] w fun en w' => en = .returned (.tuple #[]) ∧ IN w' nb a n c l (mkS t l s) ∧ w.grownBy w' (some nb) := by
 have hn := h.bl.hn
 by_cases ok : wordOk n 4 s
 ·have V := Lib.hid (show mkS t l s = if wordL l 4 s = markB t 4 then wordS n 4 s else failS 21 s.pos (wordS n 4 s) by unfold mkS; rw [hn, if_pos ok])
  rw [V.out]
  obtain ⟨wl, hwl⟩ : ∃ wl, wordL l 4 s = wl := ⟨_, rfl⟩
  have HWL := Lib.hid (And.intro (show wl.length = 4 by rw [← hwl]; exact wordL_length hn ok) (show ∀ x ∈ wl, 0 ≤ x ∧ x ≤ 255 by rw [← hwl]; exact wordL_in h.bl.u))
  have X := Lib.hid (riWord_yes 4 nb a n c l s w (by omega) h ok)
  obtain ⟨s1, hs1⟩ : ∃ s1, wordS n 4 s = s1 := ⟨_, rfl⟩
  have W1 := wordS_ok ok
  rw [hs1] at X W1 ⊢
  rw [hwl] at X ⊢
  have L1 := Lib.hid (show s1.last = s.pos by rw [W1])
  have TX := Lib.hid (txt_eq HWL.out.2 (markB_in t 4))
  obtain ⟨R, hR⟩ : ∃ R, (if wl = markB t 4 then s1 else failS 21 s.pos s1) = R := ⟨_, rfl⟩
  rw [hR]
  have HR := Lib.hid hR
  clear h hn hwl hs1 W1 ok V hR
  go_enter Tryz.func80, Tryz.ntmps80
  go_wp2_with fail
  refine X.out.mono ?_
  rintro e w1 ⟨⟨a', c', rfl, hb, hne, hc', hcm⟩, h1, g1⟩
  have H1 := Lib.hid h1
  have G1 := Lib.hid g1
  have CV := Lib.hid (conv_bl (P := Tryz.prog) (hb.below ((Below.refl _ _).drew)) (by omega) c' 36 5 9 rfl rfl rfl)
  have HBL := Lib.hid hb
  clear h1 g1 X hb hne
  go_wp2_with fail
  refine wp_region_held_drew (S := fun W => (convert 36 9 (.slice a' 4 c')).run Tryz.prog W = .ok (.string (txt wl)) W) (by kernel_rfl) CV.out (fun hHeld => ?_)
  refine tkQ 0 11 hHeld ?_
  (try simp only [putA, putB, putC, putD])
  refine tkQ 1 12 hHeld ?_
  (try simp only [putA, putB, putC, putD])
  refine tkQ 2 13 hHeld ?_
  (try simp only [putA, putB, putC, putD])
  refine tkQ 3 14 hHeld ?_
  (try simp only [putA, putB, putC, putD])
  refine tkQ 4 15 hHeld ?_
  (try simp only [putA, putB, putC, putD])
  refine onlD 5 (fun K hK => ?_)
  go_simp
  refine (rwMark_any t _).mono ?_
  rintro e w2 ⟨⟨v, rfl, hO⟩, hB⟩
  have B2 := Lib.hid ((show Below w1.heap.size w1 w1.drew from (Below.refl _ _).drew).trans hB)
  obtain ⟨a2, c2, rfl, hb2, -⟩ := hO.bl (markB_in t 4)
  rw [markB_length] at hb2 ⊢
  have CW := Lib.hid (conv_bl (P := Tryz.prog) hb2 (by omega) c2 36 5 9 rfl rfl rfl)
  clear hO hB hb2
  go_wp2_with fail
  refine hK.out _ _ (conv_bl (P := Tryz.prog) (HBL.out.below B2.out) (by omega) c' 36 5 9 rfl rfl rfl) ?_
  clear hK K hHeld
  intro hHeld
  refine wpAnyH_grow (fun W => (convert 36 9 (.slice a' 4 c')).run Tryz.prog W = .ok (.string (txt wl)) W ∧ (convert 36 9 (.slice a2 4 c2)).run Tryz.prog W = .ok (.string (txt (markB t 4))) W) (fun _ h => h.1) ⟨hHeld, CW.out⟩ (fun hHeld => ?_)
  refine tkQ 6 17 hHeld ?_
  (try simp only [putA, putB, putC, putD])
  refine tkQ 7 18 hHeld ?_
  (try simp only [putA, putB, putC, putD])
  refine tkQ 8 19 hHeld ?_
  (try simp only [putA, putB, putC, putD])
  refine wpAnyH_done (by kernel_rfl) ?_ _
  clear hHeld
  have H2 := Lib.hid (H1.out.grown (row := none) (grown_below B2.out none) (fun j e => by cases e))
  have G2 := Lib.hid (G1.out.trans (grown_below B2.out _))
  have i2 := H2.out.c2
  clear H1 G1 B2 CV CW HBL
  by_cases k : wl = markB t 4
  ·have E := Lib.hid (HR.out.symm.trans (if_pos k))
   have kt : ((txt wl).toList == (txt (markB t 4)).toList) = true := TX.out.trans (decide_eq_true k)
   rw [kt]
   clear k
   go_wp2
   go_end0
   exact ⟨rfl, by rw [E.out]; exact H2.out, G2.out⟩
  ·have E := Lib.hid (HR.out.symm.trans (if_neg k))
   have kt : ((txt wl).toList == (txt (markB t 4)).toList) = false := TX.out.trans (decide_eq_false k)
   rw [kt]
   clear k
   go_wp2_with fail
   refine (riFail_any 21 s1.last nb a n c l s1 _ H2.out).mono ?_
   rintro e w3 ⟨rfl, h3, g3⟩
   have K := Lib.hid (And.intro h3 (G2.out.trans g3))
   clear h3 g3 H2 G2 i2
   go_wp2
   go_end0
   exact ⟨rfl, by rw [E.out]; have := K.out.1; rw [L1.out] at this; exact this, K.out.2⟩
 ·have V := Lib.hid (show mkS t l s = wordS n 4 s by unfold mkS; rw [hn, if_neg ok])
  rw [V.out]
  have X := Lib.hid (riWord_no 4 nb a n c l s w (by omega) h ok)
  clear h hn V ok
  go_enter Tryz.func80, Tryz.ntmps80
  go_wp2_with fail
  refine X.out.mono ?_
  rintro e w1 ⟨rfl, h1, g1⟩
  have H1 := Lib.hid h1
  have G1 := Lib.hid g1
  clear h1 g1 X
  go_wp2_with fail
  go_quiet (fail)
  go_wp2
  go_end0
  exact ⟨rfl, H1.out.drewN _, G1.out.trans (grown_below (bel_drewN _ _) _)⟩
section
open Go.RowKit Go.ChangeShapes Go.WideShapes Go.Deep
structure OpI where
 k : Int
 n : Int
 b : Bool
 s : ByteArray
 m : Int
instance : Inhabited OpI := ⟨⟨0, 0, false, ByteArray.empty, 0⟩⟩
def OpI.vals (o : OpI) : List Value := [.int .i64 o.k, .int .i64 o.n, .bool o.b, .string o.s, .int .i64 o.m]
structure OpI.ok (o : OpI) : Prop where
 k : (Lit.int .i64 o.k).wf = true
 n : (Lit.int .i64 o.n).wf = true
 m : (Lit.int .i64 o.m).wf = true
 s : o.s.size ≤ maxLen
structure OpsM (w : World) (a : Option Addr) (len cap : Nat) (f : Nat → OpI) : Prop where
 hm : cap ≤ maxLen
 hl : len ≤ cap
 wf : ∀ i, i < len → (f i).ok
 at' : 0 < len → ∃ b off, a = some ⟨b, off, none⟩ ∧ b < w.heap.size ∧ ∀ i, i < len → ∀ j u, (f i).vals[j]? = some u → w.cell? ⟨b, off + i * 5 + j, none⟩ = some u
theorem OpsM.below {w w' : World} {a : Option Addr} {len cap : Nat} {f : Nat → OpI} {B : Nat} (D : OpsM w a len cap f) (h : Below B w w') (hB : w.heap.size ≤ B) : OpsM w' a len cap f :=
 ⟨D.hm, D.hl, D.wf, fun h0 => by
  obtain ⟨b, off, rfl, hb, hc⟩ := D.at' h0
  exact ⟨b, off, rfl, by have := h.size; omega, fun i hi j u hu => (h.cell (p := ⟨b, _, none⟩) (by show b < B; omega)).trans (hc i hi j u hu)⟩⟩
theorem OpsM.grown {w w' : World} {a : Option Addr} {len cap : Nat} {f : Nat → OpI} {g : Nat} (D : OpsM w a len cap f) (h : w.grownBy w' (some g)) (hg : 0 < len → ∀ p, a = some p → p.block ≠ g) : OpsM w' a len cap f :=
 ⟨D.hm, D.hl, D.wf, fun h0 => by
  obtain ⟨b, off, rfl, hb, hc⟩ := D.at' h0
  have ne : some b ≠ some g := fun e => hg h0 _ rfl (Option.some.inj e)
  exact ⟨b, off, rfl, Nat.lt_of_lt_of_le hb h.size, fun i hi j u hu => (h.cell_far ⟨b, _, none⟩ hb ne).trans (hc i hi j u hu)⟩⟩
def fewW (len : Nat) (f : Nat → OpI) : Prop := len ≤ 100 ∧ ∀ i, i < len → (f i).s.size ≤ 50
instance (len : Nat) (f : Nat → OpI) : Decidable (fewW len f) := by unfold fewW; exact inferInstance
def kindI (k : Int) : Int := (k.tmod 6 + 6).tmod 6
end
structure TwoB (W W' : World) (nb : Nat) (row : Option Nat) : Prop where
 os : W'.os = W.os
 tape : W'.tape = W.tape
 output : W'.output = W.output
 size : W.heap.size ≤ W'.heap.size
 block : ∀ k, k < W.heap.size → k ≠ nb → some k ≠ row → W'.heap[k]? = W.heap[k]?
theorem OB.two {base : Nat} {W W' : World} {u : Value} {xs : List Value} {nb : Nat} {row : Option Nat} (h : OB base W u xs) (k : TwoB W W' nb row) (h1 : u.ownBlock ≠ some nb) (h2 : u.ownBlock = row → row = none) : OB base W' u xs := by
 rcases h with h | ⟨g, cap, rfl, hb, hg, hl, hm, hc, hf, hx⟩
 ·exact .inl h
 ·have n1 : g ≠ nb := fun e => h1 (by rw [← e]; rfl)
  have n2 : some g ≠ row := fun e => by have := h2 (by rw [← e]; rfl); rw [this] at e; cases e
  have B := k.block g hg n1 n2
  have C : ∀ j, W'.cell? ⟨g, j, none⟩ = W.cell? ⟨g, j, none⟩ := fun j => World.cell?_of_block (a := ⟨g, j, none⟩) B
  have F : ∀ j, W'.frozen? ⟨g, j, none⟩ = W.frozen? ⟨g, j, none⟩ := fun j => World.frozen?_of_block (a := ⟨g, j, none⟩) B
  exact .inr ⟨g, cap, rfl, hb, Nat.lt_of_lt_of_le hg k.size, hl, hm, fun j hj => by rw [C]; exact hc j hj, fun j => by rw [F]; exact hf j, fun j u hj => by rw [C]; exact hx j u hj⟩
theorem OB.row_lt {base : Nat} {W : World} {u : Value} {xs : List Value} (h : OB base W u xs) {g : Nat} (e : u.ownBlock = some g) : base ≤ g ∧ g < W.heap.size := by
 rcases h with ⟨rfl, _⟩ | ⟨g', cap, rfl, hb, hg, _⟩
 ·cases e
 ·have : g' = g := by simpa [Value.ownBlock] using e
  subst this; exact ⟨hb, hg⟩
structure OutT where
 P : Nat → World → Nat → Value → List Int → Prop
 lo : ∀ {base W nb v l}, P base W nb v l → base ≤ nb ∧ nb < W.heap.size
 row : ∀ {base W nb v l g}, P base W nb v l → v.ownBlock = some g → base ≤ g ∧ g < W.heap.size ∧ g ≠ nb
 keep : ∀ {base W W' nb v l}, P base W nb v l → W.heap.size ≤ W'.heap.size → W'.heap[nb]? = W.heap[nb]? → (∀ g, v.ownBlock = some g → W'.heap[g]? = W.heap[g]?) → P base W' nb v l
theorem OutT.keepG (C : OutT) {base : Nat} {W W' : World} {nb : Nat} {v : Value} {l : List Int} {row : Option Nat} (h : C.P base W nb v l) (k : W.grownBy W' row) (h1 : row ≠ some nb) (h2 : v.ownBlock = row → row = none) : C.P base W' nb v l :=
 C.keep h k.size (k.block nb (C.lo h).2 (fun e => h1 e.symm)) (fun g e => k.block g (C.row h e).2.1 (fun e2 => by have := h2 (e.trans e2); rw [this] at e2; cases e2))
def OutT.puts (C : OutT) (f : Nat) (args : Array Value) (new : List Int) : Prop :=
 ∀ base W nb v l, C.P base W nb v l → base ≤ W.heap.size → l.length + new.length ≤ 100000 → Calls Tryz.prog f (#[.pointer (some ⟨nb, 0, none⟩)] ++ args) W fun e W' =>
  e = .returned (.tuple #[]) ∧ ∃ v', C.P base W' nb v' (l ++ new) ∧ TwoB W W' nb v.ownBlock ∧ (v'.ownBlock = v.ownBlock ∨ ∃ g, v'.ownBlock = some g ∧ W.heap.size ≤ g)
structure PS (C : OutT) (w W : World) (nb : Nat) (v u : Value) (lo lu : List Int) : Prop where
 p : C.P w.heap.size W nb v lo
 o : OB w.heap.size W u (byC lu)
 b : Below w.heap.size w W
 a1 : u.ownBlock ≠ some nb
 a2 : v.ownBlock = u.ownBlock → u.ownBlock = none
theorem TwoB.below {B : Nat} {w W W' : World} {nb : Nat} {row : Option Nat} (h : Below B w W) (k : TwoB W W' nb row) (hn : B ≤ nb) (hr : ∀ g, row = some g → B ≤ g) (hB : B ≤ W.heap.size) : Below B w W' :=
 h.trans ⟨k.os, k.tape, k.output, k.size, fun j hj => k.block j (by omega) (by omega) (fun e => by have := hr j e.symm; omega)⟩
theorem PS.put {C : OutT} {w W W' : World} {nb : Nat} {v v' u : Value} {lo lu new : List Int} (s : PS C w W nb v u lo lu) (hp : C.P w.heap.size W' nb v' (lo ++ new)) (k : TwoB W W' nb v.ownBlock) (hv : v'.ownBlock = v.ownBlock ∨ ∃ g, v'.ownBlock = some g ∧ W.heap.size ≤ g) : PS C w W' nb v' u (lo ++ new) lu := by
 have l0 := C.lo s.p
 refine ⟨hp, s.o.two k s.a1 (fun e => e.symm.trans (s.a2 e.symm)), TwoB.below s.b k l0.1 (fun g e => (C.row s.p e).1) s.b.size, s.a1, fun e => ?_⟩
 rcases hv with h | ⟨g, h, hg⟩
 ·exact s.a2 (h.symm.trans e)
 ·rw [h] at e
  have := (s.o.row_lt e.symm).2
  omega
theorem PS.step {C : OutT} {w W W' : World} {nb : Nat} {v u : Value} {lo lu : List Int} (s : PS C w W nb v u lo lu) (h : Below W.heap.size W W') : PS C w W' nb v u lo lu :=
 ⟨C.keepG s.p (grown_below h none) (by simp) (fun _ => rfl), s.o.below h, s.b.trans (h.mono s.b.size), s.a1, s.a2⟩
def In64Y (n : Int) : Prop := -9223372036854775808 ≤ n ∧ n ≤ 9223372036854775807
def Byt (l : List Int) : Prop := ∀ x ∈ l, 0 ≤ x ∧ x ≤ 255
theorem Byt.append {a b : List Int} (ha : Byt a) (hb : Byt b) : Byt (a ++ b) := fun x hx => by
 rcases List.mem_append.1 hx with h | h
 ·exact ha x h
 ·exact hb x h
theorem numB_in {u : Int} (n : Nat) (h0 : 0 ≤ u) (h1 : u ≤ 18446744073709551615) : Byt (numB u n) := fun x hx => by
 obtain ⟨i, _, rfl⟩ := List.mem_map.1 hx
 have := dvB_in h0 h1 i
 show 0 ≤ dvB u i % 256 ∧ dvB u i % 256 ≤ 255
 omega
theorem tw64_in (n : Int) : 0 ≤ tw64 n ∧ tw64 n ≤ 18446744073709551615 := by unfold tw64; omega
theorem u16B_in (n : Int) : Byt (u16B n) := fun x hx => by
 have := tw64_in n
 unfold u16B at hx
 simp only [List.mem_cons, List.not_mem_nil, or_false] at hx
 rcases hx with rfl | rfl <;> omega
theorem flagB_in (b : Bool) : Byt (flagB b) := fun x hx => by
 unfold flagB at hx
 simp only [List.mem_cons, List.not_mem_nil, or_false] at hx
 subst hx; cases b <;> simp
def strB (s : ByteArray) : List Int := s.data.toList.map fun b => (b.toNat : Int)
theorem conv_ob {P : Program} {base : Nat} {W : World} {v : Value} {l : List Int} (h : OB base W v (byC l)) (hu : Byt l) (src e dst : TypeId) (hs : P.underlying src = some (.slice e)) (he : P.underlying e = some (.int .u8)) (hd : P.underlying dst = some .string) : (convert src dst v).run P W = .ok (.string (txt l)) W := by
 obtain ⟨a, c, rfl, hb, _⟩ := h.bl hu
 by_cases n0 : 0 < l.length
 ·exact conv_bl hb n0 c src e dst hs he hd
 ·have : l = [] := List.eq_nil_of_length_eq_zero (by omega)
  subst this
  cases a with
  | none => rw [run_convert_bytes_nil (P := P) W src e hs he _ _ dst hd]; rfl
  | some x =>
   rcases h with ⟨h, _⟩ | ⟨g, cap, h, _⟩
   ·cases h
   ·injection h with h _ _
    injection h with h
    subst h
    exact run_convert_bytes_arg (P := P) W src e hs he g 0 _ c [] rfl (fun i hi => absurd hi (by simp)) dst hd
structure Mid (base top : Nat) (W W' : World) : Prop where
 os : W'.os = W.os
 tape : W'.tape = W.tape
 output : W'.output = W.output
 size : W.heap.size ≤ W'.heap.size
 block : ∀ k, k < W.heap.size → (k < base ∨ top ≤ k) → W'.heap[k]? = W.heap[k]?
structure InT where
 P : Nat → Nat → World → Nat → List Int → IS → Prop
 keep : ∀ {base top W W' nb l s}, P base top W nb l s → W.heap.size ≤ W'.heap.size → (∀ k, base ≤ k → k < top → W'.heap[k]? = W.heap[k]?) → P base top W' nb l s
 top : ∀ {base top W nb l s}, P base top W nb l s → base ≤ top ∧ top ≤ W.heap.size
structure RS (I : InT) (w W : World) (base top nb nd : Nat) (a : Option Addr) (n c : Nat) (l : List Int) (s t : IS) : Prop where
 p : I.P base top W nb l s
 i : IN W nd a n c l t
 b : Below w.heap.size w W
 wb : w.heap.size ≤ base
 td : top ≤ nd
 ha : 0 < n → ∀ p, a = some p → p.block < base
theorem Mid.below {base top : Nat} {w W W' : World} (h : Below w.heap.size w W) (k : Mid base top W W') (hb : w.heap.size ≤ base) : Below w.heap.size w W' :=
 h.trans ⟨k.os, k.tape, k.output, k.size, fun j hj => k.block j (by have := h.size; omega) (Or.inl (by omega))⟩
theorem RS.step {I : InT} {w W W' : World} {base top nb nd : Nat} {a : Option Addr} {n c : Nat} {l : List Int} {s t : IS} (r : RS I w W base top nb nd a n c l s t) (h : Below W.heap.size W W') : RS I w W' base top nb nd a n c l s t :=
 ⟨I.keep r.p h.size (fun j h1 h2 => h.block j (by have := I.top r.p; omega)), r.i.grown (row := none) (grown_below h none) (fun j e => by cases e), r.b.trans (h.mono r.b.size), r.wb, r.td, r.ha⟩
def enc (o : OpI) : List Int := if kindI o.k = 1 then u16B o.n else if kindI o.k = 2 then flagB o.b else if kindI o.k = 3 then markB o.s 4 else if kindI o.k = 4 then strB o.s else numB (tw64 o.n) 8
theorem valB_num {u : Int} (h0 : 0 ≤ u) (h1 : u ≤ 18446744073709551615) : valB (numB u 8) = u := by
 show valB [u % 256, u / 256 % 256, u / 256 / 256 % 256, u / 256 / 256 / 256 % 256, u / 256 / 256 / 256 / 256 % 256, u / 256 / 256 / 256 / 256 / 256 % 256, u / 256 / 256 / 256 / 256 / 256 / 256 % 256, u / 256 / 256 / 256 / 256 / 256 / 256 / 256 % 256] = u
 simp only [valB]
 omega
def Stay {α : Type} (rd : List Int → IS → α × IS) : Prop := ∀ l s, s.err ≠ 0 → (rd l s).2 = s
def Fwd {α : Type} (rd : List Int → IS → α × IS) (wr : α → List Int) (ok : α → Prop) : Prop :=
 ∀ l s x r, s.err = 0 → s.pos ≤ l.length → l.drop s.pos = wr x ++ r → ok x → (rd l s).1 = x ∧ (rd l s).2.err = 0 ∧ (rd l s).2.pos = s.pos + (wr x).length ∧ (rd l s).2.place = s.place
def Bwd {α : Type} (rd : List Int → IS → α × IS) (wr : α → List Int) (ok : α → Prop) : Prop :=
 ∀ l s, (∀ x ∈ l, 0 ≤ x ∧ x ≤ 255) → s.pos ≤ l.length → (rd l s).2.err = 0 → ok (rd l s).1 ∧ (rd l s).2.pos = s.pos + (wr (rd l s).1).length ∧ (rd l s).2.pos ≤ l.length ∧ l.drop s.pos = wr (rd l s).1 ++ l.drop (rd l s).2.pos ∧ (rd l s).2.place = s.place
structure Cod (α : Type) where
 rd : List Int → IS → α × IS
 wr : α → List Int
 ok : α → Prop
 stay : Stay rd
 fwd : Fwd rd wr ok
 bwd : Bwd rd wr ok
theorem drop_app {l a r : List Int} {p : Nat} (h : l.drop p = a ++ r) (hp : p ≤ l.length) : p + a.length ≤ l.length ∧ l.drop (p + a.length) = r ∧ (l.drop p).take a.length = a := by
 have e := congrArg List.length h
 rw [List.length_drop, List.length_append] at e
 refine ⟨by omega, ?_, by rw [h, List.take_left]⟩
 rw [← List.drop_drop, h, List.drop_left]
theorem wordS_stay {N m : Nat} {s : IS} (h : s.err ≠ 0) : wordS N m s = s := by unfold wordS; rw [if_neg h]
theorem failS_err {e p : Int} {s : IS} (h : e ≠ 0) : (failS e p s).err ≠ 0 := by
 unfold failS
 by_cases k : s.err = 0
 ·rw [if_pos k]; exact h
 ·rw [if_neg k]; exact k
theorem wordS_zero {N m : Nat} {s : IS} (h : (wordS N m s).err = 0) : wordOk N m s := by
 unfold wordS at h
 by_cases k : s.err = 0
 ·rw [if_pos k] at h
  by_cases g : s.pos + m ≤ N
  ·exact ⟨k, g⟩
  ·rw [if_neg g] at h; exact absurd h (failS_err (by omega))
 ·rw [if_neg k] at h; exact absurd h k
theorem word_fwd {l w r : List Int} {s : IS} {m : Nat} (h0 : s.err = 0) (hp : s.pos ≤ l.length) (h : l.drop s.pos = w ++ r) (hm : w.length = m) : wordOk l.length m s ∧ wordL l m s = w ∧ wordS l.length m s = { s with pos := s.pos + m, last := s.pos } := by
 obtain ⟨a, b, c⟩ := drop_app h hp
 rw [hm] at a b c
 exact ⟨⟨h0, a⟩, c, wordS_ok ⟨h0, a⟩⟩
theorem word_bwd {l : List Int} {s : IS} {m : Nat} (h : wordOk l.length m s) : l.drop s.pos = wordL l m s ++ l.drop (s.pos + m) ∧ (wordL l m s).length = m := by
 refine ⟨?_, wordL_length rfl h⟩
 unfold wordL
 rw [← List.drop_drop, List.take_append_drop]
theorem bytes_8 {L : List Int} (hl : L.length = 8) (hu : ∀ x ∈ L, 0 ≤ x ∧ x ≤ 255) : numB (tw64 (wrap64 (valB L))) 8 = L := by
 match L, hl with
 | [a, b, c, d, e, f, g, h], _ =>
  simp only [List.mem_cons, List.not_mem_nil, or_false, forall_eq_or_imp, forall_eq] at hu
  obtain ⟨ha, hb, hc, hd, he, hf, hg, hh⟩ := hu
  have E : tw64 (wrap64 (valB [a, b, c, d, e, f, g, h])) = valB [a, b, c, d, e, f, g, h] := by
   simp only [valB]; unfold tw64 wrap64; omega
  rw [E]
  obtain ⟨v, hv⟩ : ∃ v, valB [a, b, c, d, e, f, g, h] = v := ⟨_, rfl⟩
  rw [hv]
  simp only [valB] at hv
  show [v % 256, v / 256 % 256, v / 256 / 256 % 256, v / 256 / 256 / 256 % 256, v / 256 / 256 / 256 / 256 % 256, v / 256 / 256 / 256 / 256 / 256 % 256, v / 256 / 256 / 256 / 256 / 256 / 256 % 256, v / 256 / 256 / 256 / 256 / 256 / 256 / 256 % 256] = _
  simp only [List.cons.injEq, and_true]
  omega
def numC : Cod Int where
 rd := fun l s => (numV l s, wordS l.length 8 s)
 wr := fun n => numB (tw64 n) 8
 ok := In64Y
 stay := fun l s h => wordS_stay h
 fwd := fun l s n r h0 hp h hn => by
  obtain ⟨ok, w, e⟩ := word_fwd (m := 8) h0 hp h (numB_length _ _)
  refine ⟨?_, ?_⟩
  ·show numV l s = n
   unfold numV
   rw [if_pos ok, w, valB_num (tw64_in _).1 (tw64_in _).2]
   unfold In64Y at hn
   unfold tw64 wrap64; omega
  ·show (wordS l.length 8 s).err = 0 ∧ (wordS l.length 8 s).pos = _ ∧ (wordS l.length 8 s).place = _
   rw [e, numB_length]
   exact ⟨h0, rfl, rfl⟩
 bwd := fun l s hu hp h => by
  have ok := wordS_zero h
  obtain ⟨d, hl⟩ := word_bwd ok
  have e : numB (tw64 (numV l s)) 8 = wordL l 8 s := by
   unfold numV; rw [if_pos ok]; exact bytes_8 hl (wordL_in hu)
  show In64Y (numV l s) ∧ (wordS l.length 8 s).pos = s.pos + (numB (tw64 (numV l s)) 8).length ∧ (wordS l.length 8 s).pos ≤ _ ∧ l.drop s.pos = numB (tw64 (numV l s)) 8 ++ l.drop (wordS l.length 8 s).pos ∧ (wordS l.length 8 s).place = s.place
  rw [e, wordS_ok ok, hl]
  refine ⟨?_, rfl, ok.2, d, rfl⟩
  unfold numV; rw [if_pos ok]; unfold In64Y wrap64; omega
theorem cnt_err {lo hi : Int} {l : List Int} {s : IS} (h : (cntS lo hi l s).err = 0) : wordOk l.length 2 s ∧ ¬ cntBad lo hi l s := by
 unfold cntS at h
 by_cases k : wordOk l.length 2 s
 ·rw [if_pos k] at h
  by_cases g : cntBad lo hi l s
  ·rw [if_pos g] at h; exact absurd h (failS_err (by omega))
  ·exact ⟨k, g⟩
 ·rw [if_neg k] at h; exact absurd (wordS_zero h) k
def cntC (lo hi : Int) : Cod Int where
 rd := fun l s => (cntV lo hi l s, cntS lo hi l s)
 wr := u16B
 ok := fun n => (lo ≤ n ∧ n ≤ hi) ∧ 0 ≤ n ∧ n ≤ 65535
 stay := fun l s h => by
  show cntS lo hi l s = s
  unfold cntS
  rw [if_neg (fun k => h k.1)]; exact wordS_stay h
 fwd := fun l s n r h0 hp h hn => by
  obtain ⟨ok, w, e⟩ := word_fwd (m := 2) h0 hp h rfl
  have C : cntOf l s = n := by
   unfold cntOf; rw [w]
   show tw64 n % 256 + 256 * (tw64 n / 256 % 256) = n
   unfold tw64; omega
  have nb : ¬ cntBad lo hi l s := by unfold cntBad; rw [C]; omega
  refine ⟨?_, ?_⟩
  ·show cntV lo hi l s = n
   unfold cntV; rw [if_pos ok, if_neg nb, C]
  ·show (cntS lo hi l s).err = 0 ∧ (cntS lo hi l s).pos = _ ∧ (cntS lo hi l s).place = _
   unfold cntS
   rw [if_pos ok, if_neg nb, e]
   exact ⟨h0, rfl, rfl⟩
 bwd := fun l s hu hp h => by
  obtain ⟨ok, nb⟩ := cnt_err h
  obtain ⟨d, hl⟩ := word_bwd ok
  have hv : cntV lo hi l s = cntOf l s := by unfold cntV; rw [if_pos ok, if_neg nb]
  have hs : cntS lo hi l s = wordS l.length 2 s := by unfold cntS; rw [if_pos ok, if_neg nb]
  have u := wordL_in (m := 2) (s := s) hu
  have key : u16B (cntOf l s) = wordL l 2 s ∧ 0 ≤ cntOf l s ∧ cntOf l s ≤ 65535 := by
   unfold cntOf
   match hw : wordL l 2 s, hl with
   | [x, y], _ =>
    rw [hw] at u
    simp only [List.mem_cons, List.not_mem_nil, or_false, forall_eq_or_imp, forall_eq] at u
    show u16B (x + 256 * y) = [x, y] ∧ 0 ≤ x + 256 * y ∧ x + 256 * y ≤ 65535
    refine ⟨?_, by omega, by omega⟩
    unfold u16B tw64
    simp only [List.cons.injEq, and_true]
    omega
  show ((lo ≤ cntV lo hi l s ∧ cntV lo hi l s ≤ hi) ∧ 0 ≤ cntV lo hi l s ∧ cntV lo hi l s ≤ 65535) ∧ (cntS lo hi l s).pos = s.pos + (u16B (cntV lo hi l s)).length ∧ (cntS lo hi l s).pos ≤ _ ∧ l.drop s.pos = u16B (cntV lo hi l s) ++ l.drop (cntS lo hi l s).pos ∧ (cntS lo hi l s).place = s.place
  rw [hv, hs, key.1, wordS_ok ok, hl]
  unfold cntBad at nb
  exact ⟨⟨by omega, key.2⟩, rfl, ok.2, d, rfl⟩
def flagC : Cod Bool where
 rd := fun l s => (flagV l s, flagS l s)
 wr := flagB
 ok := fun _ => True
 stay := fun l s h => by
  show flagS l s = s
  unfold flagS
  rw [if_neg (fun k => h k.1)]; exact wordS_stay h
 fwd := fun l s b r h0 hp h _ => by
  obtain ⟨ok, w, e⟩ := word_fwd (m := 1) h0 hp h rfl
  have C : (wordL l 1 s).headD 0 = if b then 1 else 0 := by rw [w]; rfl
  refine ⟨?_, ?_⟩
  ·show flagV l s = b
   unfold flagV; rw [if_pos ok, C]; cases b <;> decide
  ·show (flagS l s).err = 0 ∧ (flagS l s).pos = _ ∧ (flagS l s).place = _
   unfold flagS
   rw [if_pos ok, C, if_neg (by split <;> omega), e]
   exact ⟨h0, rfl, rfl⟩
 bwd := fun l s hu hp h => by
  have ok : wordOk l.length 1 s := Classical.byContradiction fun k => by
   change (flagS l s).err = 0 at h
   unfold flagS at h; rw [if_neg k] at h; exact k (wordS_zero h)
  obtain ⟨d, hl⟩ := word_bwd ok
  have u := wordL_in (m := 1) (s := s) hu
  have g : ¬ 1 < (wordL l 1 s).headD 0 := fun k => by
   change (flagS l s).err = 0 at h
   unfold flagS at h; rw [if_pos ok, if_pos k] at h; exact failS_err (by omega) h
  have hs : flagS l s = wordS l.length 1 s := by unfold flagS; rw [if_pos ok, if_neg g]
  have key : flagB (flagV l s) = wordL l 1 s := by
   unfold flagV; rw [if_pos ok]
   match hw : wordL l 1 s, hl with
   | [x], _ =>
    rw [hw] at u g
    simp only [List.mem_cons, List.not_mem_nil, or_false, forall_eq] at u
    have g : ¬ 1 < x := g
    show flagB (decide (x = 1)) = [x]
    by_cases k : x = 1
    ·subst k; rfl
    ·have : x = 0 := by omega
     subst this; rfl
  show True ∧ (flagS l s).pos = s.pos + (flagB (flagV l s)).length ∧ (flagS l s).pos ≤ _ ∧ l.drop s.pos = flagB (flagV l s) ++ l.drop (flagS l s).pos ∧ (flagS l s).place = s.place
  rw [hs, key, wordS_ok ok, hl]
  exact ⟨trivial, rfl, ok.2, d, rfl⟩
def markC (t : ByteArray) : Cod Unit where
 rd := fun l s => ((), mkS t l s)
 wr := fun _ => markB t 4
 ok := fun _ => True
 stay := fun l s h => by
  show mkS t l s = s
  unfold mkS
  rw [if_neg (fun k => h k.1)]; exact wordS_stay h
 fwd := fun l s _ r h0 hp h _ => by
  obtain ⟨ok, w, e⟩ := word_fwd (m := 4) h0 hp h (markB_length _ _)
  refine ⟨rfl, ?_⟩
  show (mkS t l s).err = 0 ∧ (mkS t l s).pos = s.pos + (markB t 4).length ∧ (mkS t l s).place = _
  unfold mkS
  rw [if_pos ok, if_pos w, e, markB_length]
  exact ⟨h0, rfl, rfl⟩
 bwd := fun l s hu hp h => by
  change (mkS t l s).err = 0 at h
  have ok : wordOk l.length 4 s := Classical.byContradiction fun k => by
   unfold mkS at h; rw [if_neg k] at h; exact k (wordS_zero h)
  obtain ⟨d, hl⟩ := word_bwd ok
  have g : wordL l 4 s = markB t 4 := Classical.byContradiction fun k => by
   unfold mkS at h; rw [if_pos ok, if_neg k] at h; exact failS_err (by omega) h
  have hs : mkS t l s = wordS l.length 4 s := by unfold mkS; rw [if_pos ok, if_pos g]
  show True ∧ (mkS t l s).pos = s.pos + (markB t 4).length ∧ (mkS t l s).pos ≤ _ ∧ l.drop s.pos = markB t 4 ++ l.drop (mkS t l s).pos ∧ (mkS t l s).place = s.place
  rw [hs, ← g, wordS_ok ok, hl]
  exact ⟨trivial, rfl, ok.2, d, rfl⟩
def Cod.bind {α β : Type} (c : Cod α) (d : α → Cod β) : Cod (α × β) where
 rd := fun l s => (((c.rd l s).1, ((d (c.rd l s).1).rd l (c.rd l s).2).1), ((d (c.rd l s).1).rd l (c.rd l s).2).2)
 wr := fun x => c.wr x.1 ++ (d x.1).wr x.2
 ok := fun x => c.ok x.1 ∧ (d x.1).ok x.2
 stay := fun l s h => by
  have e := c.stay l s h
  show ((d (c.rd l s).1).rd l (c.rd l s).2).2 = s
  rw [e]; exact (d _).stay l s h
 fwd := fun l s x r h0 hp h k => by
  obtain ⟨a, b⟩ := x
  change l.drop s.pos = (c.wr a ++ (d a).wr b) ++ r at h
  change c.ok a ∧ (d a).ok b at k
  rw [List.append_assoc] at h
  obtain ⟨p1, p2, -⟩ := drop_app h hp
  obtain ⟨e1, e2, e3, e4⟩ := c.fwd l s a _ h0 hp h k.1
  obtain ⟨f1, f2, f3, f4⟩ := (d a).fwd l (c.rd l s).2 b r e2 (by rw [e3]; exact p1) (by rw [e3]; exact p2) k.2
  show ((c.rd l s).1, ((d (c.rd l s).1).rd l (c.rd l s).2).1) = (a, b) ∧ ((d (c.rd l s).1).rd l (c.rd l s).2).2.err = 0 ∧ ((d (c.rd l s).1).rd l (c.rd l s).2).2.pos = s.pos + (c.wr a ++ (d a).wr b).length ∧ ((d (c.rd l s).1).rd l (c.rd l s).2).2.place = s.place
  rw [e1, f1]
  refine ⟨rfl, f2, ?_, f4.trans e4⟩
  rw [f3, e3, List.length_append]; omega
 bwd := fun l s hu hp h => by
  change ((d (c.rd l s).1).rd l (c.rd l s).2).2.err = 0 at h
  have h1 : (c.rd l s).2.err = 0 := Classical.byContradiction fun k => by
   rw [(d _).stay l _ k] at h; exact k h
  obtain ⟨a1, a2, a3, a4, a5⟩ := c.bwd l s hu hp h1
  obtain ⟨b1, b2, b3, b4, b5⟩ := (d (c.rd l s).1).bwd l (c.rd l s).2 hu a3 h
  refine ⟨⟨a1, b1⟩, ?_, b3, ?_, b5.trans a5⟩
  ·show ((d (c.rd l s).1).rd l (c.rd l s).2).2.pos = s.pos + (c.wr (c.rd l s).1 ++ (d (c.rd l s).1).wr ((d (c.rd l s).1).rd l (c.rd l s).2).1).length
   rw [b2, a2, List.length_append]; omega
  ·show l.drop s.pos = (c.wr (c.rd l s).1 ++ (d (c.rd l s).1).wr ((d (c.rd l s).1).rd l (c.rd l s).2).1) ++ l.drop ((d (c.rd l s).1).rd l (c.rd l s).2).2.pos
   rw [a4, b4, List.append_assoc]
def repR {α : Type} (f : IS → α × IS) : Nat → IS → List α × IS
 | 0, s => ([], s)
 | n + 1, s => if s.err = 0 then ((f s).1 :: (repR f n (f s).2).1, (repR f n (f s).2).2) else ([], s)
theorem repR_stay {α : Type} {f : IS → α × IS} : ∀ (n : Nat) (s : IS), s.err ≠ 0 → repR f n s = ([], s)
 | 0, s, _ => rfl
 | n + 1, s, h => by unfold repR; rw [if_neg h]
theorem rep_fwd {α : Type} (c : Cod α) (l : List Int) : ∀ (xs : List α) (s : IS) (r : List Int), s.err = 0 → s.pos ≤ l.length → l.drop s.pos = xs.flatMap c.wr ++ r → (∀ x ∈ xs, c.ok x) → (repR (c.rd l) xs.length s).1 = xs ∧ (repR (c.rd l) xs.length s).2.err = 0 ∧ (repR (c.rd l) xs.length s).2.pos = s.pos + (xs.flatMap c.wr).length ∧ (repR (c.rd l) xs.length s).2.place = s.place
 | [], s, r, h0, _, _, _ => ⟨rfl, h0, rfl, rfl⟩
 | x :: xs, s, r, h0, hp, h, k => by
  rw [List.flatMap_cons, List.append_assoc] at h
  obtain ⟨p1, p2, -⟩ := drop_app h hp
  obtain ⟨e1, e2, e3, e4⟩ := c.fwd l s x _ h0 hp h (k x (by simp))
  obtain ⟨f1, f2, f3, f4⟩ := rep_fwd c l xs (c.rd l s).2 r e2 (by rw [e3]; exact p1) (by rw [e3]; exact p2) (fun y hy => k y (by simp [hy]))
  have E : repR (c.rd l) (x :: xs).length s = ((c.rd l s).1 :: (repR (c.rd l) xs.length (c.rd l s).2).1, (repR (c.rd l) xs.length (c.rd l s).2).2) := by
   show repR (c.rd l) (xs.length + 1) s = _
   unfold repR; rw [if_pos h0]; cases xs.length <;> rfl
  rw [E]
  refine ⟨by show (c.rd l s).1 :: _ = _; rw [e1, f1], f2, ?_, f4.trans e4⟩
  show (repR (c.rd l) xs.length (c.rd l s).2).2.pos = _
  rw [f3, e3, List.flatMap_cons, List.length_append]; omega
theorem rep_bwd {α : Type} (c : Cod α) (l : List Int) (hu : ∀ x ∈ l, 0 ≤ x ∧ x ≤ 255) : ∀ (n : Nat) (s : IS), s.pos ≤ l.length → (repR (c.rd l) n s).2.err = 0 → ((repR (c.rd l) n s).1.length = n ∧ ∀ x ∈ (repR (c.rd l) n s).1, c.ok x) ∧ (repR (c.rd l) n s).2.pos = s.pos + ((repR (c.rd l) n s).1.flatMap c.wr).length ∧ (repR (c.rd l) n s).2.pos ≤ l.length ∧ l.drop s.pos = (repR (c.rd l) n s).1.flatMap c.wr ++ l.drop (repR (c.rd l) n s).2.pos ∧ (repR (c.rd l) n s).2.place = s.place
 | 0, s, hp, h => ⟨⟨rfl, fun x k => by cases k⟩, rfl, hp, rfl, rfl⟩
 | n + 1, s, hp, h => by
  have h0 : s.err = 0 := Classical.byContradiction fun k => by rw [repR_stay _ _ k] at h; exact k h
  have E : repR (c.rd l) (n + 1) s = ((c.rd l s).1 :: (repR (c.rd l) n (c.rd l s).2).1, (repR (c.rd l) n (c.rd l s).2).2) := by
   conv => lhs; unfold repR
   rw [if_pos h0]
  rw [E] at h ⊢
  change (repR (c.rd l) n (c.rd l s).2).2.err = 0 at h
  have h1 : (c.rd l s).2.err = 0 := Classical.byContradiction fun k => by rw [repR_stay _ _ k] at h; exact k h
  obtain ⟨a1, a2, a3, a4, a5⟩ := c.bwd l s hu hp h1
  obtain ⟨⟨b0, b1⟩, b2, b3, b4, b5⟩ := rep_bwd c l hu n (c.rd l s).2 a3 h
  refine ⟨⟨by simp [b0], fun x hx => ?_⟩, ?_, b3, ?_, b5.trans a5⟩
  ·rcases List.mem_cons.1 hx with e | e
   ·subst e; exact a1
   ·exact b1 x e
  ·show (repR (c.rd l) n (c.rd l s).2).2.pos = s.pos + (((c.rd l s).1 :: (repR (c.rd l) n (c.rd l s).2).1).flatMap c.wr).length
   rw [b2, a2, List.flatMap_cons, List.length_append]; omega
  ·show l.drop s.pos = ((c.rd l s).1 :: (repR (c.rd l) n (c.rd l s).2).1).flatMap c.wr ++ l.drop (repR (c.rd l) n (c.rd l s).2).2.pos
   rw [a4, b4, List.flatMap_cons, List.append_assoc]
def repC {α : Type} (n : Nat) (c : Cod α) : Cod (List α) where
 rd := fun l s => repR (c.rd l) n s
 wr := fun xs => xs.flatMap c.wr
 ok := fun xs => xs.length = n ∧ ∀ x ∈ xs, c.ok x
 stay := fun l s h => by show (repR (c.rd l) n s).2 = s; rw [repR_stay _ _ h]
 fwd := fun l s xs r h0 hp h k => by
  have := rep_fwd c l xs s r h0 hp h k.2
  rw [k.1] at this
  exact this
 bwd := fun l s hu hp h => rep_bwd c l hu n s hp h
def Cod.as {α β : Type} (c : Cod α) (f : α → β) (g : β → α) (hgf : ∀ a, c.ok a → g (f a) = a) (hfg : ∀ b, f (g b) = b) : Cod β where
 rd := fun l s => (f (c.rd l s).1, (c.rd l s).2)
 wr := fun b => c.wr (g b)
 ok := fun b => c.ok (g b)
 stay := c.stay
 fwd := fun l s b r h0 hp h k => by
  obtain ⟨e1, e2⟩ := c.fwd l s (g b) r h0 hp h k
  exact ⟨by show f (c.rd l s).1 = b; rw [e1, hfg], e2⟩
 bwd := fun l s hu hp h => by
  obtain ⟨a1, a2⟩ := c.bwd l s hu hp h
  show c.ok (g (f (c.rd l s).1)) ∧ (c.rd l s).2.pos = s.pos + (c.wr (g (f (c.rd l s).1))).length ∧ _ ∧ l.drop s.pos = c.wr (g (f (c.rd l s).1)) ++ _ ∧ _
  rw [hgf _ a1]
  exact ⟨a1, a2⟩
def lstC {α : Type} (lo hi : Int) (c : Cod α) : Cod (List α) :=
 ((cntC lo hi).bind (fun n => repC n.toNat c)).as (fun x => x.2) (fun xs => ((xs.length : Int), xs)) (fun a h => by
  obtain ⟨n, xs⟩ := a
  obtain ⟨⟨-, h0, -⟩, h2, -⟩ := h
  have h2 : xs.length = n.toNat := h2
  have h0 : 0 ≤ n := h0
  show ((xs.length : Int), xs) = (n, xs)
  rw [h2, Int.toNat_of_nonneg h0]) (fun b => rfl)
def s0I : IS := ⟨0, 0, 0, 0⟩
theorem Cod.back {α : Type} (c : Cod α) {x : α} (h : c.ok x) : (c.rd (c.wr x) s0I).1 = x ∧ (endS (c.wr x).length (c.rd (c.wr x) s0I).2).err = 0 ∧ (endS (c.wr x).length (c.rd (c.wr x) s0I).2).place = 0 := by
 obtain ⟨e1, e2, e3, e4⟩ := c.fwd (c.wr x) s0I x [] rfl (Nat.zero_le _) (by show (c.wr x).drop 0 = _; simp) h
 refine ⟨e1, ?_⟩
 unfold endS
 rw [if_neg (by intro k; have := k.2; rw [e3] at this; have z : s0I.pos = 0 := rfl; omega)]
 exact ⟨e2, e4⟩
theorem Cod.one {α : Type} (c : Cod α) {l : List Int} (hu : ∀ x ∈ l, 0 ≤ x ∧ x ≤ 255) (h : (endS l.length (c.rd l s0I).2).err = 0) : c.ok (c.rd l s0I).1 ∧ c.wr (c.rd l s0I).1 = l := by
 have h1 : (c.rd l s0I).2.err = 0 ∧ ¬ (c.rd l s0I).2.pos < l.length := by
  unfold endS at h
  by_cases k : (c.rd l s0I).2.err = 0 ∧ (c.rd l s0I).2.pos < l.length
  ·rw [if_pos k] at h; exact absurd h (failS_err (by omega))
  ·rw [if_neg k] at h; exact ⟨h, fun g => k ⟨h, g⟩⟩
 obtain ⟨a1, a2, a3, a4, a5⟩ := c.bwd l s0I hu (Nat.zero_le _) h1.1
 refine ⟨a1, ?_⟩
 have : (c.rd l s0I).2.pos = l.length := by omega
 rw [this, List.drop_length, List.append_nil] at a4
 exact a4.symm.trans (by show l.drop 0 = l; simp)
def headS (l : List Int) (s : IS) : IS := if numV l s < 0 ∨ 4294967295 < numV l s then failS 40 (wordS l.length 8 s).last (wordS l.length 8 s) else wordS l.length 8 s
def headC : Cod Int where
 rd := fun l s => (numV l s % 4294967296, headS l s)
 wr := fun n => numB (tw64 n) 8
 ok := fun n => 0 ≤ n ∧ n ≤ 4294967295
 stay := fun l s h => by
  have e : numV l s = 0 := by unfold numV; rw [if_neg (fun k => h k.1)]
  show headS l s = s
  unfold headS
  rw [e, if_neg (by omega)]; exact wordS_stay h
 fwd := fun l s n r h0 hp h hn => by
  obtain ⟨e1, e2, e3, e4⟩ := numC.fwd l s n r h0 hp h (by show In64Y n; unfold In64Y; omega)
  have e1 : numV l s = n := e1
  have hs : headS l s = wordS l.length 8 s := by unfold headS; rw [e1, if_neg (by omega)]
  refine ⟨by show numV l s % 4294967296 = n; rw [e1]; omega, ?_⟩
  show (headS l s).err = 0 ∧ (headS l s).pos = _ ∧ (headS l s).place = _
  rw [hs]
  exact ⟨e2, e3, e4⟩
 bwd := fun l s hu hp h => by
  change (headS l s).err = 0 at h
  have g : ¬ (numV l s < 0 ∨ 4294967295 < numV l s) := fun k => by unfold headS at h; rw [if_pos k] at h; exact failS_err (by omega) h
  have hs : headS l s = wordS l.length 8 s := by unfold headS; rw [if_neg g]
  rw [hs] at h
  obtain ⟨a1, a2, a3, a4, a5⟩ := numC.bwd l s hu hp h
  have e : numV l s % 4294967296 = numV l s := by omega
  show (0 ≤ numV l s % 4294967296 ∧ numV l s % 4294967296 ≤ 4294967295) ∧ (headS l s).pos = s.pos + (numB (tw64 (numV l s % 4294967296)) 8).length ∧ (headS l s).pos ≤ _ ∧ l.drop s.pos = numB (tw64 (numV l s % 4294967296)) 8 ++ l.drop (headS l s).pos ∧ (headS l s).place = s.place
  rw [hs, e]
  exact ⟨by omega, a2, a3, a4, a5⟩
abbrev placeC : Cod (Int × Int) := numC.bind (fun _ => numC)
abbrev kindC : Cod (Int × Int × Bool) := numC.bind (fun _ => numC.bind (fun _ => flagC))
abbrev gateC : Cod ((Int × Int) × (Int × Int) × Bool) := placeC.bind (fun _ => placeC.bind (fun _ => flagC))
end Go.Proofs.YtmdjnamkbekjkaaGreatDoor

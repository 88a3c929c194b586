/- What package wire tells of what is read: the program's own In, its parts. -/
import Derived.Test.YtcljaffdochdiaaYs
import Derived.Laws.Bits64b
namespace Go.Proofs.Ytcljaffdochdiaa
open Go.RowKit
set_option linter.unusedVariables false
set_option linter.unusedSimpArgs false

/-- the program's In in memory; k: where its last word began -/
structure IQ (base top : Nat) (W : World) (nb : Nat) (a : Option Addr) (c k : Nat) (l : List Int) (s : IS) : Prop where
  hb : base ≤ nb
  nt : nb < top
  tt : top ≤ W.heap.size
  c0 : W.cell? ⟨nb, 0, none⟩ = some (.slice a l.length c)
  c1 : W.cell? ⟨nb, 1, none⟩ = some (.int .i64 s.pos)
  c2 : W.cell? ⟨nb, 2, none⟩ = some (.int .i64 k)
  c3 : W.cell? ⟨nb, 3, none⟩ = some (.int .i64 s.err)
  c4 : W.cell? ⟨nb, 4, none⟩ = some (.int .i64 s.place)
  f : ∀ j, W.frozen? ⟨nb, j, none⟩ = false
  bl : BL W a l.length l
  ab : ∀ p, a = some p → base ≤ p.block ∧ p.block < top ∧ p.block ≠ nb
  nc : l.length ≤ c
  cm : c ≤ maxLen
  nm : l.length ≤ 100000
  le : s.pos ≤ l.length
theorem IQ.keepB {base top : Nat} {W W' : World} {nb : Nat} {a : Option Addr} {c k : Nat} {l : List Int} {s : IS} (h : IQ base top W nb a c k l s) (hs : W.heap.size ≤ W'.heap.size) (hk : ∀ j, base ≤ j → j < top → W'.heap[j]? = W.heap[j]?) : IQ base top W' nb a c k l s := by
  have B := hk nb h.hb h.nt
  have C : ∀ j, W'.cell? ⟨nb, j, none⟩ = W.cell? ⟨nb, j, none⟩ := fun j => World.cell?_of_block (a := ⟨nb, j, none⟩) B
  refine ⟨h.hb, h.nt, Nat.le_trans h.tt hs, (C 0).trans h.c0, (C 1).trans h.c1, (C 2).trans h.c2, (C 3).trans h.c3, (C 4).trans h.c4, fun j => (World.frozen?_of_block (a := ⟨nb, j, none⟩) B).trans (h.f j), ⟨h.bl.hn, h.bl.u, fun h0 => ?_⟩, h.ab, h.nc, h.cm, h.nm, h.le⟩
  obtain ⟨b, off, e, hb, hc⟩ := h.bl.c h0
  have q := h.ab _ e
  exact ⟨b, off, e, Nat.lt_of_lt_of_le hb hs, fun i x hx => (World.cell?_of_block (a := ⟨b, off + i, none⟩) (hk b q.1 q.2.1)).trans (hc i x hx)⟩
theorem IQ.below {base top : Nat} {W W' : World} {nb : Nat} {a : Option Addr} {c k : Nat} {l : List Int} {s : IS} (h : IQ base top W nb a c k l s) (g : Below W.heap.size W W') : IQ base top W' nb a c k l s :=
  h.keepB g.size (fun j _ h2 => g.block j (Nat.lt_of_lt_of_le h2 h.tt))
/-- a store of its own cells -/
theorem IQ.own {base top : Nat} {W W' : World} {nb : Nat} {a : Option Addr} {c k k' : Nat} {l : List Int} {s s' : IS} (h : IQ base top W nb a c k l s) (g : W.grownBy W' (some nb)) (c0 : W'.cell? ⟨nb, 0, none⟩ = W.cell? ⟨nb, 0, none⟩) (c1 : W'.cell? ⟨nb, 1, none⟩ = some (.int .i64 s'.pos)) (c2 : W'.cell? ⟨nb, 2, none⟩ = some (.int .i64 k')) (c3 : W'.cell? ⟨nb, 3, none⟩ = some (.int .i64 s'.err)) (c4 : W'.cell? ⟨nb, 4, none⟩ = some (.int .i64 s'.place)) (f : ∀ j, W'.frozen? ⟨nb, j, none⟩ = false) (le : s'.pos ≤ l.length) : IQ base top W' nb a c k' l s' :=
  ⟨h.hb, h.nt, Nat.le_trans h.tt g.size, c0.trans h.c0, c1, c2, c3, c4, f, h.bl.grown g (fun _ p e => (h.ab p e).2.2), h.ab, h.nc, h.cm, h.nm, le⟩
theorem cell_other (W : World) (nb i j : Nat) (v : Value) (k : i ≠ j) : (W.setCell ⟨nb, i, none⟩ v).cell? ⟨nb, j, none⟩ = W.cell? ⟨nb, j, none⟩ := World.cell?_setCell_other _ _ _ _ (by intro e; injection e; omega)
theorem IQ.put34 {base top : Nat} {W : World} {nb : Nat} {a : Option Addr} {c k : Nat} {l : List Int} {s : IS} (h : IQ base top W nb a c k l s) (e p : Int) : IQ base top ((W.setCell ⟨nb, 3, none⟩ (.int .i64 e)).setCell ⟨nb, 4, none⟩ (.int .i64 p)) nb a c k l { s with err := e, place := p } := by
  refine h.own ((grown_cell W nb 3 _).trans (grown_cell _ nb 4 _)) ?_ ?_ ?_ ?_ ?_ (fun j => by rw [World.frozen?_setCell, World.frozen?_setCell]; exact h.f j) h.le
  · rw [cell_other _ _ 4 0 _ (by omega), cell_other _ _ 3 0 _ (by omega)]
  · rw [cell_other _ _ 4 1 _ (by omega), cell_other _ _ 3 1 _ (by omega)]; exact h.c1
  · rw [cell_other _ _ 4 2 _ (by omega), cell_other _ _ 3 2 _ (by omega)]; exact h.c2
  · rw [cell_other _ _ 4 3 _ (by omega)]; exact World.cell?_setCell_same _ _ _ h.c3
  · exact World.cell?_setCell_same _ _ _ (by rw [cell_other _ _ 3 4 _ (by omega)]; exact h.c4)
theorem IQ.put2 {base top : Nat} {W : World} {nb : Nat} {a : Option Addr} {c k : Nat} {l : List Int} {s : IS} (h : IQ base top W nb a c k l s) (q : Nat) : IQ base top (W.setCell ⟨nb, 2, none⟩ (.int .i64 q)) nb a c q l s := by
  refine h.own (grown_cell W nb 2 _) ?_ ?_ ?_ ?_ ?_ (fun j => by rw [World.frozen?_setCell]; exact h.f j) h.le
  · rw [cell_other _ _ 2 0 _ (by omega)]
  · rw [cell_other _ _ 2 1 _ (by omega)]; exact h.c1
  · exact World.cell?_setCell_same _ _ _ h.c2
  · rw [cell_other _ _ 2 3 _ (by omega)]; exact h.c3
  · rw [cell_other _ _ 2 4 _ (by omega)]; exact h.c4
theorem IQ.put1 {base top : Nat} {W : World} {nb : Nat} {a : Option Addr} {c k : Nat} {l : List Int} {s : IS} (h : IQ base top W nb a c k l s) (q : Nat) (hq : q ≤ l.length) : IQ base top (W.setCell ⟨nb, 1, none⟩ (.int .i64 q)) nb a c k l { s with pos := q } := by
  refine h.own (grown_cell W nb 1 _) ?_ ?_ ?_ ?_ ?_ (fun j => by rw [World.frozen?_setCell]; exact h.f j) hq
  · rw [cell_other _ _ 1 0 _ (by omega)]
  · exact World.cell?_setCell_same _ _ _ h.c1
  · rw [cell_other _ _ 1 2 _ (by omega)]; exact h.c2
  · rw [cell_other _ _ 1 3 _ (by omega)]; exact h.c3
  · rw [cell_other _ _ 1 4 _ (by omega)]; exact h.c4
/-- where the last word began is not asked here -/
theorem IQ.lastA {base top : Nat} {W : World} {nb : Nat} {a : Option Addr} {c k : Nat} {l : List Int} {s s' : IS} (h : IQ base top W nb a c k l s) (e1 : s'.pos = s.pos) (e2 : s'.err = s.err) (e3 : s'.place = s.place) : IQ base top W nb a c k l s' :=
  ⟨h.hb, h.nt, h.tt, h.c0, by rw [e1]; exact h.c1, h.c2, by rw [e2]; exact h.c3, by rw [e3]; exact h.c4, h.f, h.bl, h.ab, h.nc, h.cm, h.nm, by rw [e1]; exact h.le⟩
def inT : InT where
  P := fun base top W nb l s => ∃ a c k, IQ base top W nb a c k l s
  keep := fun ⟨a, c, k, h⟩ hs hk => ⟨a, c, k, h.keepB hs hk⟩
  top := fun ⟨a, c, k, h⟩ => ⟨by have := h.hb; have := h.nt; omega, h.tt⟩
theorem IQ.mid {base top : Nat} {W W' : World} {nb : Nat} {a : Option Addr} {c k : Nat} {l : List Int} {s : IS} (h : IQ base top W nb a c k l s) (g : W.grownBy W' (some nb)) : Mid base top W W' :=
  ⟨g.os, g.tape, g.output, g.size, fun j hj ho => g.block j hj (by have := h.hb; have := h.nt; intro e; injection e; omega)⟩
variable {base top : Nat} {nb : Nat} {a : Option Addr} {c k : Nat} {l : List Int} {s : IS}
theorem iGood_any (w : World) (h : IQ base top w nb a c k l s) : Calls Try.prog 35 #[.pointer (some ⟨nb, 0, none⟩)] w fun e w' => e = .returned (.bool (s.err == 0)) ∧ w = w' := by
  have c3 := h.c3
  clear h
  go_enter Try.func35, Try.ntmps35
  go_wp2
  go_ret
  exact ⟨rfl, rfl⟩
theorem iFail_any (e p : Int) (w : World) (h : IQ base top w nb a c k l s) : Calls Try.prog 34 #[.pointer (some ⟨nb, 0, none⟩), .int .i64 e, .int .i64 p] w fun en w' => en = .returned (.tuple #[]) ∧ IQ base top w' nb a c k l (failS e p s) ∧ w.grownBy w' (some nb) := by
  have c3 := h.c3
  have c4 := h.c4
  have hf := h.f
  have H := Lib.hid h
  have G := Lib.hid (iGood_any w h)
  clear h
  by_cases z : s.err = 0
  · have E := Lib.hid (show failS e p s = { s with err := e, place := p } by unfold failS; rw [if_pos z])
    rw [E.out]
    rw [show (s.err == 0) = true by simp [z]] at G
    clear z
    go_enter Try.func34, Try.ntmps34
    go_wp2_with fail
    refine G.out.mono ?_
    rintro en w' ⟨rfl, rfl⟩
    clear G
    go_wp2
    go_end0
    exact ⟨rfl, H.out.put34 e p, (grown_cell w nb 3 _).trans (grown_cell _ nb 4 _)⟩
  · have E := Lib.hid (show failS e p s = s by unfold failS; rw [if_neg z])
    rw [E.out]
    rw [show (s.err == 0) = false by simp [z]] at G
    clear z
    go_enter Try.func34, Try.ntmps34
    go_wp2_with fail
    refine G.out.mono ?_
    rintro en w' ⟨rfl, rfl⟩
    clear G
    go_wp2
    go_end0
    exact ⟨rfl, H.out, World.grownBy.refl _ _⟩
def takeS (N m : Nat) (s : IS) : IS := if s.err = 0 then (if s.pos + m ≤ N then { s with pos := s.pos + m } else failS 20 N s) else s
def takeL (l : List Int) (m : Nat) (s : IS) : List Int := if wordOk l.length m s then wordL l m s else []
/-- what take tells -/
def TakeR (base top : Nat) (w : World) (nb : Nat) (a : Option Addr) (c k : Nat) (l : List Int) (s' : IS) (lw : List Int) (en : Ending) (w' : World) : Prop :=
  (∃ a' c', en = .returned (.slice a' lw.length c') ∧ BL w' a' lw.length lw ∧ (∀ p, a' = some p → base ≤ p.block ∧ p.block < top ∧ p.block ≠ nb) ∧ lw.length ≤ c' ∧ c' ≤ maxLen) ∧ IQ base top w' nb a c k l s' ∧ w.grownBy w' (some nb)
theorem bl_none (W : World) : BL W none 0 [] := ⟨rfl, fun x hx => by simp at hx, fun h => absurd h (by omega)⟩
set_option maxHeartbeats 1000000 in
theorem iTake_any (m : Nat) (w : World) (hm : m ≤ 1000000000) (h : IQ base top w nb a c k l s) : Calls Try.prog 33 #[.pointer (some ⟨nb, 0, none⟩), .int .i64 m] w (TakeR base top w nb a c k l (takeS l.length m s) (takeL l m s)) := by
  have c0 := h.c0
  have c1 := h.c1
  have hf := h.f
  have nm := h.nm
  have le := h.le
  have H := Lib.hid h
  have G := Lib.hid (iGood_any w h)
  clear h
  by_cases z : s.err = 0
  · rw [show (s.err == 0) = true by simp [z]] at G
    by_cases q : s.pos + m ≤ l.length
    · obtain ⟨p, hp⟩ : ∃ p, s.pos + m = p := ⟨_, rfl⟩
      have E := Lib.hid (show takeS l.length m s = { s with pos := p } by unfold takeS; rw [if_pos z, if_pos q, hp])
      have E2 := Lib.hid (show takeL l m s = wordL l m s by unfold takeL; rw [if_pos ⟨z, q⟩])
      have E3 := Lib.hid (show (wordL l m s).length = m by unfold wordL; rw [List.length_take, List.length_drop]; omega)
      rw [E.out, E2.out]
      have q' : ¬ (l.length : Int) - (s.pos : Int) < (m : Int) := by omega
      have pp : (s.pos : Int) + (m : Int) = (p : Int) := by omega
      have HP := Lib.hid hp
      have hpn : p ≤ l.length := by omega
      clear z q hp
      go_enter Try.func33, Try.ntmps33
      go_wp2_with fail
      refine G.out.mono ?_
      rintro en w' ⟨rfl, rfl⟩
      clear G
      go_wp2_with fail
      go_quiet (fail)
      go_wp2_with fail
      refine wpg (S := fun W => IQ base top W nb a c k l s ∧ w.grownBy W (some nb)) ⟨H.out.below (bel_drewN _ _), grown_below (bel_drewN _ _) _⟩ (fun W1 hS => ?_)
      have H1 := Lib.hid hS.1
      have G1 := Lib.hid hS.2
      clear c0 c1 hf H
      have c0 := hS.1.c0
      have c1 := hS.1.c1
      have hf := hS.1.f
      have nc := hS.1.nc
      have cm := hS.1.cm
      clear hS
      go_quiet (fail)
      have z1 : ¬ (p : Int) < (s.pos : Int) := by omega
      have pmq : p - s.pos = m := by have := HP.out; omega
      have PM := Lib.hid pmq
      clear pmq
      go_wp2
      · rename_i h
        subst h
        have m0 : m = 0 := by have := HP.out; omega
        subst m0
        have hw : wordL l 0 s = [] := by unfold wordL; simp
        rw [hw]
        go_ret
        refine ⟨⟨a, 0, rfl, ⟨rfl, fun x hx => by simp at hx, fun h => absurd h (by simp)⟩, fun x hx => H1.out.ab x hx, by simp, by omega⟩, (H1.out.below (bel_drewN _ nq)).put1 _ hpn, (G1.out.trans (grown_below (bel_drewN _ _) _)).trans (grown_cell _ nb 1 _)⟩
      · go_ret
        have H2 := (H1.out.below (bel_drewN _ nq)).put1 p hpn
        refine ⟨⟨Option.map (fun x => x.add s.pos) a, m, by rw [E3.out, ← PM.out]; rfl, ?_, fun x hx => ?_, by rw [E3.out]; omega, by omega⟩, H2, (G1.out.trans (grown_below (bel_drewN _ _) _)).trans (grown_cell _ nb 1 _)⟩
        · rw [E3.out]; exact H2.bl.sub (by have := HP.out; omega)
        · cases a with
          | none => cases hx
          | some y =>
            cases hx
            have e : (y.add s.pos).block = y.block := by unfold Addr.add; split <;> rfl
            show base ≤ (y.add s.pos).block ∧ (y.add s.pos).block < top ∧ (y.add s.pos).block ≠ nb
            rw [e]; exact H1.out.ab y rfl
    · have E := Lib.hid (show takeS l.length m s = failS 20 l.length s by unfold takeS; rw [if_pos z, if_neg q])
      have E2 := Lib.hid (show takeL l m s = [] by unfold takeL; rw [if_neg (fun h => q h.2)])
      rw [E.out, E2.out]
      have q' : (l.length : Int) - (s.pos : Int) < (m : Int) := by omega
      clear z q
      go_enter Try.func33, Try.ntmps33
      go_wp2_with fail
      refine G.out.mono ?_
      rintro en w' ⟨rfl, rfl⟩
      clear G
      go_wp2_with fail
      go_quiet (fail)
      go_wp2_with fail
      refine callsg (S := fun W => IQ base top W nb a c k l s ∧ w.grownBy W (some nb)) ⟨H.out.below (bel_drewN _ _), grown_below (bel_drewN _ _) _⟩ (fun W0 hS => ?_)
      have G0 := Lib.hid hS.2
      refine (iFail_any 20 l.length W0 hS.1).mono ?_
      clear hS c0 c1
      rintro en w1 ⟨rfl, h1, g1⟩
      have H1 := Lib.hid h1
      have G1 := Lib.hid (G0.out.trans g1)
      clear h1 g1
      go_wp2
      go_ret
      exact ⟨⟨none, 0, rfl, bl_none _, (fun p e => by cases e), by simp, by unfold maxLen; omega⟩, H1.out, G1.out⟩
  · have E := Lib.hid (show takeS l.length m s = s by unfold takeS; rw [if_neg z])
    have E2 := Lib.hid (show takeL l m s = [] by unfold takeL; rw [if_neg (fun h => z h.1)])
    rw [E.out, E2.out]
    rw [show (s.err == 0) = false by simp [z]] at G
    clear z
    go_enter Try.func33, Try.ntmps33
    go_wp2_with fail
    refine G.out.mono ?_
    rintro en w' ⟨rfl, rfl⟩
    clear G
    go_wp2
    go_ret
    exact ⟨⟨none, 0, rfl, bl_none _, (fun p e => by cases e), by simp, by unfold maxLen; omega⟩, H.out, World.grownBy.refl _ _⟩
theorem wordS_take (N m : Nat) (s : IS) : (wordS N m s).pos = (takeS N m s).pos ∧ (wordS N m s).err = (takeS N m s).err ∧ (wordS N m s).place = (takeS N m s).place := by
  unfold wordS takeS
  split
  · split
    · exact ⟨rfl, rfl, rfl⟩
    · exact ⟨rfl, rfl, rfl⟩
  · exact ⟨rfl, rfl, rfl⟩
def WordR (base top : Nat) (w : World) (nb : Nat) (a : Option Addr) (c : Nat) (l : List Int) (m : Nat) (s : IS) (en : Ending) (w' : World) : Prop :=
  ∃ k, (wordOk l.length m s → k = s.pos) ∧ TakeR base top w nb a c k l (wordS l.length m s) (takeL l m s) en w'
set_option maxHeartbeats 1000000 in
theorem iWord_any (m : Nat) (w : World) (hm : m ≤ 1000000000) (h : IQ base top w nb a c k l s) : Calls Try.prog 30 #[.pointer (some ⟨nb, 0, none⟩), .int .i64 m] w (WordR base top w nb a c l m s) := by
  have c1 := h.c1
  have c2 := h.c2
  have hf := h.f
  have H := Lib.hid h
  have G := Lib.hid (iGood_any w h)
  clear h
  by_cases z : s.err = 0
  · rw [show (s.err == 0) = true by simp [z]] at G
    clear z
    go_enter Try.func30, Try.ntmps30
    go_wp2_with fail
    refine G.out.mono ?_
    rintro en w' ⟨rfl, rfl⟩
    clear G
    go_wp2_with fail
    refine (iTake_any m _ hm (H.out.put2 s.pos)).mono ?_
    rintro en w1 ⟨⟨a', c', rfl, h1, h2, h3, h4⟩, h5, h6⟩
    have R := Lib.hid (show WordR base top w nb a c l m s (.returned (.slice a' (takeL l m s).length c')) w1 from ⟨s.pos, fun _ => rfl, ⟨a', c', rfl, h1, h2, h3, h4⟩, h5.lastA (wordS_take _ _ _).1 (wordS_take _ _ _).2.1 (wordS_take _ _ _).2.2, (grown_cell w nb 2 _).trans h6⟩)
    clear h1 h2 h3 h4 h5 h6 H c1 c2 hf
    go_wp2
    go_ret
    exact R.out
  · have E := Lib.hid (show wordS l.length m s = s by unfold wordS; rw [if_neg z])
    have E2 := Lib.hid (show takeL l m s = [] by unfold takeL; rw [if_neg (fun h => z h.1)])
    have R := Lib.hid (show WordR base top w nb a c l m s (.returned (.slice none 0 0)) w from ⟨k, fun h => absurd h.1 z, by rw [E.out, E2.out]; exact ⟨⟨none, 0, rfl, bl_none _, (fun p e => by cases e), by simp, by unfold maxLen; omega⟩, H.out, World.grownBy.refl _ _⟩⟩)
    rw [show (s.err == 0) = false by simp [z]] at G
    clear z
    go_enter Try.func30, Try.ntmps30
    go_wp2_with fail
    refine G.out.mono ?_
    rintro en w' ⟨rfl, rfl⟩
    clear G
    go_wp2
    go_ret
    exact R.out
theorem valB_snoc (xs : List Int) (x : Int) : valB (xs ++ [x]) = valB xs + 256 ^ xs.length * x := by
  induction xs with
  | nil => simp [valB]
  | cons y r ih =>
    show y + 256 * valB (r ++ [x]) = (y + 256 * valB r) + 256 ^ (r.length + 1) * x
    rw [ih, Int.pow_succ, Int.mul_add, show (256 : Int) ^ r.length * 256 * x = 256 * (256 ^ r.length * x) by rw [Int.mul_comm (256 ^ r.length) 256, Int.mul_assoc]]
    omega
theorem or_up (j : Nat) (hj : j ≤ 7) (q x : Nat) (hq : q < 256 ^ j) (hx : x ≤ 255) : q ||| (x * 2 ^ (8 * j)) = q + 256 ^ j * x := by
  have e : (256 : Nat) ^ j = 2 ^ (8 * j) := by rw [Nat.pow_mul]
  rw [e] at hq ⊢
  rw [Nat.mul_comm x, Nat.or_comm, ← Nat.two_pow_add_eq_or_of_lt hq]
  omega
theorem pow_56 : ∀ j : Nat, j ≤ 7 → 256 ^ j * 256 ≤ 18446744073709551616 := by decide
theorem or_int (j : Nat) (hj : j ≤ 7) (q x : Int) (q0 : 0 ≤ q) (hq : q < 256 ^ j) (x0 : 0 ≤ x) (hx : x ≤ 255) : bits .or .u64 q (IntKind.u64.wrap (x * 2 ^ (8 * j))) = q + 256 ^ j * x := by
  obtain ⟨q', rfl⟩ := Int.eq_ofNat_of_zero_le q0
  obtain ⟨x', rfl⟩ := Int.eq_ofNat_of_zero_le x0
  have hq' : q' < 256 ^ j := Int.ofNat_lt.1 (by rw [Int.natCast_pow]; exact hq)
  have hx' : x' ≤ 255 := by omega
  have p := pow_56 j hj
  have e : (256 : Nat) ^ j = 2 ^ (8 * j) := by rw [Nat.pow_mul]
  have b1 : x' * 2 ^ (8 * j) < 18446744073709551616 := by
    rw [← e]
    have : x' * 256 ^ j ≤ 255 * 256 ^ j := Nat.mul_le_mul_right _ hx'
    have h0 : 0 < 256 ^ j := Nat.pow_pos (by omega)
    omega
  have hw : IntKind.u64.wrap ((x' : Int) * 2 ^ (8 * j)) = ((x' * 2 ^ (8 * j) : Nat) : Int) := by
    rw [show ((x' : Int) * 2 ^ (8 * j)) = ((x' * 2 ^ (8 * j) : Nat) : Int) by rw [Int.natCast_mul, Int.natCast_pow]; rfl, IntKind.wrap_u64]
    omega
  rw [hw, bits_or_u64_nat q' _ (by omega) b1, or_up j hj q' x' hq' hx', Int.natCast_add, Int.natCast_mul, Int.natCast_pow]
  rfl
set_option maxHeartbeats 1000000 in
theorem iWhole_any (p : Option Addr) (n d : Nat) (xs : List Int) (w : World) (hb : BL w p n xs) (hn : n ≤ 8) : Calls Try.prog 29 #[.slice p n d] w fun e w' => e = .returned (.int .u64 (valB xs)) ∧ w = w' := by
  have hl := hb.hn
  have hu := Lib.hid hb.u
  have HB := Lib.hid hb
  clear hb
  go_enter Try.func29, Try.ntmps29
  go_wp2
  go_loopw [3, 8] (fun u i wr => ∃ j : Nat, j ≤ n ∧ i = .int .i64 j ∧ u = .int .u64 (valB (xs.take j)) ∧ w = wr) (fun _ i _ => n - (intOf i).toNat)
  case atStart => exact ⟨0, by omega, rfl, rfl, rfl⟩
  case round =>
    obtain ⟨j, hj, rfl, rfl, rfl⟩ := hrel
    by_cases z : j < n
    · obtain ⟨b, off, rfl, hbl, hc⟩ := HB.out.c (by omega)
      have cell := hc j xs[j] (List.getElem?_eq_getElem (by omega))
      have x0 := hu.out xs[j] (List.getElem_mem _)
      have I := valB_in (xs.take j) (fun x hx => hu.out x (List.mem_of_mem_take hx))
      obtain ⟨q, hq⟩ : ∃ q, valB (xs.take j) = q := ⟨_, rfl⟩
      obtain ⟨x, hx⟩ : ∃ x, xs[j] = x := ⟨_, rfl⟩
      have N := valB_snoc (xs.take j) xs[j]
      rw [show xs.take j ++ [xs[j]] = xs.take (j + 1) by rw [List.take_succ_eq_append_getElem (by omega)], List.length_take, show min j xs.length = j by omega] at N
      rw [List.length_take, show min j xs.length = j by omega] at I
      rw [hq] at I N ⊢
      rw [hx] at cell x0 N
      have BO := or_int j (by omega) q x I.1 I.2 x0.1 x0.2
      have K := Lib.hid (BO.trans N.symm)
      have q0 := I.1
      have x1 := x0.1
      have x2 := x0.2
      have HQ := Lib.hid (And.intro hq hx)
      clear hq hx hc x0 I N BO
      have j8 : j ≤ 7 := by omega
      go_wp2
      go_roundw
      case rel => exact ⟨j + 1, by omega, by go_num, by rw [K.out], trivial⟩
      case measure => simp [intOf]; omega
    · have e : j = n := by omega
      subst e
      rw [List.take_of_length_le (by omega)]
      go_wp2
      go_ret
      exact ⟨rfl, rfl⟩
end Go.Proofs.Ytcljaffdochdiaa

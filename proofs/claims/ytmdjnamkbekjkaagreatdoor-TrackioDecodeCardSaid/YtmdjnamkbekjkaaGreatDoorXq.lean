/- -/
import Derived.Test.YtmdjnamkbekjkaaGreatDoorD4
import Derived.Test.YtmdjnamkbekjkaaGreatDoorB4
import Derived.Test.YtmdjnamkbekjkaaGreatDoorB7
namespace Go.Proofs.YtmdjnamkbekjkaaGreatDoor
open Go.RowKit
set_option linter.unusedVariables false
set_option linter.unusedSimpArgs false
def TioAw : Prop := ∀ w, ErT w → Calls Tryz.prog 10 #[] w fun e w' => e = .returned (.bool true) ∧ Below w.heap.size w w'
theorem ob_bl3 {base : Nat} {W : World} {v : Value} {l : List Int} (h : OB base W v (byC l)) (hu : ∀ x ∈ l, 0 ≤ x ∧ x ≤ 255) : ∃ a c, v = .slice a l.length c ∧ BL W a l.length l ∧ (∀ p, a = some p → base ≤ p.block ∧ p.block < W.heap.size) ∧ l.length ≤ c ∧ c ≤ maxLen := by
 obtain ⟨a, c, e, hb, ha⟩ := h.bl hu
 refine ⟨a, c, e, hb, fun p hp => ⟨ha p hp, ?_⟩, ?_⟩
 ·subst e; subst hp; exact (h.row_lt (g := p.block) rfl).2
 ·rcases h with ⟨e2, e3⟩ | ⟨g, cap, e2, _, _, hl, hm, _⟩
  ·have : l.length = 0 := by rw [← byC_length, e3]; rfl
   rw [e] at e2; injection e2 with _ _ e5; exact ⟨by omega, by unfold maxLen; omega⟩
  ·rw [e] at e2; injection e2 with e2 e3 e4; subst e4; rw [byC_length] at hl; exact ⟨hl, hm⟩
theorem own_emptyX (W : World) (T : TypeId) : OB W.heap.size (W.alloc (.cells #[] T)) (.slice (some ⟨W.heap.size, 0, none⟩) 0 0) [] := OB.new W [] [] #[] T rfl (Nat.le_refl _) (by unfold maxLen; simp)
theorem conv_blX {P : Program} {W : World} {a : Option Addr} {n : Nat} {l : List Int} (h : BL W a n l) (c : Nat) (src e dst : TypeId) (hs : P.underlying src = some (.slice e)) (he : P.underlying e = some (.int .u8)) (hd : P.underlying dst = some .string) : (convert src dst (.slice a n c)).run P W = .ok (.string (txt l)) W := by
 by_cases n0 : 0 < n
 ·exact conv_bl h n0 c src e dst hs he hd
 ·have hl := h.hn
  have : l = [] := List.eq_nil_of_length_eq_zero (by omega)
  subst this
  have n00 : n = 0 := by omega
  subst n00
  cases a with
  | none => rw [run_convert_bytes_nil (P := P) W src e hs he _ _ dst hd]; rfl
  | some x =>
   rw [run_convert_bytes_string W src dst e _ 0 c hs he hd, run_bytesToString W x 0 c [] (by simp [loadCells, loadCellsFrom])]
   rfl
theorem bl_intsX {W : World} {a : Option Addr} {len cap : Nat} {zs : List Int} (I : Ints W .u8 a len cap zs) : BL W a len zs := by
 refine ⟨I.hz, fun x hx => ?_, fun h0 => ?_⟩
 ·have := I.wf x hx
  simp [Lit.wf, IntKind.min, IntKind.max, IntKind.bits, IntKind.signed] at this
  omega
 ·obtain ⟨b, off, e, hb, hc⟩ := I.at' h0
  refine ⟨b, off, e, hb, fun i x hi => ?_⟩
  have hlt : i < len := by
   rcases Nat.lt_or_ge i zs.length with k | k
   ·rw [I.hz] at k; exact k
   ·rw [List.getElem?_eq_none k] at hi; cases hi
  rw [hc i hlt, List.getD_eq_getElem?_getD, hi]
  rfl
theorem bl_step {w w' : World} {a : Option Addr} {n : Nat} {l : List Int} (h : BL w a n l) (k : Below w.heap.size w w') : BL w' a n l :=
 ⟨h.hn, h.u, fun h0 => by
  obtain ⟨b, off, e, hb, hc⟩ := h.c h0
  exact ⟨b, off, e, Nat.lt_of_lt_of_le hb k.size, fun i x hx => (k.cell (p := ⟨b, off + i, none⟩) hb).trans (hc i x hx)⟩⟩
structure TdW (w W : World) (n : Nat) (a : TAd) (d : TD) : Prop where
 c : BW W n (tdL a d)
 l : Below w.heap.size w W
 t : TkM W.heap.size W (tkA a d)
theorem TdW.step {w W W' : World} {n : Nat} {a : TAd} {d : TD} (S : TdW w W n a d) (h : Below W.heap.size W W') : TdW w W' n a d := by
 have z := h.size
 exact ⟨S.c.below h S.c.lt, S.l.trans (h.mono S.l.size), tkm_up (S.t.keep h (Nat.le_refl _)) z⟩
theorem TdW.kc {w W : World} {n : Nat} {a : TAd} {d : TD} (S : TdW w W n a d) : TKc n (tkA a d).t W := tk_of S.c
set_option maxRecDepth 100000 in
set_option maxHeartbeats 8000000 in
theorem tio_awake (C : TioC) : TioAw := by
 intro w hE
 have HE := Lib.hid hE
 have HC := Lib.hid C
 clear C hE
 go_enter Tryz.func10, Tryz.ntmps10
 go_wp2_with fail
 refine (lsample_any _).mono ?_
 rintro e w1 ⟨⟨s, rfl, hk⟩, h1⟩
 obtain ⟨a, ea, ka⟩ := smp_can hk
 rw [show (trkV (smpT s)) = trkV (tkA a smpD).t from ea]
 have XE := Lib.hid (by
  have := HC.out.enc a smpD w1.heap.size w1 (Nat.le_refl _) (smpD_few a).2 (by decide) (HE.out.step h1) ka
  rw [smpD_right, if_pos rfl] at this
  exact this)
 have DB := Lib.hid (smpD_dec ka)
 have LN := Lib.hid (wr_len (ok_all (smpD_ok ka)))
 have B1 := Lib.hid h1
 clear hk h1 ea ka
 go_wp2_with fail
 refine XE.out.mono ?_
 rintro e w2 ⟨⟨v, rfl, o⟩, h⟩
 have B2 := Lib.hid (B1.out.trans (h.mono B1.out.size))
 obtain ⟨a0, c0, rfl, hb, -, hc0, hm0⟩ := ob_bl3 o (byt_track smpD)
 have XD := Lib.hid (by
  have := HC.out.dec a0 _ c0 (trackCod.wr smpD) w2 hb hc0 hm0 (by have := LN.out; omega) (HE.out.step B2.out)
  unfold DecP at this
  rw [DB.out.1, DB.out.2.1, DB.out.2.2] at this
  exact this)
 generalize (trackCod.wr smpD).length = n0 at *
 clear h B1 XE o hb hc0 hm0 LN DB
 go_wp2_with fail
 refine XD.out.mono ?_
 rintro e w3 ⟨⟨ad, rfl, k3⟩, h⟩
 have B3 := Lib.hid (B2.out.trans (h.mono B2.out.size))
 have K3 := Lib.hid k3
 clear h B2 XD k3
 go_wp2_with fail
 refine calls_gen (S := fun W => TdW w W w3.heap.size ad smpD) ⟨BW.new w3 _ (tdL ad smpD) _ rfl, B3.out.alloc B3.out.size _, tkm_up (K3.out.keep ((Below.refl _ _).alloc (Nat.le_refl _) _) (Nat.le_refl _)) (by simp)⟩ (fun W4 hS => ?_)
 have S4 := Lib.hid hS
 clear hS B3 K3
 generalize w3.heap.size = n3 at *
 refine (HC.out.dec none 0 0 [] W4 ⟨rfl, fun x hx => (by cases hx), fun h => absurd h (by omega)⟩ (Nat.le_refl _) (Nat.zero_le _) (by omega) (HE.out.step S4.out.l)).mono ?_
 unfold DecP
 rw [nil_dec.1, nil_dec.2.1, nil_dec.2.2]
 rintro e w5 ⟨⟨ad2, rfl, -⟩, h⟩
 have S5 := Lib.hid (S4.out.step h)
 clear h S4
 go_wp2_with fail
 have bal := (Below.refl w5.heap.size w5).alloc (Nat.le_refl _) (.cells (tdL ad2 zTD).toArray 34)
 refine wp_gen (S := fun W => TdW w W n3 ad smpD) (S5.out.step bal) (fun W6 hS => ?_)
 have S6 := Lib.hid (hS.step (Below.refl _ _).drew)
 clear hS bal S5
 refine wp_region_held_drew (S := fun W => TKc n3 (tkA ad smpD).t W) (by kernel_rfl) S6.out.kc (fun hHeld => ?_)
 generalize World.drew _ = w6 at *
 refine tkD 0 25 (v := ?_) ?_ hHeld ?_
 rotate_left 1
 (intro W hSw; (try dsimp only [TKc] at hSw); go_simp; try with_reducible rfl)
 (try simp only [putA, putB, putC, putD])
 refine tkD 1 26 (v := ?_) ?_ hHeld ?_
 rotate_left 1
 (intro W hSw; (try dsimp only [TKc] at hSw); go_simp; try with_reducible rfl)
 (try simp only [putA, putB, putC, putD])
 refine tkD 2 27 (v := ?_) ?_ hHeld ?_
 rotate_left 1
 (intro W hSw; (try dsimp only [TKc] at hSw); go_simp; try with_reducible rfl)
 (try simp only [putA, putB, putC, putD])
 refine tkD 3 28 (v := ?_) ?_ hHeld ?_
 rotate_left 1
 (intro W hSw; (try dsimp only [TKc] at hSw); go_simp; try with_reducible rfl)
 (try simp only [putA, putB, putC, putD])
 refine tkD 4 29 (v := ?_) ?_ hHeld ?_
 rotate_left 1
 (intro W hSw; (try dsimp only [TKc] at hSw); go_simp; try with_reducible rfl)
 (try simp only [putA, putB, putC, putD])
 refine tkD 5 30 (v := ?_) ?_ hHeld ?_
 rotate_left 1
 (intro W hSw; (try dsimp only [TKc] at hSw); go_simp; try with_reducible rfl)
 (try simp only [putA, putB, putC, putD])
 refine tkD 6 31 (v := ?_) ?_ hHeld ?_
 rotate_left 1
 (intro W hSw; (try dsimp only [TKc] at hSw); go_simp; try with_reducible rfl)
 (try simp only [putA, putB, putC, putD])
 refine tkD 7 32 (v := ?_) ?_ hHeld ?_
 rotate_left 1
 (intro W hSw; (try dsimp only [TKc] at hSw); go_simp; try with_reducible rfl)
 (try simp only [putA, putB, putC, putD])
 refine onlD 8 (fun K hK => ?_)
 go_simp
 refine (lsample_any _).mono ?_
 rintro e w7 ⟨⟨s2, rfl, hk⟩, h⟩
 have S7 := Lib.hid (S6.out.step h)
 obtain ⟨a2, ea2, ka2⟩ := smp_can hk
 rw [show (trkV (smpT s2)) = .agg (tdL a2 smpD).toArray from ea2]
 have K2 := Lib.hid ka2
 go_wp2_with fail
 refine hK.out _ _ (S7.out.kc) ?_
 clear hK K hHeld
 intro hHeld
 clear h S6 hk ea2 ka2
 refine onlD 9 (fun K hK => ?_)
 go_simp
 refine (r15Same_any ad a2 smpD smpD w7.heap.size w7 (Nat.le_refl _) (tok_bd (ok_all (smpD_ok K2.out))) S7.out.t K2.out).mono ?_
 rintro e w8 ⟨rfl, h⟩
 have S8 := Lib.hid (S7.out.step h)
 rw [decide_eq_true ((tdP_iff smpD smpD).2 rfl)]
 go_wp2_with fail
 refine hK.out _ _ (S8.out.kc) ?_
 clear hK K hHeld
 intro hHeld
 clear h S7 K2
 refine tkD 10 35 (v := ?_) ?_ hHeld ?_
 rotate_left 1
 (intro W hSw; (try dsimp only [TKc] at hSw); go_simp; try with_reducible rfl)
 (try simp only [putA, putB, putC, putD])
 refine tkD 11 36 (v := ?_) ?_ hHeld ?_
 rotate_left 1
 (intro W hSw; (try dsimp only [TKc] at hSw); go_simp; try with_reducible rfl)
 (try simp only [putA, putB, putC, putD])
 refine tkD 12 37 (v := ?_) ?_ hHeld ?_
 rotate_left 1
 (intro W hSw; (try dsimp only [TKc] at hSw); go_simp; try with_reducible rfl)
 (try simp only [putA, putB, putC, putD])
 refine tkD 13 38 (v := ?_) ?_ hHeld ?_
 rotate_left 1
 (intro W hSw; (try dsimp only [TKc] at hSw); go_simp; try with_reducible rfl)
 (try simp only [putA, putB, putC, putD])
 refine tkD 14 39 (v := ?_) ?_ hHeld ?_
 rotate_left 1
 (intro W hSw; (try dsimp only [TKc] at hSw); go_simp; try with_reducible rfl)
 (try simp only [putA, putB, putC, putD])
 refine tkD 15 40 (v := ?_) ?_ hHeld ?_
 rotate_left 1
 (intro W hSw; (try dsimp only [TKc] at hSw); go_simp; try with_reducible rfl)
 (try simp only [putA, putB, putC, putD])
 refine tkD 16 41 (v := ?_) ?_ hHeld ?_
 rotate_left 1
 (intro W hSw; (try dsimp only [TKc] at hSw); go_simp; try with_reducible rfl)
 (try simp only [putA, putB, putC, putD])
 refine tkD 17 42 (v := ?_) ?_ hHeld ?_
 rotate_left 1
 (intro W hSw; (try dsimp only [TKc] at hSw); go_simp; try with_reducible rfl)
 (try simp only [putA, putB, putC, putD])
 refine tkD 18 43 (v := ?_) ?_ hHeld ?_
 rotate_left 1
 (intro W hSw; (try dsimp only [TKc] at hSw); go_simp; try with_reducible rfl)
 (try simp only [putA, putB, putC, putD])
 refine tkD 19 0 (v := ?_) ?_ hHeld ?_
 rotate_left 1
 (intro W hSw; (try dsimp only [TKc] at hSw); go_simp; try with_reducible rfl)
 (try simp only [putA, putB, putC, putD])
 refine wpAnyH_done (by kernel_rfl) ?_ _
 clear hHeld
 go_wp2
 go_ret
 exact ⟨rfl, S8.out.l⟩
end Go.Proofs.YtmdjnamkbekjkaaGreatDoor

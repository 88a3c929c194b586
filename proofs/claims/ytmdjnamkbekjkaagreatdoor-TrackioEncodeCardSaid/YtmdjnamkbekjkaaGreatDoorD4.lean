/- -/
import Derived.Test.YtmdjnamkbekjkaaGreatDoorD3
import Derived.Test.YtmdjnamkbekjkaaGreatDoorD2
import Derived.Test.YtmdjnamkbekjkaaGreatDoorB4
namespace Go.Proofs.YtmdjnamkbekjkaaGreatDoor
open Go.RowKit
set_option linter.unusedVariables false
set_option linter.unusedSimpArgs false
theorem fstI_ne0 {f : Nat → Int} : ∀ {n : Nat}, fstI f n < n → f (fstI f n) ≠ 0 := fun {n} h => (fstI_is (f := f) n).1 h
theorem byt_fm {α : Type} {f : α → List Int} {xs : List α} (h : ∀ x, Byt (f x)) : Byt (xs.flatMap f) := fun u hu => by
 obtain ⟨x, -, hx⟩ := List.mem_flatMap.1 hu
 exact h x u hx
theorem byt_num (n : Int) : Byt (numB (tw64 n) 8) := numB_in 8 (tw64_in n).1 (tw64_in n).2
theorem byt_place (p : Int × Int) : Byt (placeC.wr p) := (byt_num p.1).append (byt_num p.2)
theorem byt_kind (p : Int × Int × Bool) : Byt (kindC.wr p) := (byt_num p.1).append ((byt_num p.2.1).append (flagB_in p.2.2))
theorem byt_gate (p : (Int × Int) × (Int × Int) × Bool) : Byt (gateC.wr p) := (byt_place p.1).append ((byt_place p.2.1).append (flagB_in p.2.2))
theorem byt_list (l : List (Int × Int)) : Byt (wrL l) := (u16B_in _).append (byt_fm byt_place)
theorem byt_mark : Byt (markB chtr 4) := by
 show ∀ x ∈ markB chtr 4, 0 ≤ x ∧ x ≤ 255
 decide
theorem byt_track (d : TD) : Byt (trackCod.wr d) := by
 rw [enc_is]
 unfold enc3 enc2t enc2 enc1 gnd3 gnd2 gnd1 gnd0
 repeat' apply Byt.append
 all_goals (first | exact byt_mark | exact u16B_in _ | exact byt_num _ | exact byt_place _ | exact byt_list _ | exact byt_fm (fun x => byt_num x) | exact byt_fm (fun x => u16B_in x) | exact byt_fm byt_place | exact byt_fm byt_kind | exact byt_fm byt_list | exact byt_fm byt_gate)
theorem dec_ok {l : List Int} (hu : ∀ x ∈ l, 0 ≤ x ∧ x ≤ 255) (h : (decS l).err = 0) : trackCod.ok (decR l).1 ∧ trackCod.wr (decR l).1 = l := trackCod.one hu h
theorem tok_bd {d : TD} (O : TOk d) : TdB d := by
 have h := O.hn
 have k := O.K.1
 have l := O.L.1
 have r := O.R.1
 have t := O.T.1
 refine ⟨by omega, by omega, by omega, by omega, by omega, by omega, fun j hj => ?_⟩
 have := (O.R.2 _ (getD_mem [] hj)).1
 omega
theorem ztd_m (B : Nat) (w : World) : TkM B w (tkA noAd zTD) := by
 have nu : Nums B w ⟨none, 0, 0, fun i => ([] : List Int).getD i 0⟩ := ⟨by unfold maxLen; simp, Nat.le_refl _, fun i h => absurd h (by simp), fun h => absurd h (by simp)⟩
 have z : In64 0 := by unfold In64; omega
 refine ⟨⟨nu, nu, by show 0 ≤ maxLen; omega, Nat.le_refl _, fun i h => absurd h (by show ¬ i < 0; omega), fun h => absurd h (by show ¬ 0 < 0; omega), z, z, z, z, z⟩, ⟨by show 0 ≤ maxLen; omega, Nat.le_refl _, fun i h => absurd h (by show ¬ i < 0; omega), fun h => absurd h (by show ¬ 0 < 0; omega)⟩, by show 0 ≤ maxLen; omega, Nat.le_refl _, fun h => absurd h (by show ¬ 0 < 0; omega), fun i h => absurd h (by show ¬ i < 0; omega), by show 0 ≤ maxLen; omega, Nat.le_refl _, fun i h => absurd h (by show ¬ i < 0; omega), fun h => absurd h (by show ¬ 0 < 0; omega), ⟨z, z⟩, z, z⟩
theorem z_bd : TdB zTD := ⟨by decide, by decide, by decide, by decide, by decide, by decide, fun j hj => absurd hj (by simp [zTD])⟩
theorem dec_bd {l : List Int} (hu : ∀ x ∈ l, 0 ≤ x ∧ x ≤ 255) : TdB (decD l) := by
 unfold decD
 split
 ·exact z_bd
 ·rename_i h
  exact tok_bd (ok_all (dec_ok hu (Classical.byContradiction fun k => h (Or.inl k))).1)
theorem lst_mem {α : Type} {xs : List α} (z : α) {P : α → Prop} (h : ∀ i, i < xs.length → P (xs.getD i z)) : ∀ x ∈ xs, P x := fun x hx => by
 obtain ⟨i, hi, e⟩ := List.getElem_of_mem hx
 have := h i hi
 rw [List.getD_eq_getElem?_getD, List.getElem?_eq_getElem hi] at this
 rw [← e]; exact this
theorem wr_len {d : TD} (O : TOk d) : (trackCod.wr d).length ≤ 100000 := by
 have h := O.hn
 have k := O.K.1
 have l := O.L.1
 have r := O.R.1
 have t := O.T.1
 have g := gnd3_len d
 have a1 := wrL_len d.L
 have a3 := fm_len gateC.wr 33 (fun x => by obtain ⟨p, q, b⟩ := x; rw [wr_gate, List.length_append, List.length_append, place_len, place_len]; exact Nat.le_refl _) d.T
 have a2 : (d.R.flatMap wrL).length ≤ d.R.length * 1026 := by
  have key : ∀ (xs : List (List (Int × Int))), (∀ y ∈ xs, y.length ≤ 64) → (xs.flatMap wrL).length ≤ xs.length * 1026 := fun xs => by
   induction xs with
   | nil => intro _; simp
   | cons y ys ih =>
    intro hy
    have e1 := ih (fun z hz => hy z (List.mem_cons_of_mem _ hz))
    have e2 := wrL_len y
    have e3 := hy y List.mem_cons_self
    rw [List.flatMap_cons, List.length_append, List.length_cons, Nat.add_mul]
    omega
  exact key d.R (fun y hy => (O.R.2 y hy).1)
 rw [enc_is]
 unfold enc3 enc2t enc2 enc1
 simp only [List.length_append, u16_len, numB_length, place_len]
 omega
theorem right_ok {a : TAd} {d : TD} {B : Nat} {w : World} (K : TkM B w (tkA a d)) (hh : 0 ≤ d.head ∧ d.head ≤ 4294967295) (h : (rgtK (tkA a d)).1 = 0) : trackCod.ok d := by
 have hr : (60 ≤ d.rate ∧ d.rate ≤ 1024) ∧ rightFd (tkA a d).t = 0 ∧ lineR (tkA a d).line.n (tkA a d).line.x (tkA a d).line.y = 0 ∧ (waysE (tkA a d)).1 = 0 ∧ 1 ≤ d.laps ∧ d.laps ≤ 100 := by
  unfold rgtK at h
  split at h
  ·exact absurd h (by decide)
  rename_i c1
  have c1 : ¬ (d.rate < 60 ∨ 1024 < d.rate) := c1
  split at h
  ·rename_i c2; exact absurd h c2
  rename_i c2
  split at h
  ·rename_i c3; exact absurd h c3
  rename_i c3
  split at h
  ·exact absurd h (by decide)
  split at h
  ·rename_i c5; exact absurd h c5
  rename_i c5
  split at h
  ·exact absurd h (by decide)
  split at h
  ·exact absurd h (by decide)
  split at h
  ·exact absurd h (by decide)
  rename_i c8
  have c8 : ¬ (d.laps < 1 ∨ 100 < d.laps) := c8
  exact ⟨by omega, Classical.byContradiction c2, Classical.byContradiction c3, Classical.byContradiction c5, by omega⟩
 obtain ⟨h1, h2, h3, h4, h5⟩ := hr
 have hw : d.R.length ≤ 16 ∧ 1 ≤ d.T.length ∧ d.T.length ≤ 16 := by
  unfold waysE at h4
  split at h4
  ·exact absurd h4 (by decide)
  rename_i c1
  have c1 : ¬ 16 < d.R.length := c1
  split at h4
  ·rename_i c2; exact absurd h4 (fstI_ne0 c2)
  split at h4
  ·exact absurd h4 (by decide)
  rename_i c3
  have c3 : ¬ (d.T.length < 1 ∨ 16 < d.T.length) := c3
  omega
 obtain ⟨hrl, -, -⟩ := ways_zero h4
 obtain ⟨l1, l2, -⟩ := lineR_ok h3
 have l1 : 3 ≤ d.L.length := l1
 have l2 : d.L.length ≤ 64 := l2
 have hf : cntP (tkA a d).t ∧ allP (tkA a d).t := by
  unfold rightFd at h2
  split at h2
  ·rename_i c
   split at h2
   ·rename_i b; exact ⟨c, b⟩
   ·exact absurd h2 (by decide)
  ·exact absurd h2 (by decide)
 obtain ⟨⟨⟨⟨a1, a2⟩, a3, a4⟩, a5, a6, a7, a8⟩, -, b2, -⟩ := hf
 have a1 : 1 ≤ d.cols := a1
 have a2 : d.cols ≤ 64 := a2
 have a3 : 1 ≤ d.rows := a3
 have a4 : d.rows ≤ 64 := a4
 have a5 : (d.H.length : Int) = (d.cols + 1) * (d.rows + 1) := a5
 have a6 : (d.G.length : Int) = d.cols * d.rows := a6
 have a7 : 1 ≤ d.K.length := a7
 have a8 : d.K.length ≤ 8 := a8
 have n := K.T.n
 have pl : ∀ {l : List (Int × Int)} {c : Option Addr × Nat}, DsM B w (dsOf c l) → ∀ x ∈ l, placeC.ok x := fun {l c} D => lst_mem (0, 0) (fun i hi => D.wf i hi)
 refine ⟨trivial, ⟨h1, show 0 ≤ d.rate ∧ d.rate ≤ 65535 by omega⟩, n.1, ⟨⟨a1, a2⟩, show 0 ≤ d.cols ∧ d.cols ≤ 65535 by omega⟩, ⟨⟨a3, a4⟩, show 0 ≤ d.rows ∧ d.rows ≤ 65535 by omega⟩, ⟨n.2.2.2.1, n.2.2.2.2⟩, ⟨?_, ?_⟩, ⟨?_, ?_⟩, ⟨⟨?_, ?_⟩, ?_, ?_⟩, ⟨⟨?_, ?_⟩, ?_, pl K.L⟩, ⟨⟨?_, ?_⟩, ?_, ?_⟩, ⟨⟨?_, ?_⟩, ?_, ?_⟩, ⟨K.n.2.1, K.n.2.2⟩, hh, ⟨h5, show 0 ≤ d.laps ∧ d.laps ≤ 65535 by omega⟩⟩
 ·show d.H.length = ((d.cols + 1) * (d.rows + 1)).toNat
  omega
 ·exact lst_mem 0 (fun i hi => bounds_i64 (K.T.H.wf i hi))
 ·show d.G.length = (d.cols * d.rows).toNat
  omega
 ·refine lst_mem 0 (fun i hi => ?_)
  obtain ⟨g1, g2⟩ := b2 i hi
  have g1 : 0 ≤ d.G.getD i 0 := g1
  have g2 : d.G.getD i 0 < d.K.length := g2
  exact ⟨show 0 ≤ d.G.getD i 0 ∧ d.G.getD i 0 ≤ 7 by omega, show 0 ≤ d.G.getD i 0 ∧ d.G.getD i 0 ≤ 65535 by omega⟩
 ·show (1 : Int) ≤ (d.K.length : Int) ∧ (d.K.length : Int) ≤ 8
  omega
 ·show (0 : Int) ≤ (d.K.length : Int) ∧ (d.K.length : Int) ≤ 65535
  omega
 ·show d.K.length = ((d.K.length : Int)).toNat
  omega
 ·exact lst_mem (0, 0, false) (fun i hi => ⟨(K.T.kw i hi).1, (K.T.kw i hi).2, trivial⟩)
 ·show (3 : Int) ≤ (d.L.length : Int) ∧ (d.L.length : Int) ≤ 64
  omega
 ·show (0 : Int) ≤ (d.L.length : Int) ∧ (d.L.length : Int) ≤ 65535
  omega
 ·show d.L.length = ((d.L.length : Int)).toNat
  omega
 ·show (0 : Int) ≤ (d.R.length : Int) ∧ (d.R.length : Int) ≤ 16
  omega
 ·show (0 : Int) ≤ (d.R.length : Int) ∧ (d.R.length : Int) ≤ 65535
  omega
 ·show d.R.length = ((d.R.length : Int)).toNat
  omega
 ·refine lst_mem [] (fun i hi => ?_)
  have hz := hrl i hi
  have ln : ¬ ((d.R.getD i []).length < 2 ∨ 64 < (d.R.getD i []).length) := fun k => by
   unfold railE at hz
   rw [if_pos (show (((tkA a d).R i).n < 2 ∨ 64 < ((tkA a d).R i).n) from k)] at hz
   exact absurd hz (by decide)
  refine ⟨⟨?_, ?_⟩, ?_, pl (K.Rs i hi)⟩
  ·show (2 : Int) ≤ ((d.R.getD i []).length : Int) ∧ ((d.R.getD i []).length : Int) ≤ 64
   omega
  ·show (0 : Int) ≤ ((d.R.getD i []).length : Int) ∧ ((d.R.getD i []).length : Int) ≤ 65535
   omega
  ·show (d.R.getD i []).length = (((d.R.getD i []).length : Int)).toNat
   omega
 ·show (1 : Int) ≤ (d.T.length : Int) ∧ (d.T.length : Int) ≤ 16
  omega
 ·show (0 : Int) ≤ (d.T.length : Int) ∧ (d.T.length : Int) ≤ 65535
  omega
 ·show d.T.length = ((d.T.length : Int)).toNat
  omega
 ·exact lst_mem ((0, 0), (0, 0), false) (fun i hi => ⟨(K.gw i hi).1, (K.gw i hi).2, trivial⟩)
theorem dec_back {d : TD} (h : trackCod.ok d) (hr : (rgtK (tkA noAd d)).1 = 0) : decD (trackCod.wr d) = d ∧ decE (trackCod.wr d) = 0 ∧ decA (trackCod.wr d) = 0 := by
 obtain ⟨e1, e2, e3⟩ := trackCod.back h
 have s0 : (decS (trackCod.wr d)).err = 0 := e2
 have r0 : (decR (trackCod.wr d)).1 = d := e1
 have g0 : decG (trackCod.wr d) = 0 := by unfold decG; rw [r0]; exact hr
 refine ⟨?_, ?_, ?_⟩
 ·unfold decD; rw [if_neg (by rw [s0, g0]; simp), r0]
 ·unfold decE; rw [if_neg (by rw [s0]; simp), g0]
 ·unfold decA; rw [if_neg (by rw [s0]; simp), if_neg (by rw [g0]; simp)]
def smpD : TD := tdOf (smpK smpA0)
theorem smp_can {B : Nat} {w : World} {s : SmpA} (h : TkM B w (smpK s)) : ∃ a, trkV (smpK s).t = trkV (tkA a smpD).t ∧ TkM B w (tkA a smpD) :=
 ⟨adOf (smpK s), (tk_val _).symm, tk_can h⟩
theorem smpD_few (a : TAd) : fewK (tkA a smpD) := by
 have h : fewK (tkA noAd smpD) := by decide +kernel
 exact h
theorem smpD_far (j : Nat) (hj : j < 8) : ¬ behP (tkA noAd smpD) j := by
 match j, hj with
 | 0, h => exact smp_far 0 h
 | 1, h => exact smp_far 1 h
 | 2, h => exact smp_far 2 h
 | 3, h => exact smp_far 3 h
 | 4, h => exact smp_far 4 h
 | 5, h => exact smp_far 5 h
 | 6, h => exact smp_far 6 h
 | 7, h => exact smp_far 7 h
set_option maxRecDepth 100000 in
theorem smpD_right (a : TAd) : rgtK (tkA a smpD) = (0, 0) := by
 have h : rgtB (tkA noAd smpD) true = (0, 0) := by decide +kernel
 have f : ∀ j, j < barN (tkA noAd smpD) (tkA noAd smpD).t.rn → ¬ behP (tkA noAd smpD) j := fun j hj => smpD_far j hj
 rw [rgt_ad, rgt_b _ f]
 exact h
theorem smpD_ok {a : TAd} {B : Nat} {w : World} (K : TkM B w (tkA a smpD)) : trackCod.ok smpD := right_ok K (by decide) (by rw [smpD_right])
theorem smpD_dec {a : TAd} {B : Nat} {w : World} (K : TkM B w (tkA a smpD)) : decD (trackCod.wr smpD) = smpD ∧ decE (trackCod.wr smpD) = 0 ∧ decA (trackCod.wr smpD) = 0 := dec_back (smpD_ok K) (by rw [smpD_right])
theorem nil_dec : decD [] = zTD ∧ decE [] = 20 ∧ decA [] = 0 := by
 have s0 : (decS []).err = 20 ∧ (decS []).place = 0 := by decide +kernel
 refine ⟨?_, ?_, ?_⟩
 ·unfold decD; rw [if_pos (Or.inl (by rw [s0.1]; decide))]
 ·unfold decE; rw [if_pos (by rw [s0.1]; decide), s0.1]
 ·unfold decA; rw [if_pos (by rw [s0.1]; decide), s0.2]
def Wi (n : Nat) (s : IS) : Prop := (s.pos ≤ n ∧ s.last ≤ n) ∧ 0 ≤ s.place ∧ s.place ≤ n
def WiC {α : Type} (rd : List Int → IS → α × IS) : Prop := ∀ l s, Wi l.length s → Wi l.length (rd l s).2
theorem wi_fail {n : Nat} {s : IS} {e p : Int} (h : Wi n s) (h0 : 0 ≤ p) (h1 : p ≤ n) : Wi n (failS e p s) := by
 unfold failS
 split
 ·exact ⟨h.1, h0, h1⟩
 ·exact h
theorem wi_word {n m : Nat} {s : IS} (h : Wi n s) : Wi n (wordS n m s) := by
 unfold wordS
 split
 ·split
  ·rename_i k; exact ⟨⟨k, h.1.1⟩, h.2⟩
  ·exact wi_fail h (by omega) (by omega)
 ·exact h
theorem wi_num : WiC numC.rd := fun l s h => wi_word (s := s) h
theorem wi_cnt (lo hi : Int) : WiC (cntC lo hi).rd := fun l s h => by
 have p := h.1.1
 show Wi l.length (cntS lo hi l s)
 unfold cntS
 split
 ·split
  ·exact wi_fail (wi_word h) (by omega) (by omega)
  ·exact wi_word h
 ·exact wi_word h
theorem wi_flag : WiC flagC.rd := fun l s h => by
 have p := h.1.1
 show Wi l.length (flagS l s)
 unfold flagS
 split
 ·split
  ·exact wi_fail (wi_word h) (by omega) (by omega)
  ·exact wi_word h
 ·exact wi_word h
theorem wi_mark (t : ByteArray) : WiC (markC t).rd := fun l s h => by
 have p := h.1.1
 show Wi l.length (mkS t l s)
 unfold mkS
 split
 ·split
  ·exact wi_word h
  ·exact wi_fail (wi_word h) (by omega) (by omega)
 ·exact wi_word h
theorem wi_head : WiC headC.rd := fun l s h => by
 have k := wi_word (m := 8) h
 show Wi l.length (headS l s)
 unfold headS
 split
 ·exact wi_fail k (by omega) (by have := k.1.2; omega)
 ·exact k
theorem wi_bind {α β : Type} {c : Cod α} {d : α → Cod β} (h : WiC c.rd) (k : ∀ x, WiC (d x).rd) : WiC (c.bind d).rd := fun l s w => k _ l _ (h l s w)
theorem wi_rep {α : Type} {c : Cod α} (h : WiC c.rd) (n : Nat) : WiC (repC n c).rd := fun l => by
 show ∀ s, Wi l.length s → Wi l.length (repR (c.rd l) n s).2
 induction n with
 | zero => exact fun s w => w
 | succ n ih =>
  intro s w
  unfold repR
  split
  ·exact ih _ (h l s w)
  ·exact w
theorem wi_lst {α : Type} {c : Cod α} (lo hi : Int) (h : WiC c.rd) : WiC (lstC lo hi c).rd := fun l s w => wi_bind (wi_cnt lo hi) (fun n => wi_rep h n.toNat) l s w
theorem wi_place : WiC placeC.rd := wi_bind wi_num (fun _ => wi_num)
theorem wi_kind : WiC kindC.rd := wi_bind wi_num (fun _ => wi_bind wi_num (fun _ => wi_flag))
theorem wi_gate : WiC gateC.rd := wi_bind wi_place (fun _ => wi_bind wi_place (fun _ => wi_flag))
theorem wi_track0 : WiC trackC0.rd := by
 unfold trackC0
 refine wi_bind (wi_mark chtr) (fun _ => ?_)
 refine wi_bind (wi_cnt 60 1024) (fun _ => ?_)
 refine wi_bind (wi_num) (fun _ => ?_)
 refine wi_bind (wi_cnt 1 64) (fun _ => ?_)
 refine wi_bind (wi_cnt 1 64) (fun _ => ?_)
 refine wi_bind (wi_place) (fun _ => ?_)
 refine wi_bind (wi_rep wi_num _) (fun _ => ?_)
 refine wi_bind (wi_rep (wi_cnt 0 7) _) (fun _ => ?_)
 refine wi_bind (wi_lst 1 8 wi_kind) (fun _ => ?_)
 refine wi_bind (wi_lst 3 64 wi_place) (fun _ => ?_)
 refine wi_bind (wi_lst 0 16 (wi_lst 2 64 wi_place)) (fun _ => ?_)
 refine wi_bind (wi_lst 1 16 wi_gate) (fun _ => ?_)
 refine wi_bind (wi_place) (fun _ => ?_)
 refine wi_bind (wi_head) (fun _ => ?_)
 exact wi_cnt 1 100
theorem wi_track : WiC trackCod.rd := fun l s w => wi_track0 l s w
theorem dec_place (l : List Int) : 0 ≤ decA l ∧ decA l ≤ l.length := by
 have w : Wi l.length (decS l) := by
  have w0 := wi_track l s0I ⟨⟨Nat.zero_le _, Nat.zero_le _⟩, Int.le_refl _, by show (0 : Int) ≤ _; omega⟩
  unfold decS endS
  split
  ·exact wi_fail w0 (by omega) (by rename_i k; omega)
  ·exact w0
 unfold decA
 split
 ·exact w.2
 ·split <;> omega
end Go.Proofs.YtmdjnamkbekjkaaGreatDoor

/- -/
import Derived.Test.YtmdjnamkbekjkaaGreatDoorB9
import Derived.Test.YtmdjnamkbekjkaaGreatDoorCg
namespace Go.Proofs.YtmdjnamkbekjkaaGreatDoor
open Go.RowKit
set_option linter.unusedVariables false
set_option linter.unusedSimpArgs false
def wrL (l : List (Int × Int)) : List Int := u16B l.length ++ l.flatMap placeC.wr
def wrR (d : TD) (j : Nat) : List Int := (d.R.take j).flatMap wrL
def wrT (d : TD) (j : Nat) : List Int := (d.T.take j).flatMap gateC.wr
def enc1 (d : TD) : List Int := (gnd3 d ++ wrL d.L) ++ u16B d.R.length
def enc2 (d : TD) : List Int := enc1 d ++ d.R.flatMap wrL ++ u16B d.T.length
def enc2t (d : TD) : List Int := enc2 d ++ d.T.flatMap gateC.wr
def enc3 (d : TD) : List Int := (enc2t d ++ placeC.wr d.s) ++ numB (tw64 d.head) 8
theorem enc_is (d : TD) : trackCod.wr d = enc3 d ++ u16B d.laps := by
 have e : trackCod.wr d = markB chtr 4 ++ (u16B d.rate ++ (numB (tw64 d.cell) 8 ++ (u16B d.cols ++ (u16B d.rows ++ (placeC.wr d.at_ ++ (d.H.flatMap numC.wr ++ (d.G.flatMap u16B ++ ((u16B d.K.length ++ d.K.flatMap kindC.wr) ++ (wrL d.L ++ ((u16B d.R.length ++ d.R.flatMap wrL) ++ ((u16B d.T.length ++ d.T.flatMap gateC.wr) ++ (placeC.wr d.s ++ (numB (tw64 d.head) 8 ++ u16B d.laps))))))))))))) := rfl
 rw [e]
 unfold enc3 enc2t enc2 enc1 gnd3 gnd2 gnd1 gnd0
 simp only [List.append_assoc]
theorem wr_gate (p q : Int × Int) (b : Bool) : gateC.wr (p, q, b) = placeC.wr p ++ (placeC.wr q ++ flagB b) := rfl
theorem wrL_len (l : List (Int × Int)) : (wrL l).length ≤ 2 + l.length * 16 := by
 unfold wrL
 rw [List.length_append, u16_len]
 have := fm_len placeC.wr 16 (fun p => by rw [place_len]; exact Nat.le_refl _) l
 omega
theorem gnd3_len (d : TD) : (gnd3 d).length ≤ 36 + d.H.length * 8 + d.G.length * 2 + d.K.length * 17 := by
 have a1 := fm_len numC.wr 8 (fun n => by show (numB (tw64 n) 8).length ≤ 8; rw [numB_length]; exact Nat.le_refl _) d.H
 have a2 := fm_len u16B 2 (fun n => Nat.le_refl _) d.G
 have a3 := fm_len kindC.wr 17 (fun x => by obtain ⟨p, q, b⟩ := x; rw [wr_kind, List.length_append, List.length_append, numB_length, numB_length]; exact Nat.le_refl _) d.K
 unfold gnd3 gnd2 gnd1 gnd0
 simp only [List.length_append, markB_length, u16_len, numB_length, place_len]
 omega
theorem PK.kc {w W : World} {B m : Nat} {k : Tk} (Q : PK w W B m k) : TKc m k.t W := tk_of Q.c
end Go.Proofs.YtmdjnamkbekjkaaGreatDoor

/- The chapter's examples hold: the contract of awake. -/
import Derived.Test.YtmdcfnifbkpedaaWh
namespace Go.Proofs.Ytmdcfnifbkpedaa
open Go.RowKit

set_option maxHeartbeats 2000000 in
theorem awake_any (w : World) :
    Calls Try.prog 13 #[] w fun e w' => e = .returned (.bool true) ∧ Below w.heap.size w w' := by
  have v1 : divI 5 2 = 2 := by decide
  have v2 : divB 5 2 = true := by decide
  have v3 : divI 7 2 = 4 := by decide
  have v4 : divB 7 2 = true := by decide
  have v5 : hiW (-1 * 5) = -1 := by decide
  have v6 : loW (-1 * 5) = 18446744073709551611 := by decide
  have v7 : partI 1 3 = 1431655765 := by decide
  go_enter Try.func13, Try.ntmps13
  go_wp2_with fail
  refine (Of_any 5 _ (by omega) (by omega)).mono ?_
  rintro e w1 ⟨rfl, hb1⟩
  obtain ⟨hc_w1, hf_w1⟩ := bcell hb1
  have z_w1 := hb1.size
  try simp at z_w1
  have y_w1 : w.heap.size ≤ w1.heap.size := by omega
  go_wp2_with fail
  refine (Div_any _ _ 5 2 _ (isW_64 (by omega) (by omega)) (by omega) (by omega)).mono ?_
  rintro e w2 ⟨rfl, hb2⟩
  obtain ⟨hc_w2, hf_w2⟩ := bcell hb2
  have z_w2 := hb2.size
  try simp at z_w2
  have y_w2 : w.heap.size ≤ w2.heap.size := by omega
  go_wp2_with fail
  refine (Of_any 7 _ (by omega) (by omega)).mono ?_
  rintro e w3 ⟨rfl, hb3⟩
  obtain ⟨hc_w3, hf_w3⟩ := bcell hb3
  have z_w3 := hb3.size
  try simp at z_w3
  have y_w3 : w.heap.size ≤ w3.heap.size := by omega
  go_wp2_with fail
  refine (Div_any _ _ 7 2 _ (isW_64 (by omega) (by omega)) (by omega) (by omega)).mono ?_
  rintro e w4 ⟨rfl, hb4⟩
  obtain ⟨hc_w4, hf_w4⟩ := bcell hb4
  have z_w4 := hb4.size
  try simp at z_w4
  have y_w4 : w.heap.size ≤ w4.heap.size := by omega
  go_wp2_with fail
  refine (Mul_any (-1) 5 _ (by omega) (by omega) (by omega) (by omega)).mono ?_
  rintro e w5 ⟨rfl, hb5⟩
  obtain ⟨hc_w5, hf_w5⟩ := bcell hb5
  have z_w5 := hb5.size
  try simp at z_w5
  have y_w5 : w.heap.size ≤ w5.heap.size := by omega
  go_wp2_with fail
  refine (Of_any 1 _ (by omega) (by omega)).mono ?_
  rintro e w6 ⟨rfl, hb6⟩
  obtain ⟨hc_w6, hf_w6⟩ := bcell hb6
  have z_w6 := hb6.size
  try simp at z_w6
  have y_w6 : w.heap.size ≤ w6.heap.size := by omega
  go_wp2_with fail
  refine (Of_any 3 _ (by omega) (by omega)).mono ?_
  rintro e w7 ⟨rfl, hb7⟩
  obtain ⟨hc_w7, hf_w7⟩ := bcell hb7
  have z_w7 := hb7.size
  try simp at z_w7
  have y_w7 : w.heap.size ≤ w7.heap.size := by omega
  go_wp2_with fail
  refine (Part_any _ _ _ _ 1 3 _ (isW_64 (by omega) (by omega)) (isW_64 (by omega) (by omega))).mono ?_
  rintro e w8 ⟨rfl, hb8⟩
  obtain ⟨hc_w8, hf_w8⟩ := bcell hb8
  have z_w8 := hb8.size
  try simp at z_w8
  have y_w8 : w.heap.size ≤ w8.heap.size := by omega
  go_wp2
  go_ret
  exact ⟨rfl, by repeat (first | exact Below.refl _ _ | assumption | refine Below.setCell ?_ (by first | omega | (simp; done) | (simp; omega)) _ | refine Below.alloc ?_ (by first | omega | (simp; done) | (simp; omega)) _ | refine below_drewN ?_ _ | refine Below.drew ?_ | refine Below.trans ?_ (Below.mono (by assumption) (by first | omega | (simp; done) | (simp; omega))))⟩
end Go.Proofs.Ytmdcfnifbkpedaa

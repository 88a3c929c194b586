/- Contracts of package root: Sqrt, squares. -/
import Derived.Test.YtinahmhiopgcnaaGreatBn
import Derived.Test.YtinahmhiopgcnaaGreatBv
import Derived.Test.YtinahmhiopgcnaaGreatBk
import Derived.Test.YtinahmhiopgcnaaGreatBx
import Derived.Deep.RegionWith
import Derived.Deep.DeepCutAuto
namespace Go.Proofs.YtinahmhiopgcnaaGreat
open Go.RowKit

theorem CellW.drew {w : World} {n : Nat} {h l : Int} (k : CellW w n h l) : CellW w.drew n h l := ⟨k.c0, k.c1, k.f0, k.f1⟩
theorem CellW.newR {w : World} {n : Nat} (h l : Int) (t : TypeId) (e : n = w.heap.size) : CellW (w.alloc (.cells #[.int .i64 h, .int .u64 l] t)) n h l := by
  subst e; exact CellW.new w h l t
/-- a statement has made a wide number in a block of its own -/
def MadeW (W0 : World) (T : Int) (f : Bool) (s t : Value) (W : World) : Prop := ∃ g : Nat, s = .pointer (some ⟨g, 0, none⟩) ∧ t = .bool f ∧ CellW W g (hiW T) (loW T) ∧ W0.heap.size ≤ g ∧ g < W.heap.size ∧ Below W0.heap.size W0 W

set_option maxRecDepth 100000 in
set_option maxHeartbeats 4000000 in
theorem squares_any (a : Option Addr) (len cap : Nat) (zs : List Int) (w : World) (I : Ints w .i64 a len cap zs) :
    Calls Tryz.prog 102 #[.slice a len cap] w fun e w' => e = .returned (.tuple #[.agg #[.int .i64 (hiW (clipW (sqs zs))), .int .u64 (loW (clipW (sqs zs)))], .bool (fitW (sqs zs))]) ∧ Below w.heap.size w w' := by
  have hm := I.hm
  have hl := I.hl
  unfold maxLen at hm
  have HI := Lib.hid I
  have CR : CellW (w.alloc (.cells #[.int .i64 0, .int .u64 0] 129)) w.heap.size 0 0 := CellW.new w _ _ _
  have HCR := Lib.hid CR
  clear I CR
  go_enter Tryz.func102, Tryz.ntmps102
  go_wp2
  go_loopw [12] (fun i wr => ∃ k : Nat, k ≤ len ∧ i = .int .i64 k ∧ In128 (sqs (zs.take k)) ∧ CellW wr (w.heap.size + 1) (hiW (sqs (zs.take k))) (loW (sqs (zs.take k))) ∧ CellW wr w.heap.size 0 0 ∧ w.heap.size + 1 < wr.heap.size ∧ Below w.heap.size w wr) (fun i _ => len - (intOf i).toNat)
  case atStart =>
    have e0 : hiW (sqs (zs.take 0)) = 0 := by simp [sqs, hiW]
    have e1 : loW (sqs (zs.take 0)) = 0 := by simp [sqs, loW]
    exact ⟨0, by omega, rfl, by unfold In128; simp [sqs], by rw [e0, e1]; exact CellW.newR 0 0 _ (by simp), HCR.out.alloc (by simp) _, by simp, by repeat (first | exact Below.refl _ _ | assumption | refine Below.setCell ?_ (by first | omega | (simp; done) | (simp; omega)) _ | refine Below.alloc ?_ (by first | omega | (simp; done) | (simp; omega)) _ | refine below_drewN ?_ _ | refine Below.drew ?_ | refine Below.trans ?_ (Below.mono (by assumption) (by first | omega | (simp; done) | (simp; omega))))⟩
  case round =>
    obtain ⟨k, hk, rfl, hS, CS, CR, zr, B⟩ := hrel
    have HB := Lib.hid B
    obtain ⟨S, eS⟩ : ∃ S, sqs (zs.take k) = S := ⟨_, rfl⟩
    rw [eS] at hS CS
    have ES := Lib.hid eS
    have c0 := CS.c0
    have c1 := CS.c1
    have f0 := CS.f0
    have f1 := CS.f1
    have r0 := CR.c0
    have r1 := CR.c1
    have g0 := CR.f0
    have g1 := CR.f1
    have HCS := Lib.hid CS
    have HR := Lib.hid CR
    have HS := Lib.hid hS
    clear B CS CR hS eS
    by_cases hlt : k < len
    · obtain ⟨b, off, rfl, hb, hcell⟩ := HI.out.at' (by omega)
      obtain ⟨x, hx⟩ : ∃ x, zs.getD k 0 = x := ⟨_, rfl⟩
      have xb := HI.out.get hlt
      rw [hx] at xb
      have x0 := (bounds_i64 xb).1
      have x1 := (bounds_i64 xb).2
      have xc : wr.cell? ⟨b, off + k, none⟩ = some (.int .i64 x) := by rw [HB.out.cell (p := ⟨b, off + k, none⟩) hb, hcell k hlt, hx]
      obtain ⟨T, hT⟩ : ∃ T, clipW (S + x * x) = T := ⟨_, rfl⟩
      obtain ⟨f, hf⟩ : ∃ f, fitW (S + x * x) = f := ⟨_, rfl⟩
      have HT := Lib.hid (And.intro hT hf)
      have HX := Lib.hid hx
      clear hT hf hcell xb hx
      go_wp2_with fail
      have zrd : w.heap.size + 1 < wr.drew.heap.size := zr
      have zra : ∀ o, w.heap.size + 1 < (wr.alloc o).drew.heap.size := fun o => by show w.heap.size + 1 < (wr.alloc o).heap.size; simp; omega
      have zrb : ∀ o, wr.heap.size < (wr.alloc o).drew.heap.size := fun o => by show wr.heap.size < (wr.alloc o).heap.size; simp
      go_cut [7, 8] (fun s t W => MadeW wr T f s t W)
      case first =>
        go_region_with (first
          | (go_at_call 85; refine (Mul_any x x _ x0 x1 x0 x1).mono ?_; rintro e w5 ⟨rfl, hb5⟩; have z5 : wr.heap.size ≤ w5.heap.size := (by have := hb5.size; (try simp at this); omega); (try (have z5b : wr.heap.size < w5.heap.size := (by have := hb5.size; (try simp at this); omega))); have z5c : w.heap.size + 1 < w5.heap.size := (by omega); have C5 : CellW w5 (w.heap.size + 1) (hiW S) (loW S) := (by first | with_reducible exact HCS.out.drew.below hb5 zrd | with_reducible exact (HCS.out.alloc zr _).drew.below hb5 (zra _)); have d5 := C5.c0; have e5 := C5.c1; clear C5; (try (have A5 : CellW w5 wr.heap.size 0 0 := (by with_reducible exact (CellW.newR 0 0 _ rfl).drew.below hb5 (zrb _)); have a50 := A5.c0; have a51 := A5.c1; have a52 := A5.f0; have a53 := A5.f1; clear A5)))
          | (go_at_call 81; refine (Add_any _ _ _ _ S (x * x) _ (isW_of HS.out) (isW_of (mul_128 x0 x1 x0 x1))).mono ?_; rw [HT.out.1, HT.out.2]; rintro e w6 ⟨rfl, hb6⟩; have z6 : wr.heap.size ≤ w6.heap.size := (by have := hb6.size; (try simp at this); omega); (try (have z6b : wr.heap.size < w6.heap.size := (by have := hb6.size; (try simp at this); omega))); (try (have z6c : w5.heap.size < w6.heap.size := (by have := hb6.size; (try simp at this); omega))); obtain ⟨hc_w6, hf_w6⟩ := bcell hb6))
        all_goals
          go_wp2_with fail
          go_meet
          first
            | exact ⟨w6.heap.size, rfl, rfl, CellW.new _ _ _ _, by omega, by simp, by repeat (first | with_reducible refine Below.setCell ?_ (by first | omega | (simp; done) | (simp; omega)) _ | with_reducible refine Below.alloc ?_ (by first | omega | (simp; done) | (simp; omega)) _ | with_reducible refine below_drewN ?_ _ | with_reducible refine Below.drew ?_ | with_reducible exact Below.refl _ _ | with_reducible assumption | with_reducible refine Below.trans ?_ (Below.mono (by assumption) (by first | omega | (simp; done) | (simp; omega))))⟩
            | exact ⟨w5.heap.size, rfl, rfl, ((CellW.new w5 0 0 _).below hb6 (by simp)).set _ _, by omega, by simp [World.setCell]; omega, by repeat (first | with_reducible refine Below.setCell ?_ (by first | omega | (simp; done) | (simp; omega)) _ | with_reducible refine Below.alloc ?_ (by first | omega | (simp; done) | (simp; omega)) _ | with_reducible refine below_drewN ?_ _ | with_reducible refine Below.drew ?_ | with_reducible exact Below.refl _ _ | with_reducible assumption | with_reducible refine Below.trans ?_ (Below.mono (by assumption) (by first | omega | (simp; done) | (simp; omega))))⟩
            | exact ⟨wr.heap.size, rfl, rfl, (((CellW.newR 0 0 _ (w := wr) rfl).drew.below hb5 (zrb _)).below hb6 (by omega)).set _ _, by omega, by simp [World.setCell]; omega, by repeat (first | with_reducible refine Below.setCell ?_ (by first | omega | (simp; done) | (simp; omega)) _ | with_reducible refine Below.alloc ?_ (by first | omega | (simp; done) | (simp; omega)) _ | with_reducible refine below_drewN ?_ _ | with_reducible refine Below.drew ?_ | with_reducible exact Below.refl _ _ | with_reducible assumption | with_reducible refine Below.trans ?_ (Below.mono (by assumption) (by first | omega | (simp; done) | (simp; omega))))⟩
      case rest =>
        obtain ⟨g, rfl, rfl, C, zg, yg, BW⟩ := hcut
        have CS := HCS.out.below BW zr
        have CR := HR.out.below BW (by omega)
        have HB2 := Lib.hid (HB.out.trans (BW.mono (by omega)))
        have y2 : wr.heap.size ≤ wc.heap.size := BW.size
        have SQ := Lib.hid (sqs_take (l := zs) (k := k) (by rw [HI.out.hz]; exact hlt))
        rw [HX.out, ES.out] at SQ
        have c0 := C.c0
        have c1 := C.c1
        have s0 := CS.c0
        have s1 := CS.c1
        have s2 := CS.f0
        have s3 := CS.f1
        have r0 := CR.c0
        have r1 := CR.c1
        have r2 := CR.f0
        have r3 := CR.f1
        have HCS2 := Lib.hid CS
        have HCR2 := Lib.hid CR
        clear C CS CR BW HCS HR HB
        cases f with
        | true =>
          have FT := Lib.hid (show In128 (S + x * x) ∧ T = S + x * x by have h := HT.out.2; unfold fitW at h; rw [decide_eq_true_iff] at h; exact ⟨h, by rw [← HT.out.1]; unfold clipW; rw [if_pos h]⟩)
          go_wp2
          go_roundw
          case rel => exact ⟨k + 1, by omega, by go_num, by rw [SQ.out]; exact FT.out.1, by rw [SQ.out, ← FT.out.2]; exact HCS2.out.set _ _, (HCR2.out.far (by omega) _ _).far (by omega) _ _, by simp [World.setCell]; omega, by have := HB2.out; repeat (first | exact Below.refl _ _ | assumption | refine Below.setCell ?_ (by first | omega | (simp; done) | (simp; omega)) _ | refine Below.alloc ?_ (by first | omega | (simp; done) | (simp; omega)) _ | refine below_drewN ?_ _ | refine Below.drew ?_ | refine Below.trans ?_ (Below.mono (by assumption) (by first | omega | (simp; done) | (simp; omega))))⟩
          case measure => simp [intOf]; omega
        | false =>
          have FF := Lib.hid (show clipW (sqs zs) = 0 ∧ fitW (sqs zs) = false by
            have h := HT.out.2
            unfold fitW at h; rw [decide_eq_false_iff_not] at h
            have h1 := sqs_le zs (k + 1)
            rw [SQ.out] at h1
            have h2 := HS.out
            have h3 := sq_nn x
            have h4 : ¬ In128 (sqs zs) := by unfold In128 at *; omega
            exact ⟨by unfold clipW; rw [if_neg h4], by unfold fitW; rw [decide_eq_false_iff_not]; exact h4⟩)
          go_wp2
          exact bodyPost_ret (v := .tuple #[.agg #[.int .i64 0, .int .u64 0], .bool false]) (by simp [results, Tryz.results102, go_sem, r0, r1]) rfl ⟨by rw [FF.out.1, FF.out.2]; rfl, by have := HB2.out; repeat (first | exact Below.refl _ _ | assumption | refine Below.setCell ?_ (by first | omega | (simp; done) | (simp; omega)) _ | refine Below.alloc ?_ (by first | omega | (simp; done) | (simp; omega)) _ | refine below_drewN ?_ _ | refine Below.drew ?_ | refine Below.trans ?_ (Below.mono (by assumption) (by first | omega | (simp; done) | (simp; omega))))⟩
    · have EK := Lib.hid (show S = sqs zs by rw [← ES.out, List.take_of_length_le (by rw [HI.out.hz]; omega)])
      go_wp2
      have h := HS.out
      exact bodyPost_ret (v := .tuple #[.agg #[.int .i64 (hiW S), .int .u64 (loW S)], .bool true]) (by simp [results, Tryz.results102, go_sem, r0, r1]) rfl ⟨by rw [← EK.out]; unfold clipW fitW; rw [if_pos h, decide_eq_true h], by have := HB.out; repeat (first | exact Below.refl _ _ | assumption | refine Below.setCell ?_ (by first | omega | (simp; done) | (simp; omega)) _ | refine Below.alloc ?_ (by first | omega | (simp; done) | (simp; omega)) _ | refine below_drewN ?_ _ | refine Below.drew ?_ | refine Below.trans ?_ (Below.mono (by assumption) (by first | omega | (simp; done) | (simp; omega))))⟩
end Go.Proofs.YtinahmhiopgcnaaGreat
namespace Go.Proofs.YtinahmhiopgcnaaGreat
open Go.RowKit

theorem wf64 {x : Int} (x0 : -9223372036854775808 ≤ x) (x1 : x ≤ 9223372036854775807) : (Lit.int .i64 x).wf = true := by
  have h0 : IntKind.i64.min = -9223372036854775808 := by decide
  have h1 : IntKind.i64.max = 9223372036854775807 := by decide
  simp [Lit.wf, h0, h1]; omega
theorem ints_new2 {x y : Int} (w : World) (t : TypeId) (x0 : -9223372036854775808 ≤ x) (x1 : x ≤ 9223372036854775807) (y0 : -9223372036854775808 ≤ y) (y1 : y ≤ 9223372036854775807) :
    Ints (w.alloc (.cells #[.int .i64 x, .int .i64 y] t)) .i64 (some ⟨w.heap.size, 0, none⟩) 2 2 [x, y] :=
  ⟨by unfold maxLen; omega, by omega, rfl, fun n hn => by simp at hn; rcases hn with rfl | rfl <;> exact wf64 (by omega) (by omega), fun _ => ⟨_, 0, rfl, by simp, fun i hi => by
    rw [Nat.zero_add]
    match i, hi with
    | 0, _ => exact World.cell?_alloc_new w _ t 0
    | 1, _ => exact World.cell?_alloc_new w _ t 1⟩⟩
theorem ints_new3 {x y z : Int} (w : World) (t : TypeId) (x0 : -9223372036854775808 ≤ x) (x1 : x ≤ 9223372036854775807) (y0 : -9223372036854775808 ≤ y) (y1 : y ≤ 9223372036854775807) (z0 : -9223372036854775808 ≤ z) (z1 : z ≤ 9223372036854775807) :
    Ints (w.alloc (.cells #[.int .i64 x, .int .i64 y, .int .i64 z] t)) .i64 (some ⟨w.heap.size, 0, none⟩) 3 3 [x, y, z] :=
  ⟨by unfold maxLen; omega, by omega, rfl, fun n hn => by simp at hn; rcases hn with rfl | rfl | rfl <;> exact wf64 (by omega) (by omega), fun _ => ⟨_, 0, rfl, by simp, fun i hi => by
    rw [Nat.zero_add]
    match i, hi with
    | 0, _ => exact World.cell?_alloc_new w _ t 0
    | 1, _ => exact World.cell?_alloc_new w _ t 1
    | 2, _ => exact World.cell?_alloc_new w _ t 2⟩⟩
theorem ints_new4 {v x y z : Int} (w : World) (t : TypeId) (v0 : -9223372036854775808 ≤ v) (v1 : v ≤ 9223372036854775807) (x0 : -9223372036854775808 ≤ x) (x1 : x ≤ 9223372036854775807) (y0 : -9223372036854775808 ≤ y) (y1 : y ≤ 9223372036854775807) (z0 : -9223372036854775808 ≤ z) (z1 : z ≤ 9223372036854775807) :
    Ints (w.alloc (.cells #[.int .i64 v, .int .i64 x, .int .i64 y, .int .i64 z] t)) .i64 (some ⟨w.heap.size, 0, none⟩) 4 4 [v, x, y, z] :=
  ⟨by unfold maxLen; omega, by omega, rfl, fun n hn => by simp at hn; rcases hn with rfl | rfl | rfl | rfl <;> exact wf64 (by omega) (by omega), fun _ => ⟨_, 0, rfl, by simp, fun i hi => by
    rw [Nat.zero_add]
    match i, hi with
    | 0, _ => exact World.cell?_alloc_new w _ t 0
    | 1, _ => exact World.cell?_alloc_new w _ t 1
    | 2, _ => exact World.cell?_alloc_new w _ t 2
    | 3, _ => exact World.cell?_alloc_new w _ t 3⟩⟩
theorem of_max : ofF 9223372036854775807 = 9223372036854775807 ∧ ofO 9223372036854775807 = true := by decide +kernel
theorem length_any (b k : Nat) (o : Bool) (a : Option Addr) (len cap : Nat) (zs : List Int) (w : World) (m : MAt w b k o) (I : Ints w .i64 a len cap zs) :
    Calls Tryz.prog 94 #[.pointer (some ⟨b, k, none⟩), .slice a len cap] w fun e w' => e = .returned (.int .i64 (lenF (sqs zs))) ∧ FxW w.heap.size w b k (o || lenO (sqs zs)) w' := by
  have S0 := sqs_nn zs
  have HI := Lib.hid I
  have HM := Lib.hid m
  have M0 := m.lt
  have Q := Lib.hid (squares_any a len cap zs)
  obtain ⟨S, hS⟩ : ∃ S, sqs zs = S := ⟨_, rfl⟩
  rw [hS] at S0 Q ⊢
  clear I m hS
  by_cases c : S < 85070591730234615865843651857942052864
  · have L := len_fit c
    have i128 : In128 S := by unfold In128; omega
    have CL := Lib.hid (show clipW S = S ∧ fitW S = true from ⟨by unfold clipW; rw [if_pos i128], by unfold fitW; rw [decide_eq_true_iff]; exact i128⟩)
    have r0 := rootI_nn S
    have r1 := L.1
    have E := Lib.hid L.2
    have I := Lib.hid i128
    clear L i128 c
    go_enter Tryz.func94, Tryz.ntmps94
    go_wp2_with fail
    refine (Q.out _ HI.out).mono ?_
    rw [CL.out.1, CL.out.2]
    rintro e w1 ⟨rfl, hb1⟩
    obtain ⟨hc_w1, hf_w1⟩ := bcell hb1
    have z_w1 := hb1.size
    try simp at z_w1
    have y_w1 : w.heap.size ≤ w1.heap.size := by omega
    go_wp2_with fail
    refine (Root_any _ _ S _ (isW_of I.out)).mono ?_
    rintro e w2 ⟨rfl, hb2⟩
    obtain ⟨hc_w2, hf_w2⟩ := bcell hb2
    have z_w2 := hb2.size
    try simp at z_w2
    have y_w2 : w.heap.size ≤ w2.heap.size := by omega
    go_wp2
    go_ret
    exact ⟨retI E.out.1.symm, by rw [E.out.2, Bool.or_false]; exact (FxW.refl HM.out).then (C := w.heap.size) (by repeat (first | exact Below.refl _ _ | assumption | refine Below.setCell ?_ (by first | omega | (simp; done) | (simp; omega)) _ | refine Below.alloc ?_ (by first | omega | (simp; done) | (simp; omega)) _ | refine below_drewN ?_ _ | refine Below.drew ?_ | refine Below.trans ?_ (Below.mono (by assumption) (by first | omega | (simp; done) | (simp; omega))))) (Nat.le_refl _)⟩
  · have L := len_far (show 85070591730234615865843651857942052864 ≤ S by omega)
    have E := Lib.hid L.2
    have t := L.1
    clear L c
    have r0 := rootI_nn S
    by_cases i128 : In128 S
    · have CL := Lib.hid (show clipW S = S ∧ fitW S = true from ⟨by unfold clipW; rw [if_pos i128], by unfold fitW; rw [decide_eq_true_iff]; exact i128⟩)
      have I := Lib.hid i128
      have r1 := (rootI_64 i128).2
      clear i128
      go_enter Tryz.func94, Tryz.ntmps94
      go_wp2_with fail
      refine (Q.out _ HI.out).mono ?_
      rw [CL.out.1, CL.out.2]
      rintro e w1 ⟨rfl, hb1⟩
      obtain ⟨hc_w1, hf_w1⟩ := bcell hb1
      have z_w1 := hb1.size
      try simp at z_w1
      have y_w1 : w.heap.size ≤ w1.heap.size := by omega
      go_wp2_with fail
      refine (Root_any _ _ S _ (isW_of I.out)).mono ?_
      rintro e w2 ⟨rfl, hb2⟩
      obtain ⟨hc_w2, hf_w2⟩ := bcell hb2
      have z_w2 := hb2.size
      try simp at z_w2
      have y_w2 : w.heap.size ≤ w2.heap.size := by omega
      have B2 : Below w.heap.size w w2 := by repeat (first | exact Below.refl _ _ | assumption | refine Below.setCell ?_ (by first | omega | (simp; done) | (simp; omega)) _ | refine Below.alloc ?_ (by first | omega | (simp; done) | (simp; omega)) _ | refine below_drewN ?_ _ | refine Below.drew ?_ | refine Below.trans ?_ (Below.mono (by assumption) (by first | omega | (simp; done) | (simp; omega))))
      have HB2 := Lib.hid B2
      clear B2 hb1 hb2 hc_w1 hf_w1 hc_w2 hf_w2
      go_wp2_with fail
      refine (fxOf_any 9223372036854775807 b k o _ (by omega) (by omega) (HM.out.below HB2.out M0)).mono ?_
      rintro e w3 ⟨rfl, h3⟩
      go_wp2
      go_ret
      exact ⟨retI (by rw [E.out.1]; exact of_max.1), by rw [E.out.2]; rw [of_max.2] at h3; exact FxW.behind HB2.out h3 HB2.out.size⟩
    · have CL := Lib.hid (show clipW S = 0 ∧ fitW S = false from ⟨by unfold clipW; rw [if_neg i128], by unfold fitW; rw [decide_eq_false_iff_not]; exact i128⟩)
      clear i128
      go_enter Tryz.func94, Tryz.ntmps94
      go_wp2_with fail
      refine (Q.out _ HI.out).mono ?_
      rw [CL.out.1, CL.out.2]
      rintro e w1 ⟨rfl, hb1⟩
      obtain ⟨hc_w1, hf_w1⟩ := bcell hb1
      have z_w1 := hb1.size
      try simp at z_w1
      have y_w1 : w.heap.size ≤ w1.heap.size := by omega
      go_wp2_with fail
      refine (Root_any _ _ 0 _ isW_zero).mono ?_
      rintro e w2 ⟨rfl, hb2⟩
      obtain ⟨hc_w2, hf_w2⟩ := bcell hb2
      have z_w2 := hb2.size
      try simp at z_w2
      have y_w2 : w.heap.size ≤ w2.heap.size := by omega
      have B2 : Below w.heap.size w w2 := by repeat (first | exact Below.refl _ _ | assumption | refine Below.setCell ?_ (by first | omega | (simp; done) | (simp; omega)) _ | refine Below.alloc ?_ (by first | omega | (simp; done) | (simp; omega)) _ | refine below_drewN ?_ _ | refine Below.drew ?_ | refine Below.trans ?_ (Below.mono (by assumption) (by first | omega | (simp; done) | (simp; omega))))
      have HB2 := Lib.hid B2
      clear B2 hb1 hb2 hc_w1 hf_w1 hc_w2 hf_w2
      go_wp2_with fail
      refine (fxOf_any 9223372036854775807 b k o _ (by omega) (by omega) (HM.out.below HB2.out M0)).mono ?_
      rintro e w3 ⟨rfl, h3⟩
      go_wp2
      go_ret
      exact ⟨retI (by rw [E.out.1]; exact of_max.1), by rw [E.out.2]; rw [of_max.2] at h3; exact FxW.behind HB2.out h3 HB2.out.size⟩
theorem Len3_any (x y z : Int) (b k : Nat) (o : Bool) (w : World) (x0 : -9223372036854775808 ≤ x) (x1 : x ≤ 9223372036854775807) (y0 : -9223372036854775808 ≤ y) (y1 : y ≤ 9223372036854775807) (z0 : -9223372036854775808 ≤ z) (z1 : z ≤ 9223372036854775807) (m : MAt w b k o) :
    Calls Tryz.prog 86 #[.pointer (some ⟨b, k, none⟩), .int .i64 x, .int .i64 y, .int .i64 z] w fun e w' => e = .returned (.int .i64 (lenF (x * x + y * y + z * z))) ∧ FxW w.heap.size w b k (o || lenO (x * x + y * y + z * z)) w' := by
  have E := Lib.hid (show sqs [x, y, z] = x * x + y * y + z * z by simp [sqs]; omega)
  go_enter Tryz.func86, Tryz.ntmps86
  go_wp2_with fail
  refine (length_any b k o _ 3 3 [x, y, z] _ (m.alloc _) (ints_new3 w _ x0 x1 y0 y1 z0 z1)).mono ?_
  rw [E.out]
  rintro e w1 ⟨rfl, h⟩
  go_wp2
  go_ret
  exact ⟨rfl, FxW.behind ((Below.refl _ _).alloc (Nat.le_refl _) _) h (by simp)⟩
theorem Unit3_any (x y z n : Int) (b k : Nat) (o : Bool) (w : World) (hn : lenF (x * x + y * y + z * z) = n) (x0 : -9223372036854775808 ≤ x) (x1 : x ≤ 9223372036854775807) (y0 : -9223372036854775808 ≤ y) (y1 : y ≤ 9223372036854775807) (z0 : -9223372036854775808 ≤ z) (z1 : z ≤ 9223372036854775807) (m : MAt w b k o) :
    Calls Tryz.prog 69 #[.pointer (some ⟨b, k, none⟩), .int .i64 x, .int .i64 y, .int .i64 z] w fun e w' => e = .returned (if n = 0 then .tuple #[.int .i64 0, .int .i64 0, .int .i64 0, .bool false] else .tuple #[.int .i64 (divF x n), .int .i64 (divF y n), .int .i64 (divF z n), .bool true]) ∧ FxW w.heap.size w b k (if n = 0 then o || lenO (x * x + y * y + z * z) else o || lenO (x * x + y * y + z * z) || divO x n || divO y n || divO z n) w' := by
  have N := Lib.hid (lenF_in (x * x + y * y + z * z))
  have E := Lib.hid hn
  have HM := Lib.hid m
  have M0 := m.lt
  clear m hn
  by_cases c : n = 0
  · rw [if_pos c, if_pos c]
    go_enter Tryz.func69, Tryz.ntmps69
    go_wp2_with fail
    refine (Len3_any x y z b k o _ x0 x1 y0 y1 z0 z1 HM.out).mono ?_
    rw [E.out]
    rintro e w1 ⟨rfl, h1⟩
    subst c
    go_wp2
    exact bodyPost_ret (v := .tuple #[.int .i64 0, .int .i64 0, .int .i64 0, .bool false]) (by simp [results, Tryz.results69, go_sem]) rfl ⟨rfl, h1⟩
  · rw [if_neg c, if_neg c]
    have t : (n == 0) = false := by simp; exact c
    go_enter Tryz.func69, Tryz.ntmps69
    go_wp2_with fail
    refine (Len3_any x y z b k o _ x0 x1 y0 y1 z0 z1 HM.out).mono ?_
    rw [E.out]
    rintro e w1 ⟨rfl, h1⟩
    have H1 := Lib.hid h1
    have M1 := Lib.hid (h1.at HM.out M0)
    clear h1
    go_wp2_with fail
    refine (fxDiv_any x n b k _ _ x0 x1 (by have := N.out; rw [E.out] at this; omega) (by have := N.out; rw [E.out] at this; omega) M1.out).mono ?_
    rintro e w2 ⟨rfl, h2⟩
    have H2 := Lib.hid (H1.out.trans (h2.mono H1.out.size))
    have M2 := Lib.hid (h2.at M1.out M1.out.lt)
    clear h2
    go_wp2_with fail
    refine (fxDiv_any y n b k _ _ y0 y1 (by have := N.out; rw [E.out] at this; omega) (by have := N.out; rw [E.out] at this; omega) M2.out).mono ?_
    rintro e w3 ⟨rfl, h3⟩
    have H3 := Lib.hid (H2.out.trans (h3.mono H2.out.size))
    have M3 := Lib.hid (h3.at M2.out M2.out.lt)
    clear h3
    go_wp2_with fail
    refine (fxDiv_any z n b k _ _ z0 z1 (by have := N.out; rw [E.out] at this; omega) (by have := N.out; rw [E.out] at this; omega) M3.out).mono ?_
    rintro e w4 ⟨rfl, h4⟩
    go_wp2
    exact bodyPost_ret (v := .tuple #[.int .i64 (divF x n), .int .i64 (divF y n), .int .i64 (divF z n), .bool true]) (by simp [results, Tryz.results69, go_sem]) rfl ⟨rfl, H3.out.trans (h4.mono H3.out.size)⟩
end Go.Proofs.YtinahmhiopgcnaaGreat

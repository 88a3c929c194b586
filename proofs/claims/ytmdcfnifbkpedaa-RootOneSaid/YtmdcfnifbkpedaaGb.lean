/- Contracts of package fx: narrow. -/
import Derived.Test.YtmdcfnifbkpedaaGa
import Derived.Deep.RegionHeld3
namespace Go.Proofs.Ytmdcfnifbkpedaa
open Go.RowKit

theorem FxW.put {B : Nat} {w w' : World} {b k : Nat} {o : Bool} (h : Below B w w') : FxW B w b k o (w'.setCell ⟨b, k, none⟩ (.bool o)) := below_set h _ _
set_option maxHeartbeats 1000000 in
theorem narrow_any (n : Int) (b k : Nat) (o : Bool) (w : World) (hn : In128 n) (m : MAt w b k o) :
    Calls Try.prog 75 #[.agg #[.int .i64 (hiW n), .int .u64 (loW n)], .func (.func 66) #[.pointer (some ⟨b, k, none⟩)] #[]] w fun e w' => e = .returned (.int .i64 (clip64 n)) ∧ FxW w.heap.size w b k (o || out64 n) w' := by
  obtain ⟨x, hx⟩ : ∃ x, wrap64 (loW n) = x := ⟨_, rfl⟩
  have L := low64 (n := n) (x := x) (by rw [← hx]; unfold wrap64; rfl)
  have x0 := L.1.1
  have x1 := L.1.2
  have HM := Lib.hid m
  have M0 := m.lt
  have HN := Lib.hid hn
  by_cases p : In64 n
  · have e := L.2.1 p
    subst e
    have K := Lib.hid (clip64_of p)
    clear p L
    go_enter Try.func75, Try.ntmps75
    go_wp2
    have C : CellW (w.alloc (.cells #[.int .i64 (hiW x), .int .u64 (loW x)] 24)) w.heap.size (hiW x) (loW x) := CellW.new w _ _ _
    have HS := Lib.hid (start1 (B := w.heap.size) (w := w) C (by simp) (by simp) (by repeat (first | exact Below.refl _ _ | assumption | refine Below.setCell ?_ (by first | omega | (simp; done) | (simp; omega)) _ | refine Below.alloc ?_ (by first | omega | (simp; done) | (simp; omega)) _ | refine below_drewN ?_ _ | refine Below.drew ?_ | refine Below.trans ?_ (Below.mono (by assumption) (by first | omega | (simp; done) | (simp; omega))))))
    clear C
    go_region_held3 (fun W => (W.cell? ⟨w.heap.size, 0, none⟩ = some (.int .i64 (hiW x)) ∧ W.cell? ⟨w.heap.size, 1, none⟩ = some (.int .u64 (loW x))) ∧ w.heap.size < W.heap.size ∧ w.heap.size ≤ W.heap.size ∧ Below w.heap.size w W)
        (first | exact keep1 ((Below.refl _ _).drew) HS.out | exact keep1 hb (by assumption))
        (first
          | (go_at_call 31; refine (Of_any _ _ x0 x1).mono ?_; rintro e w' ⟨rfl, hb⟩))
    go_wp2
    go_ret
    exact ⟨retI K.out.1.symm, FxW.then (by rw [K.out.2, Bool.or_false]; exact FxW.refl HM.out) (end1 (by assumption)) (Nat.le_refl _)⟩
  · have ne := L.2.2 p
    have le : loW x = loW n := by rw [← hx]; unfold loW wrap64; omega
    have he : (hiW x == hiW n) = false := by
      rw [beq_eq_false_iff_ne]; intro c; exact ne (hilo_eq c le)
    have K := Lib.hid (clip64_out p)
    have LE := Lib.hid le
    clear p L ne le
    have hmf : ∀ (fn : Fn) (first cap : Array Value) (w : World), (Instr.makeFunc fn first cap).run Try.prog w = .ok (.func fn first cap) w := fun _ _ _ _ => rfl
    go_enter Try.func75, Try.ntmps75
    go_wp2
    have C : CellW (w.alloc (.cells #[.int .i64 (hiW n), .int .u64 (loW n)] 24)) w.heap.size (hiW n) (loW n) := CellW.new w _ _ _
    have HS := Lib.hid (start1 (B := w.heap.size) (w := w) C (by simp) (by simp) (by repeat (first | exact Below.refl _ _ | assumption | refine Below.setCell ?_ (by first | omega | (simp; done) | (simp; omega)) _ | refine Below.alloc ?_ (by first | omega | (simp; done) | (simp; omega)) _ | refine below_drewN ?_ _ | refine Below.drew ?_ | refine Below.trans ?_ (Below.mono (by assumption) (by first | omega | (simp; done) | (simp; omega))))))
    clear C
    go_region_held3 (fun W => (W.cell? ⟨w.heap.size, 0, none⟩ = some (.int .i64 (hiW n)) ∧ W.cell? ⟨w.heap.size, 1, none⟩ = some (.int .u64 (loW n))) ∧ w.heap.size < W.heap.size ∧ w.heap.size ≤ W.heap.size ∧ Below w.heap.size w W)
        (first | exact keep1 ((Below.refl _ _).drew) HS.out | exact keep1 hb (by assumption))
        (first
          | (go_at_call 31; refine (Of_any _ _ x0 x1).mono ?_; rintro e w' ⟨rfl, hb⟩))
    rename_i hH
    have hB : Below w.heap.size w w' := end1 hH
    have HB := Lib.hid hB
    have z : w.heap.size < w'.heap.size := hH.2.1
    clear hB
    go_wp2_with fail
    refine (Sign_n n _ HN.out).mono ?_
    rintro e w2 ⟨rfl, hb2⟩
    have B2 : Below w.heap.size w w2 := HB.out.trans (hb2.mono (by omega))
    have M2 := HM.out.below B2 M0
    have HB2 := Lib.hid B2
    clear B2 hb2 hb
    go_wp2_with fail
    refine (beyond_any b k o _ _ M2).mono ?_
    rintro e w3 ⟨rfl, rfl⟩
    go_wp2
    go_ret
    exact ⟨retI (by rw [K.out.1, satS_cmp]), by rw [K.out.2, Bool.or_true]; exact FxW.put HB2.out⟩
end Go.Proofs.Ytmdcfnifbkpedaa

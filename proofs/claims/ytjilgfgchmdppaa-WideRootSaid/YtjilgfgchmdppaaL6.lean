/- The walk of WideRoot. -/
import Derived.Test.YtjilgfgchmdppaaFt
namespace Go.Proofs.Ytjilgfgchmdppaa
open Go.RowKit

set_option maxHeartbeats 4000000 in
theorem root_walk (a b : Int) (w : World) (ha : In128 a) (hb : In128 b) :
    Calls Try.prog 7 #[.agg #[.int .i64 (hiW a), .int .u64 (loW a)], .agg #[.int .i64 (hiW b), .int .u64 (loW b)]] w fun e w' => e = .returned (.bool true) ∧ Below w.heap.size w w' := by
  go_enter Try.func7, Try.ntmps7
  go_wp2_with fail
  have C1 : CellW ((w.alloc (.cells #[.int .i64 (hiW a), .int .u64 (loW a)] 25)).alloc (.cells #[.int .i64 (hiW b), .int .u64 (loW b)] 25)) w.heap.size (hiW a) (loW a) := (CellW.new w _ _ _).alloc (by simp) _
  have C2 : CellW ((w.alloc (.cells #[.int .i64 (hiW a), .int .u64 (loW a)] 25)).alloc (.cells #[.int .i64 (hiW b), .int .u64 (loW b)] 25)) (w.heap.size + 1) (hiW b) (loW b) := by
    have := CellW.new (w.alloc (.cells #[.int .i64 (hiW a), .int .u64 (loW a)] 25)) (hiW b) (loW b) 25
    simpa using this
  have HS := Lib.hid (start2 (B := w.heap.size) (w := w) C1 C2 (by simp; omega) (by simp) (by simp; omega) (by repeat (first | exact Below.refl _ _ | assumption | refine Below.setCell ?_ (by first | omega | (simp; done) | (simp; omega)) _ | refine Below.alloc ?_ (by first | omega | (simp; done) | (simp; omega)) _ | refine below_drewN ?_ _ | refine Below.drew ?_ | refine Below.trans ?_ (Below.mono (by assumption) (by first | omega | (simp; done) | (simp; omega))))))
  clear C1 C2
  go_region_held3 (fun W => (W.cell? ⟨w.heap.size, 0, none⟩ = some (.int .i64 (hiW a)) ∧ W.cell? ⟨w.heap.size, 1, none⟩ = some (.int .u64 (loW a))) ∧ (W.cell? ⟨w.heap.size + 1, 0, none⟩ = some (.int .i64 (hiW b)) ∧ W.cell? ⟨w.heap.size + 1, 1, none⟩ = some (.int .u64 (loW b))) ∧ w.heap.size < W.heap.size ∧ w.heap.size + 1 < W.heap.size ∧ w.heap.size ≤ W.heap.size ∧ Below w.heap.size w W)
    (first | exact keep2 ((Below.refl _ _).drew) HS.out | exact keep2 hb (by assumption))
    (first
      | (go_at_call 29; refine (Root_any _ _ a _ (isW_of ha)).mono ?_; rintro e w' ⟨rfl, hb⟩)
      | (go_at_call 31; refine (Part_any _ _ _ _ a b _ (isW_of ha) (isW_of (by assumption))).mono ?_; rintro e w' ⟨rfl, hb⟩)
      | (go_at_call 19; refine (of_any _ _ (by assumption)).mono ?_; rintro e w' ⟨rfl, hb⟩)
      | (go_at_call 30; refine (rRoot_any a _ (by assumption)).mono ?_; rintro e w' ⟨rfl, hb⟩)
      | (go_at_call 32; refine (rPart_any a b _ (by assumption) (by assumption)).mono ?_; rintro e w' ⟨rfl, hb⟩)
      | (go_at_call 16; refine (awake_any _).mono ?_; rintro e w' ⟨rfl, hb⟩))
  go_wp2
  go_ret
  exact ⟨rfl, end2 (by assumption)⟩

theorem root_law (h l k m : Int) (wh : (Lit.int .i64 h).wf = true) (wl : (Lit.int .u64 l).wf = true) (wk : (Lit.int .i64 k).wf = true) (wm : (Lit.int .u64 m).wf = true) (w : World) :
    Calls Try.prog 7 #[.agg #[.int .i64 h, .int .u64 l], .agg #[.int .i64 k, .int .u64 m]] w fun e w' => e = .returned (.bool true) ∧ Below w.heap.size w w' := by
  obtain ⟨a, rfl, rfl, ha⟩ := wide_of wh wl
  obtain ⟨b, rfl, rfl, hb⟩ := wide_of wk wm
  exact root_walk a b w ha hb
end Go.Proofs.Ytjilgfgchmdppaa

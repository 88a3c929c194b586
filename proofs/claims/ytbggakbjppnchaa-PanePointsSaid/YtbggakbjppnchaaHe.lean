/- The walks of FxMul and FxMix. -/
import Derived.Test.YtbggakbjppnchaaBy
import Derived.Test.YtbggakbjppnchaaBz
namespace Go.Proofs.Ytbggakbjppnchaa
open Go.RowKit

theorem rfMix_any (x y t : Int) (b k : Nat) (o : Bool) (w : World) (x0 : -9223372036854775808 ≤ x) (x1 : x ≤ 9223372036854775807) (y0 : -9223372036854775808 ≤ y) (y1 : y ≤ 9223372036854775807) (t0 : -9223372036854775808 ≤ t) (t1 : t ≤ 9223372036854775807) (m : MAt w b k o) :
    Calls Try.prog 46 #[.pointer (some ⟨b, k, none⟩), .int .i64 x, .int .i64 y, .int .i64 t] w fun e w' => e = .returned (.int .i64 (mixF x y t)) ∧ FxW w.heap.size w b k (o || mixO x y t) w' := by
  have M0 := m.lt
  have HM := Lib.hid m
  clear m
  go_enter Try.func46, Try.ntmps46
  go_wp2_with fail
  refine (rfSub_any y x b k o _ y0 y1 x0 x1 HM.out).mono ?_
  rintro e w1 ⟨rfl, h1⟩
  have H1 := Lib.hid h1
  have M1 := Lib.hid (h1.at HM.out M0)
  clear h1
  go_wp2_with fail
  refine (rfMul_any (subF y x) t b k _ _ (subF_in _ _).1 (subF_in _ _).2 t0 t1 M1.out).mono ?_
  rintro e w2 ⟨rfl, h2⟩
  have H2 := Lib.hid (H1.out.trans (h2.mono H1.out.size))
  have M2 := Lib.hid (h2.at M1.out M1.out.lt)
  clear h2
  go_wp2_with fail
  refine (rfAdd_any x (mulF (subF y x) t) b k _ _ x0 x1 (mulF_in _ _).1 (mulF_in _ _).2 M2.out).mono ?_
  rintro e w3 ⟨rfl, h3⟩
  go_wp2
  go_ret
  refine ⟨rfl, ?_⟩
  have := H2.out.trans (h3.mono H2.out.size)
  unfold mixO
  simp only [Bool.or_assoc] at this ⊢
  exact this
end Go.Proofs.Ytbggakbjppnchaa

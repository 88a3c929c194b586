/- A slice of bytes that came in. -/
import Derived.Test.YtcljaffdochdiaaYq
import Derived.Test.YtcljaffdochdiaaYm
import Derived.Test.YtcljaffdochdiaaBk
namespace Go.Proofs.Ytcljaffdochdiaa
open Go.RowKit
set_option linter.unusedVariables false

theorem bl_ints {W : World} {a : Option Addr} {len cap : Nat} {zs : List Int} (I : Ints W .u8 a len cap zs) : BL W a len zs := by
  refine ⟨I.hz, fun x hx => ?_, fun h0 => ?_⟩
  · have := I.wf x hx
    simp [Lit.wf, IntKind.min, IntKind.max, IntKind.bits, IntKind.signed] at this
    omega
  · obtain ⟨b, off, e, hb, hc⟩ := I.at' h0
    refine ⟨b, off, e, hb, fun i x hi => ?_⟩
    have hlt : i < len := by
      rcases Nat.lt_or_ge i zs.length with k | k
      · rw [I.hz] at k; exact k
      · rw [List.getElem?_eq_none k] at hi; cases hi
    rw [hc i hlt, List.getD_eq_getElem?_getD, hi]
    rfl
end Go.Proofs.Ytcljaffdochdiaa

/- An array of pairs of integers, by value, opened. -/
import Derived.Test.YtmfmdipejlnmfaaKx
import Derived.ChangeSame
namespace Go.Proofs.Ytmfmdipejlnmfaa
open Go.ChangeShapes Go.WideShapes Go.ChangeAt Go.RowKit Go.Joins
set_option linter.unusedVariables false

theorem open_arr_pairs {H : Type} {enc : TypeId × Value → H} {P : Program} {w : World} {base : Nat} {spare : Nat → Bool} {held : Bool} {r : Reach} {b0 n : Nat} {t e : TypeId} {f0 f1 : Field} {k : IntKind} {v : Value} {d : DataW H} {p : List MemPlace}
    (ht : P.underlying t = some (.array n e)) (he : P.underlying e = some (.struct #[f0, f1])) (hk0 : P.underlying f0.type = some (.int k)) (hk1 : P.underlying f1.type = some (.int k))
    (ho : (f0.offset, f1.offset, P.cellsOf f0.type, P.cellsOf f1.type, P.cellsOf e, P.cellsOf t) = (0, 1, 1, 1, 2, n * 2))
    (hv : Value.okWide P w r b0 t v) (h : DataW.Trod enc P w base spare held t v d p) :
    ∃ zs : List Int, zs.length = n * 2 ∧ v = .agg (zs.map (Value.int k)).toArray ∧ ∀ z ∈ zs, (Lit.int k z).wf = true := by
  simp only [Prod.mk.injEq] at ho
  obtain ⟨o0, o1, c0, c1, h1, hC⟩ := ho
  simp only [Value.okWide, ht] at hv
  obtain ⟨cs, rfl, hsz, _⟩ := hv
  obtain ⟨fuel, hf⟩ := h
  obtain ⟨xs, m, rfl, hx, hl, hlen, hi⟩ := DataW.trod_array ht hf
  have hn : cs.size = n * 2 := hsz.trans hC
  have key : ∀ i, i < n * 2 → ∃ a : Int, cs.toList[i]? = some (.int k a) ∧ (Lit.int k a).wf = true := by
    intro i hin
    have hj : i / 2 < n := by omega
    have g := hi (i / 2) hj
    rw [h1] at g
    have hb : i / 2 < xs.length := by omega
    rw [List.getElem?_eq_getElem hb] at g
    obtain ⟨y0, y1, q, _, _, g0, g1⟩ := trod_struct2 he g
    rw [o0, c0] at g0
    rw [o1, c1] at g1
    obtain ⟨a, ea, _, wa⟩ := DataW.trod_int hk0 g0
    obtain ⟨b, eb, _, wb⟩ := DataW.trod_int hk1 g1
    by_cases e : i % 2 = 0
    · refine ⟨a, ?_, wa⟩
      have := congrArg (fun l => l[0]?) ea
      have hi2 : i = i / 2 * 2 := by omega
      rw [hi2]
      simpa [Value.cells] using this
    · refine ⟨b, ?_, wb⟩
      have := congrArg (fun l => l[0]?) eb
      have hi2 : i = i / 2 * 2 + 1 := by omega
      rw [hi2]
      simpa [Value.cells] using this
  refine ⟨cs.toList.map (fun v => match v with | .int _ a => a | _ => 0), by simpa using hn, ?_, ?_⟩
  · congr 1
    apply Array.ext'
    apply List.ext_getElem?
    intro i
    by_cases hin : i < n * 2
    · obtain ⟨a, ha, _⟩ := key i hin
      simp [ha]
    · have : cs.toList.length ≤ i := by simp; omega
      simp [List.getElem?_eq_none this]
  · intro z hz
    obtain ⟨v, hv, rfl⟩ := List.mem_map.1 hz
    obtain ⟨i, hi2, e⟩ := List.mem_iff_getElem.1 hv
    have hin : i < n * 2 := by simpa [hn] using hi2
    obtain ⟨a, ha, wa⟩ := key i hin
    rw [List.getElem?_eq_getElem hi2, e] at ha
    simp only [Option.some.injEq] at ha
    subst ha
    exact wa
theorem list6_of {α : Type} {l : List α} (h : l.length = 6) : ∃ a b c d e f, l = [a, b, c, d, e, f] := by
  match l, h with
  | [a, b, c, d, e, f], _ => exact ⟨a, b, c, d, e, f, rfl⟩
theorem list8_of {α : Type} {l : List α} (h : l.length = 8) : ∃ a b c d e f g i, l = [a, b, c, d, e, f, g, i] := by
  match l, h with
  | [a, b, c, d, e, f, g, i], _ => exact ⟨a, b, c, d, e, f, g, i, rfl⟩
end Go.Proofs.Ytmfmdipejlnmfaa

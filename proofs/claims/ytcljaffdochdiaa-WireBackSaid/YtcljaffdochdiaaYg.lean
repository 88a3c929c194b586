/- The document's reader: Mark. -/
import Derived.Test.YtcljaffdochdiaaYf
import Derived.Test.YtcljaffdochdiaaBk
import Derived.Laws.BytesArg
namespace Go.Proofs.Ytcljaffdochdiaa
open Go.RowKit
set_option linter.unusedVariables false
set_option linter.unusedSimpArgs false

/-- operation number i, which is not wanted, is passed by; its slot d is named -/
theorem wpAnyH_skipY {P : Program} {md : Region.Mode} {ops : Array Oper} {Q : Exit → Act → World → Prop} {S : World → Prop} (i d : Nat) {fuel : Nat} {listed : Array Bool} {a : Act} {w : World}
    (hi : (ops[i]?.map fun o => o.dst) = some (some d)) (hs : Region.noSelect ops = true) (hf : Region.free md ops listed i = true) (hr : (Region.ready md ops listed).contains i = true)
    (hw : (ops[i]?.map fun o => Region.wanted o (yielded ops a.tmps)) = some false)
    (hQ : ∀ c a w, Q (.panic c) (a.put (some d) undef) w → Q (.panic c) a w) (hS : S w)
    (h : wpAnyH P md ops Q S fuel (listed.setIfInBounds i true) (a.put (some d) undef) w) : wpAnyH P md ops Q S (fuel + 1) listed a w := by
  cases ho : ops[i]? with
  | none => rw [ho] at hi; cases hi
  | some o =>
    rw [ho] at hi hw
    have e : o.dst = some d := Option.some.inj hi
    have hw' : Region.wanted o (yielded ops a.tmps) = false := Option.some.inj hw
    refine wpAnyH_take (i := i) (oi := o) (v := undef) ho hs hf hr ?_ (Or.inr ⟨hw', rfl⟩) hS ?_
    · rw [e]; exact hQ
    · rw [e]; exact h
/-- the text of bytes -/
def txt (l : List Int) : ByteArray := strOfNums l
theorem txt_inj {a b : List Int} (ha : ∀ x ∈ a, 0 ≤ x ∧ x ≤ 255) (hb : ∀ x ∈ b, 0 ≤ x ∧ x ≤ 255) (h : txt a = txt b) : a = b := by
  have e : (strOfNums a).data.toList = (strOfNums b).data.toList := congrArg (fun s => s.data.toList) h
  rw [strOfNums_data, strOfNums_data] at e
  have g : ∀ (l : List Int), (∀ x ∈ l, 0 ≤ x ∧ x ≤ 255) → (l.map fun n => UInt8.ofNat n.toNat).map (fun (u : UInt8) => (u.toNat : Int)) = l := by
    intro l hl
    rw [List.map_map]
    conv => rhs; rw [← List.map_id l]
    apply List.map_congr_left
    intro x hx
    have := hl x hx
    simp only [Function.comp, id, UInt8.toNat_ofNat']
    omega
  rw [← g a ha, ← g b hb, e]
theorem txt_eq {a b : List Int} (ha : ∀ x ∈ a, 0 ≤ x ∧ x ≤ 255) (hb : ∀ x ∈ b, 0 ≤ x ∧ x ≤ 255) : ((txt a).toList == (txt b).toList) = decide (a = b) := by
  by_cases k : a = b
  · subst k; simp
  · rw [decide_eq_false k, beq_eq_false_iff_ne]
    intro e
    rw [ByteArray.toList_eq, ByteArray.toList_eq] at e
    refine k (txt_inj ha hb ?_)
    cases h1 : txt a with | mk d1 => cases h2 : txt b with | mk d2 => rw [h1, h2] at e; congr 1; exact Array.toList_inj.1 e
/-- what the conversion to a text needs -/
theorem conv_bl {P : Program} {W : World} {a : Option Addr} {n : Nat} {l : List Int} (h : BL W a n l) (hn : 0 < n) (c : Nat) (src e dst : TypeId) (hs : P.underlying src = some (.slice e)) (he : P.underlying e = some (.int .u8)) (hd : P.underlying dst = some .string) : (convert src dst (.slice a n c)).run P W = .ok (.string (txt l)) W := by
  obtain ⟨b, off, rfl, hb, hc⟩ := h.c hn
  refine run_convert_bytes_arg W src e hs he b off n c l h.hn (fun i hi => ?_) dst hd
  have hl := h.hn
  have := hc i l[i] (List.getElem?_eq_getElem (by omega))
  rw [this]
  simp [List.getD, List.getElem?_eq_getElem (show i < l.length by omega)]
/-- a list of the call's own lies in memory -/
theorem OB.bl {base : Nat} {W : World} {v : Value} {l : List Int} (h : OB base W v (byC l)) (hu : ∀ x ∈ l, 0 ≤ x ∧ x ≤ 255) : ∃ a c, v = .slice a l.length c ∧ BL W a l.length l ∧ (∀ p, a = some p → base ≤ p.block) := by
  rcases h with ⟨rfl, e⟩ | ⟨g, cap, rfl, hb, hg, hl, hm, hc, hf, hx⟩
  · have : l = [] := by cases l with | nil => rfl | cons x r => cases e
    subst this
    exact ⟨none, 0, rfl, ⟨rfl, hu, fun h => absurd h (by simp)⟩, fun p h => by cases h⟩
  · rw [byC_length]
    refine ⟨_, cap, rfl, ⟨rfl, hu, fun _ => ⟨g, 0, rfl, hg, fun i x hi => ?_⟩⟩, fun p h => by cases h; exact hb⟩
    rw [Nat.zero_add]
    apply hx
    unfold byC
    rw [List.getElem?_map, hi]; rfl
theorem markB_in (s : ByteArray) (n : Nat) : ∀ x ∈ markB s n, 0 ≤ x ∧ x ≤ 255 := by
  intro x hx
  unfold markB at hx
  obtain ⟨i, _, rfl⟩ := List.mem_map.1 hx
  unfold chB
  split
  · rename_i h
    have := s[i].toNat_lt
    omega
  · omega
def mkS (t : ByteArray) (l : List Int) (s : IS) : IS := if wordOk l.length 4 s then (if wordL l 4 s = markB t 4 then wordS l.length 4 s else failS 21 s.pos (wordS l.length 4 s)) else wordS l.length 4 s
end Go.Proofs.Ytcljaffdochdiaa

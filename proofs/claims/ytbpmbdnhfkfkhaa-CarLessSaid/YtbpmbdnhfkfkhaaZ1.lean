/- A region that draws its order: a call that leaves the world as it is, and tells the same in every world that meets S, may be taken first, as a load may. -/
import Derived.Test.YtbpmbdnhfkfkhaaBk
namespace Go.Proofs.Ytbpmbdnhfkfkhaa
open Go.RowKit

section
variable {P : Program} {ops : Array Oper} {Q : Exit → Act → World → Prop} {md : Region.Mode} {S : World → Prop}
/-- operation j, which does not look at d, behind d's being written: G of what is at hand is kept -/
theorem putG {j : Nat} {oi oj : Oper} {v : Value} (hj : ops[j]? = some oj) (hap : oi.apart ops oj = true) (hsj : ∀ cs b, oj.op ≠ .select cs b)
    (hQ : ∀ c a w, Q (.panic c) (a.put oi.dst v) w → Q (.panic c) a w) (G : Act → Prop) (hG : ∀ a u, G a → G (a.put oj.dst u)) (hD : ∀ (a : Act) d, G a → G { a with defers := d :: a.defers })
    {K : Act → World → Prop} {a : Act} {w : World} (hy : G a) (h : wpOp P ops Q j K (a.put oi.dst v) w) :
    wpOp P ops Q j (fun a' w' => G a' ∧ K (a'.put oi.dst v) w') a w := by
  obtain ⟨h1, h2, -⟩ := Oper.apart_spec hap
  have sw : ∀ (b : Act) u, (b.put oi.dst v).put oj.dst u = (b.put oj.dst u).put oi.dst v := fun b u => Act.put_comm b v u h2
  unfold wpOp at h ⊢
  simp only [hj] at h ⊢
  rw [wanted_put oj a oi.dst v h1] at h
  by_cases hw : Region.wanted oj (yielded ops a.tmps) = true
  · rw [if_pos hw] at h ⊢
    rcases h with h | ⟨k1, k2⟩
    · left
      unfold Oper.wp at h ⊢
      rw [execOp_put oj hsj a oi.dst v h1] at h
      revert h
      generalize (execOp a.eval oj).run P w = r
      intro h
      rcases r with ⟨n, w'⟩ | ⟨x, w'⟩
      · cases n <;> simp only [Oper.upon] at h ⊢
        case value u => exact ⟨hG a u hy, by rw [← sw]; exact h⟩
        case skip => exact ⟨hG a _ hy, by rw [← sw]; exact h⟩
        case defer d => exact ⟨hG _ _ (hD a d hy), by rw [← sw, ← Act.put_defers]; exact h⟩
        case enter f args =>
          refine Calls.mono h fun e w2 he => ?_
          cases e with
          | returned u => exact ⟨hG a u hy, by rw [← sw]; exact he⟩
          | panicked c => exact hQ _ _ _ he
          | outgrown => exact he
        case row row args => exact Rows.mono h fun u w2 he => ⟨hG a u hy, by rw [← sw]; exact he⟩
      · cases x <;> simp only [Oper.upon] at h ⊢
        case panic u => exact hQ _ _ _ h
    · right
      unfold Oper.asks at k1 ⊢
      rw [execOp_put oj hsj a oi.dst v h1] at k1
      exact ⟨k1, k2⟩
  · rw [if_neg hw] at h ⊢
    exact ⟨hG a _ hy, by rw [← sw]; exact h⟩
/-- what may be taken first: G says that it tells v -/
theorem firstG {i : Nat} {oi : Oper} {v : Value} (hi : ops[i]? = some oi) (hsel : ∀ (j : Nat) (o : Oper) cs b, ops[j]? = some o → o.op ≠ .select cs b)
    (hQ : ∀ c a w, Q (.panic c) (a.put oi.dst v) w → Q (.panic c) a w) (G : Act → Prop)
    (hG : ∀ (oj : Oper), oi.apart ops oj = true → ∀ a u, G a → G (a.put oj.dst u)) (hD : ∀ (a : Act) d, G a → G { a with defers := d :: a.defers })
    (hW : ∀ (K : Act → World → Prop) a w, G a → S w → K (a.put oi.dst v) w → wpOp P ops Q i K a w) :
    ∀ (fuel : Nat) (listed : Array Bool) (a : Act) (w : World),
      (∀ j oj, ops[j]? = some oj → j ≠ i → listed.getD j true = false → (∀ e ∈ oj.after, Region.binds md e = true → e.on ≠ i) → oi.apart ops oj = true) →
      i ∈ Region.ready md ops listed → G a → S w → wpAnyH P md ops Q S fuel (listed.setIfInBounds i true) (a.put oi.dst v) w → wpAnyH P md ops Q S (fuel + 1) listed a w
  | 0, listed, a, w, _, hr, hy, hS, H => by
    refine ⟨fun h => (by rw [h] at hr; cases hr), fun j hj => ?_⟩
    rcases Nat.decEq j i with ne | rfl
    · have k := ready_mono hj ne
      rw [H.1] at k
      cases k
    · exact hW _ a w hy hS ⟨hS, H⟩
  | fuel + 1, listed, a, w, hfree, hr, hy, hS, H => by
    refine ⟨fun h => (by rw [h] at hr; cases hr), fun j hj => ?_⟩
    rcases Nat.decEq j i with ne | rfl
    · obtain ⟨un, oj, hoj, hall⟩ := mem_ready.1 hj
      have ui := (mem_ready.1 hr).1
      have wait : ∀ e ∈ oj.after, Region.binds md e = true → e.on ≠ i := fun e he hb c => by
        have k := hall e he hb
        rw [c] at k
        cases hl : listed[i]? with
        | none => simp [hl] at k
        | some b => simp [hl] at k ui; rw [k] at ui; cases ui
      have ap := hfree j oj hoj ne un wait
      refine wpOp_mono (fun a' w' h3 => ⟨h3.2.1, firstG hi hsel hQ G hG hD hW fuel (listed.setIfInBounds j true) a' w' (fun k ok hk ki uk no => hfree k ok hk ki ?_ no) (ready_mono hr (Ne.symm ne)) h3.1 h3.2.1 ?_⟩)
        (putG hoj ap (fun cs b => hsel j oj cs b hoj) hQ G (hG oj ap) hD hy (H.2 j (ready_mono hj ne)))
      · rcases Nat.decEq j k with c | rfl
        · rw [getD_set_ne true c] at uk; exact uk
        · exact un
      · rw [Array.setIfInBounds_comm _ _ ne]; exact h3.2.2
    · exact hW _ a w hy hS ⟨hS, H⟩
/-- a call that leaves the world as it is and tells v wherever S is -/
structure GivesIf (P : Program) (ops : Array Oper) (S : World → Prop) (o : Oper) (v : Value) (f : FuncId) (args : Array Value) (a : Act) : Prop where
  wanted : Region.wanted o (yielded ops a.tmps) = true
  run : ∀ w, S w → (execOp a.eval o).run P w = .ok (.enter f args) w
  calls : ∀ w, S w → Calls P f args w fun e w' => e = .returned v ∧ w' = w
theorem GivesIf.same {o : Oper} {v : Value} {f : FuncId} {args : Array Value} {a a' : Act} (g : GivesIf P ops S o v f args a) (he : execOp a'.eval o = execOp a.eval o)
    (hw : Region.wanted o (yielded ops a'.tmps) = Region.wanted o (yielded ops a.tmps)) : GivesIf P ops S o v f args a' := ⟨by rw [hw]; exact g.wanted, by rw [he]; exact g.run, g.calls⟩
/-- such a call, number i, which may come up now, is taken first; its slot is d -/
theorem tkC (i d : Nat) {v : Value} {f : FuncId} {args : Array Value} {fuel : Nat} {listed : Array Bool} {a : Act} {w : World} {o : Oper}
    (hc : ∀ w, S w → Calls P f args w fun e w' => e = .returned v ∧ w' = w) (hS : S w)
    (h : wpAnyH P md ops Q S fuel (listed.setIfInBounds i true) (a.put (some d) v) w)
    (ho : ops[i]? = some o := by rfl) (hy : ∀ w, S w → (execOp a.eval o).run P w = .ok (.enter f args) w := by (intro W hSw; (try dsimp only at hSw); go_simp; try with_reducible rfl))
    (hi : (ops[i]?.map fun o => o.dst) = some (some d) := by kernel_rfl) (hs : Region.noSelect ops = true := by kernel_rfl) (hf : Region.free md ops listed i = true := by kernel_rfl) (hr : (Region.ready md ops listed).contains i = true := by kernel_rfl)
    (hw : (ops[i]?.map fun o => Region.wanted o (yielded ops a.tmps)) = some true := by rfl)
    (hQ : ∀ c a w, Q (.panic c) (a.put (some d) v) w → Q (.panic c) a w := by exact fun _ _ _ h => h) : wpAnyH P md ops Q S (fuel + 1) listed a w := by
  rw [ho] at hi hw
  have e : o.dst = some d := Option.some.inj hi
  have hsel := Region.noSelect_spec hs
  have ns : ∀ cs b, o.op ≠ .select cs b := fun cs b => hsel i o cs b ho
  refine firstG (oi := o) (v := v) ho hsel (by rw [e]; exact hQ) (GivesIf P ops S o v f args) (fun oj ap a u g => ?_) (fun a d g => g.same rfl rfl) (fun K a w g hS k => ?_) fuel listed a w (Region.free_spec ho hf) (by simpa using hr) ⟨Option.some.inj hw, hy, hc⟩ hS (by rw [e]; exact h)
  · obtain ⟨-, -, h3⟩ := Oper.apart_spec ap
    exact g.same (execOp_put o ns a oj.dst u h3) (wanted_put o a oj.dst u h3)
  · unfold wpOp
    simp only [ho, if_pos g.wanted]
    left
    unfold Oper.wp
    rw [g.run w hS]
    exact Calls.mono (g.calls w hS) fun e w' ⟨h1, h2⟩ => by subst h1; subst h2; exact k
end
end Go.Proofs.Ytbpmbdnhfkfkhaa

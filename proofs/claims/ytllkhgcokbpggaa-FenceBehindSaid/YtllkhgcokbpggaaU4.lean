/- The program's fence: neighbours: cells enumerated. -/
import Derived.Test.YtllkhgcokbpggaaU3
import Derived.Test.YtllkhgcokbpggaaZr
import Derived.RangeFuncBound
import Derived.Shelf.RegionOpen
import Derived.OwnWalkIn
import Derived.TacticsInMore
import Derived.Test.YtllkhgcokbpggaaBk
import Derived.Test.YtllkhgcokbpggaaVu
import Derived.LoopIn
namespace Go.Proofs.Ytllkhgcokbpggaa
open Go.RowKit
set_option linter.unusedVariables false
set_option linter.unusedSimpArgs false
attribute [local go_sem] Oper.semAt_some

theorem fm_flat {α β : Type} (f : α → List β) (m : Nat) (z : α) (h : ∀ x, (f x).length = m) : ∀ (l : List α) (i j : Nat), i < l.length → j < m → (l.flatMap f)[i * m + j]? = (f (l.getD i z))[j]?
  | [], i, j, hi, _ => absurd hi (by simp)
  | x :: l, 0, j, _, hj => by
    rw [List.flatMap_cons, Nat.zero_mul, Nat.zero_add, List.getElem?_append_left (by rw [h]; exact hj)]
    rfl
  | x :: l, i + 1, j, hi, hj => by
    rw [List.flatMap_cons, List.getElem?_append_right (by rw [h, Nat.add_mul]; omega), h, show (i + 1) * m + j - m = i * m + j by rw [Nat.add_mul]; omega]
    rw [fm_flat f m z h l i j (by simpa using hi) hj]
    rfl
theorem fm_size {α β : Type} (f : α → List β) (m : Nat) (h : ∀ x, (f x).length = m) : ∀ l : List α, (l.flatMap f).length = l.length * m
  | [] => by simp
  | x :: l => by rw [List.flatMap_cons, List.length_append, h, fm_size f m h l, List.length_cons, Nat.add_mul]; omega
theorem col_len (b : Bx) (l c : Int) : (colL b l c).length = wdN b.ly b.hy l := by unfold colL; rw [List.length_map, upI_len]
theorem lvl_len (b : Bx) (l : Int) : (lvlL b l).length = wdN b.lx b.hx l * wdN b.ly b.hy l := by
  unfold lvlL
  rw [fm_size _ _ (col_len b l), upI_len]
/-- where the cells of level number a begin -/
def kN (b : Bx) (Ls : List Int) (a : Nat) : Nat := (cellL b (Ls.take a)).length
theorem kN_all (b : Bx) (Ls : List Int) : kN b Ls Ls.length = (cellL b Ls).length := by unfold kN; rw [List.take_length]
theorem kN_succ (b : Bx) {Ls : List Int} {a : Nat} (h : a < Ls.length) : kN b Ls (a + 1) = kN b Ls a + wdN b.lx b.hx (Ls.getD a 0) * wdN b.ly b.hy (Ls.getD a 0) := by
  unfold kN cellL
  rw [List.take_add_one, List.flatMap_append, List.length_append, List.getD_eq_getElem?_getD, List.getElem?_eq_getElem h]
  simp [lvl_len]
theorem cell_at (b : Bx) {Ls : List Int} {a i j : Nat} (h : a < Ls.length) (hi : i < wdN b.lx b.hx (Ls.getD a 0)) (hj : j < wdN b.ly b.hy (Ls.getD a 0)) :
    (cellL b Ls)[kN b Ls a + (i * wdN b.ly b.hy (Ls.getD a 0) + j)]? = some (Ls.getD a 0, loN b.lx (Ls.getD a 0) + i, loN b.ly (Ls.getD a 0) + j) := by
  have e : cellL b Ls = cellL b (Ls.take a) ++ (lvlL b (Ls.getD a 0) ++ cellL b (Ls.drop (a + 1))) := by
    unfold cellL
    rw [← List.flatMap_cons, ← List.flatMap_append]
    congr 1
    rw [List.getD_eq_getElem?_getD, List.getElem?_eq_getElem h]
    simp
  generalize Ls.getD a 0 = l at *
  have lt : i * wdN b.ly b.hy l + j < wdN b.lx b.hx l * wdN b.ly b.hy l := by
    have := Nat.mul_le_mul_right (wdN b.ly b.hy l) (show i + 1 ≤ wdN b.lx b.hx l by omega)
    rw [Nat.add_mul] at this
    omega
  rw [e, List.getElem?_append_right (by unfold kN; omega), show kN b Ls a + (i * wdN b.ly b.hy l + j) - (cellL b (Ls.take a)).length = i * wdN b.ly b.hy l + j by unfold kN; omega, List.getElem?_append_left (by rw [lvl_len]; exact lt)]
  unfold lvlL
  rw [fm_flat _ _ 0 (col_len b l) _ _ _ (by rw [upI_len]; exact hi) hj, upI_at hi]
  unfold colL
  rw [List.getElem?_map]
  have u := upI_at (a := loN b.ly l) hj
  rw [List.getD_eq_getElem?_getD] at u
  rw [List.getElem?_eq_getElem (by rw [upI_len]; exact hj)] at u ⊢
  simp at u ⊢
  exact u
/-- block k is neither block mx nor the row of the list that it holds -/
def OfM (mx : Nat) (W : World) (k : Nat) : Prop := ∃ v, W.cell? ⟨mx, 0, none⟩ = some v ∧ (∀ q, v.ownBlock = some q → q < W.heap.size ∧ q ≠ k) ∧ k ≠ mx
/-- cells that are off block mx and its list's row are kept -/
def KpM (mx : Nat) (W W' : World) : Prop := W.heap.size ≤ W'.heap.size ∧ ∀ k o, W.heap[k]? = some o → o.isCells = true → OfM mx W k → W'.heap[k]? = some o ∧ OfM mx W' k
theorem KpM.trans {mx : Nat} {A B C : World} (h : KpM mx A B) (k : KpM mx B C) : KpM mx A C :=
  ⟨Nat.le_trans h.1 k.1, fun n o e c f => by
    obtain ⟨e2, f2⟩ := h.2 n o e c f
    exact k.2 n o e2 c f2⟩
theorem cell_lt {W : World} {n i : Nat} {v : Value} (h : W.cell? ⟨n, i, none⟩ = some v) : ∃ o, W.heap[n]? = some o ∧ o.isCells = true := by
  unfold World.cell? at h
  dsimp only at h
  cases e : W.heap[n]? with
  | none => rw [e] at h; cases h
  | some o => cases o <;> rw [e] at h <;> first | exact ⟨_, rfl, rfl⟩ | cases h
theorem OfM.below {mx k : Nat} {W W' : World} (h : OfM mx W k) (b : Below W.heap.size W W') : OfM mx W' k := by
  obtain ⟨v, c, q, n⟩ := h
  obtain ⟨o, ho, _⟩ := cell_lt c
  exact ⟨v, (b.cell (p := ⟨mx, 0, none⟩) (Array.getElem?_eq_some_iff.1 ho).1).trans c, fun g e => ⟨Nat.lt_of_lt_of_le (q g e).1 b.size, (q g e).2⟩, n⟩
/-- a block that is new is off -/
theorem OfM.new {mx k : Nat} {W : World} (h : OfM mx W k) {n : Nat} (hn : W.heap.size ≤ n) : OfM mx W n := by
  obtain ⟨v, c, q, _⟩ := h
  obtain ⟨o, ho, _⟩ := cell_lt c
  exact ⟨v, c, fun g e => ⟨(q g e).1, by have := (q g e).1; omega⟩, by have := (Array.getElem?_eq_some_iff.1 ho).1; omega⟩
theorem BW.kq {mx n : Nat} {W W' : World} {u : Value} {l : List Value} (B : BW W n (u :: l)) (k : KpM mx W W') (o : OfM mx W n) : BW W' n (u :: l) ∧ OfM mx W' n := by
  obtain ⟨ob, ho, hc⟩ := cell_lt (B.c 0 _ rfl)
  obtain ⟨e, o2⟩ := k.2 n ob ho hc o
  exact ⟨⟨fun i v h => by rw [← B.c i v h]; unfold World.cell?; dsimp only; rw [ho, e], fun j => by rw [← B.f j]; unfold World.frozen?; dsimp only; rw [ho, e], Nat.lt_of_lt_of_le B.lt k.1⟩, o2⟩
/-- what the iterator reads -/
structure NgW (mx n0 f base : Nat) (bv mv lv : Value) (b : Bx) (Ls : List Int) (W : World) : Prop where
  b0 : BW W n0 [.pointer (some ⟨f, 0, none⟩)]
  b1 : BW W (n0 + 1) [.int .i64 b.lx, .int .i64 b.ly, .int .i64 b.hx, .int .i64 b.hy]
  c : BW W f [bv, mv, lv]
  l : OB base W lv (inVs Ls)
  o0 : OfM mx W n0
  o1 : OfM mx W (n0 + 1)
  of : OfM mx W f
  ol : ∀ q, lv.ownBlock = some q → OfM mx W q
section
variable {mx n0 f base : Nat} {bv mv lv : Value} {b : Bx} {Ls : List Int} {W W' : World}
theorem NgW.below (S : NgW mx n0 f base bv mv lv b Ls W) (h : Below W.heap.size W W') : NgW mx n0 f base bv mv lv b Ls W' :=
  ⟨S.b0.below h S.b0.lt, S.b1.below h S.b1.lt, S.c.below h S.c.lt, S.l.below h, S.o0.below h, S.o1.below h, S.of.below h, fun q e => (S.ol q e).below h⟩
theorem ob_kq {xs : List Value} (o : OB base W lv xs) (hn : xs ≠ []) (k : KpM mx W W') (ho : ∀ q, lv.ownBlock = some q → OfM mx W q) : OB base W' lv xs ∧ ∀ q, lv.ownBlock = some q → OfM mx W' q := by
  obtain ⟨g, hg⟩ := ob_some o hn
  have o' := o
  rcases o with ⟨_, e⟩ | ⟨g', cap, rfl, _, hlt, _, _, hc, _⟩
  · exact absurd e hn
  · cases hg
    have hcap : 0 < cap := by
      rcases o' with ⟨e, _⟩ | ⟨_, _, e, _, _, h5, _⟩
      · cases e
      · cases e
        have := List.length_pos_iff.2 hn
        omega
    have c0 := hc 0 hcap
    obtain ⟨v, hv⟩ := Option.isSome_iff_exists.1 c0
    obtain ⟨ob, hob, hcc⟩ := cell_lt hv
    obtain ⟨e, o2⟩ := k.2 _ ob hob hcc (ho _ rfl)
    exact ⟨o'.same k.1 (fun q eq => by cases eq; rw [e, hob]), fun q eq => by cases eq; exact o2⟩
theorem NgW.kq (S : NgW mx n0 f base bv mv lv b Ls W) (h0 : Ls ≠ []) (k : KpM mx W W') : NgW mx n0 f base bv mv lv b Ls W' := by
  obtain ⟨a1, a2⟩ := S.b0.kq k S.o0
  obtain ⟨b1, b2⟩ := S.b1.kq k S.o1
  obtain ⟨c1, c2⟩ := S.c.kq k S.of
  obtain ⟨l1, l2⟩ := ob_kq S.l (inVs_nil h0) k S.ol
  exact ⟨a1, b1, c1, l1, a2, b2, c2, l2⟩
end
theorem fNeigh_any (f : Nat) (b : Bx) (w : World) :
    Calls Try.prog 47 #[.pointer (some ⟨f, 0, none⟩), .agg #[.int .i64 b.lx, .int .i64 b.ly, .int .i64 b.hx, .int .i64 b.hy]] w fun e w' => e = .returned (.func (.func 70) #[] #[.pointer (some ⟨w.heap.size, 0, none⟩), .pointer (some ⟨w.heap.size + 1, 0, none⟩)]) ∧ w' = (w.alloc (.cells #[.pointer (some ⟨f, 0, none⟩)] 36)).alloc (.cells #[.int .i64 b.lx, .int .i64 b.ly, .int .i64 b.hx, .int .i64 b.hy] 67) := by
  have hmf : ∀ (fn : Fn) (first cap : Array Value) (w : World), (Instr.makeFunc fn first cap).run Try.prog w = .ok (.func fn first cap) w := fun _ _ _ _ => rfl
  go_enter Try.func47, Try.ntmps47
  go_wp2
  go_ret
  exact ⟨rfl, rfl⟩
end Go.Proofs.Ytllkhgcokbpggaa
namespace Go.Proofs.Ytllkhgcokbpggaa
open Go.RowKit
set_option linter.unusedVariables false
set_option linter.unusedSimpArgs false
attribute [local go_sem] Oper.semAt_some

/-- a region that draws its order, walked by what holds behind each operation, up to where the rest goes on by hand -/
theorem nb_inv2 {P : Program} {md : Region.Mode} {ops : Array Oper} {Q : Exit → Act → World → Prop} {S : World → Prop} (I : Nat → Array Bool → Act → World → Prop) (m : Nat)
    (fin : ∀ listed a w, I 0 listed a w → wpAnyH P md ops Q S m listed a w)
    (some' : ∀ n listed a w, I (n + 1) listed a w → Region.ready md ops listed ≠ [])
    (step : ∀ n listed a w, I (n + 1) listed a w → ∀ i ∈ Region.ready md ops listed, (ops[i]?.isSome) = true ∧
      ∀ o, ops[i]? = some o → ∀ K' : Act → World → Prop, Shut (∀ a w, S w → I n (listed.setIfInBounds i true) a w → K' a w) → if Region.wanted o (yielded ops a.tmps) = true then Oper.wp P o a w K' Q else K' (a.put o.dst undef) w) :
    ∀ (n : Nat) (listed : Array Bool) (a : Act) (w : World), I n listed a w → wpAnyH P md ops Q S (m + n) listed a w
  | 0, listed, a, w, h => fin listed a w h
  | n + 1, listed, a, w, h => ⟨fun k => absurd k (some' n listed a w h), fun i hi => by
      obtain ⟨s, k⟩ := step n listed a w h i hi
      cases ho : ops[i]? with
      | none => rw [ho] at s; cases s
      | some o => exact wpOp_step ho (fun K' hK => k o ho K' (fun a w hS hI => hK a w ⟨hS, nb_inv2 I m fin some' step n _ a w hI⟩))⟩
theorem nb_all {l : List Nat} {P : Nat → Bool} {i : Nat} (h : l.all P = true) (hi : i ∈ l) : P i = true := List.all_eq_true.mp h i hi
/-- two blocks that come up in whatever order -/
structure Nb2 (B : Nat) (W : World) (p q : Bool) (x y : Value) : Prop where
  b : p = true → ∃ m, x = .pointer (some ⟨m, 0, none⟩) ∧ B ≤ m ∧ BW W m [.int .i64 0, .int .i64 0, .int .i64 0]
  c : q = true → ∃ m, y = .pointer (some ⟨m, 0, none⟩) ∧ B ≤ m ∧ BW W m [.int .i64 0, .int .i64 0, .int .i64 0]
  d : p = true → q = true → x ≠ y
  z : B ≤ W.heap.size
section
variable {B : Nat} {W W' : World} {p q : Bool} {x y : Value}
theorem Nb2.below (S : Nb2 B W p q x y) (h : Below W.heap.size W W') : Nb2 B W' p q x y :=
  ⟨fun e => by
    obtain ⟨m, a, c, v⟩ := S.b e
    exact ⟨m, a, c, v.below h v.lt⟩, fun e => by
    obtain ⟨m, a, c, v⟩ := S.c e
    exact ⟨m, a, c, v.below h v.lt⟩, S.d, Nat.le_trans S.z h.size⟩
theorem Nb2.add (S : Nb2 B W p q x y) (t : TypeId) : Nb2 B (W.alloc (.cells #[.int .i64 0, .int .i64 0, .int .i64 0] t)) true q (.pointer (some ⟨W.heap.size, 0, none⟩)) y := by
  have k := S.below ((Below.refl W.heap.size W).alloc (Nat.le_refl _) (.cells #[.int .i64 0, .int .i64 0, .int .i64 0] t))
  exact ⟨fun _ => ⟨_, rfl, S.z, BW.new W _ [_, _, _] t rfl⟩, k.c, fun _ h e => by
    obtain ⟨m, a, _, v⟩ := S.c h
    rw [a] at e; injection e with e; injection e with e; injection e with e
    have := v.lt; omega, k.z⟩
theorem Nb2.add' (S : Nb2 B W p q x y) (t : TypeId) : Nb2 B (W.alloc (.cells #[.int .i64 0, .int .i64 0, .int .i64 0] t)) p true x (.pointer (some ⟨W.heap.size, 0, none⟩)) := by
  have k := S.below ((Below.refl W.heap.size W).alloc (Nat.le_refl _) (.cells #[.int .i64 0, .int .i64 0, .int .i64 0] t))
  exact ⟨k.b, fun _ => ⟨_, rfl, S.z, BW.new W _ [_, _, _] t rfl⟩, fun h _ e => by
    obtain ⟨m, a, _, v⟩ := S.b h
    rw [a] at e; injection e with e; injection e with e; injection e with e
    have := v.lt; omega, k.z⟩
end
/-- which of both calls and both blocks have come up -/
def NbI (W0 : World) (T : Value → Value → Value → Value → Act) (v1 v2 : Value) (m : Nat) (listed : Array Bool) (a : Act) (W : World) : Prop :=
  ∃ (p3 p7 p8 p9 : Bool) (x22 x26 x6 x7 : Value), m = (!p3).toNat + (!p7).toNat + (!p8).toNat + (!p9).toNat ∧ (p7 = true → p3 = true) ∧ listed = #[true, true, true, p3, true, true, true, p7, p8, p9, false, false] ∧ a = T x22 x26 x6 x7 ∧
    Below W0.heap.size W0 W ∧ (p3 = true → x22 = v1) ∧ (p7 = true → x26 = v2) ∧ Nb2 W0.heap.size W p8 p9 x6 x7
/-- what the iterator reads, and both ends' cells -/
structure NbT (mx n0 f base : Nat) (bv mv lv : Value) (b : Bx) (Ls : List Int) (m6 m7 : Nat) (l6 l7 : Value × Value × Value) (W : World) : Prop where
  k : NgW mx n0 f base bv mv lv b Ls W
  b6 : BW W m6 [l6.1, l6.2.1, l6.2.2]
  b7 : BW W m7 [l7.1, l7.2.1, l7.2.2]
  o6 : OfM mx W m6
  o7 : OfM mx W m7
theorem NbT.kq {mx n0 f base : Nat} {bv mv lv : Value} {b : Bx} {Ls : List Int} {m6 m7 : Nat} {l6 l7 : Value × Value × Value} {W W' : World} (S : NbT mx n0 f base bv mv lv b Ls m6 m7 l6 l7 W) (h0 : Ls ≠ []) (k : KpM mx W W') : NbT mx n0 f base bv mv lv b Ls m6 m7 l6 l7 W' := by
  obtain ⟨a1, a2⟩ := S.b6.kq k S.o6
  obtain ⟨c1, c2⟩ := S.b7.kq k S.o7
  exact ⟨S.k.kq h0 k, a1, c1, a2, c2⟩
def encC (cs : List (Int × Int × Int)) (k : Nat) (_ : Unit) : Array Value := #[kV (cs.getD k (0, 0, 0))]
set_option maxRecDepth 100000 in
set_option maxHeartbeats 8000000 in
theorem fNeigh_seq (mx n0 f base : Nat) (bv mv lv : Value) (b : Bx) (Ls : List Int) (w0 : World) (hb : (-281749854617600 ≤ b.lx ∧ b.lx ≤ 281749854617600) ∧ (-281749854617600 ≤ b.ly ∧ b.ly ≤ 281749854617600) ∧ (-281749854617600 ≤ b.hx ∧ b.hx ≤ 281749854617600) ∧ -281749854617600 ≤ b.hy ∧ b.hy ≤ 281749854617600)
    (hL : ∀ l ∈ Ls, ∃ n : Nat, l = n ∧ n ≤ 60) (hn : Ls.length ≤ 2000) (K : NgW mx n0 f base bv mv lv b Ls w0) :
    SeqP Try.prog 70 #[.pointer (some ⟨n0, 0, none⟩), .pointer (some ⟨n0 + 1, 0, none⟩)] (encC (cellL b Ls)) (fun _ _ _ => True) (KpM mx) (cellL b Ls).length w0 := by
  intro l J W hW hJ hY h0
  have K0 := Lib.hid (show NgW mx n0 f base bv mv lv b Ls W from by
    have lt := K.b1.lt
    exact K.below hW)
  have J0 := Lib.hid (show J (kN b Ls 0) W from h0)
  have HJ := Lib.hid hJ
  have HY := Lib.hid hY
  have HL := Lib.hid hL
  have HB := Lib.hid hb
  have KA := Lib.hid (kN_all b Ls)
  rw [← KA.out] at hY ⊢
  clear K hW hJ h0 hL hb hY
  obtain ⟨la, lc, rfl⟩ := K0.out.l.form
  rw [inVs_len] at *
  generalize hnl : Ls.length = nl at *
  have NL := Lib.hid hnl
  clear hnl
  have e0 := K0.out.b0.c 0 _ rfl
  have e1 := K0.out.c.c 2 _ rfl
  go_enter Try.func70, Try.ntmps70
  go_wp2
  clear e0 e1
  go_loopw [15] (fun i wr => ∃ a : Nat, a ≤ nl ∧ i = .int .i64 a ∧ J (kN b Ls a) wr ∧ NgW mx n0 f base bv mv (.slice la nl lc) b Ls wr) (fun i _ => nl - (intOf i).toNat)
  case atStart => exact ⟨0, by omega, rfl, J0.out, K0.out⟩
  case round =>
    obtain ⟨a, ha, rfl, hJ1, hK1⟩ := hrel
    have J1 := Lib.hid hJ1
    have K1 := Lib.hid hK1
    clear hJ1 hK1 J0 K0
    by_cases hlt : a < nl
    rotate_left
    · have z1 : ¬ (a : Int) < (nl : Int) := by omega
      have e : a = nl := by omega
      subst e
      go_wp2
      go_end0
      exact ⟨⟨_, rfl⟩, J1.out⟩
    have z0 : (0 : Int) ≤ (a : Int) := by omega
    have z1 : (a : Int) < (nl : Int) := by omega
    have hLs : a < Ls.length := by rw [NL.out]; exact hlt
    obtain ⟨ln, hln, l60⟩ := HL.out (Ls.getD a 0) (by rw [List.getD_eq_getElem?_getD, List.getElem?_eq_getElem hLs]; exact List.getElem_mem hLs)
    obtain ⟨g, rfl, hrow⟩ : ∃ g, la = some ⟨g, 0, none⟩ ∧ ∀ W, OB base W (.slice la nl lc) (inVs Ls) → W.cell? ⟨g, a, none⟩ = some (.int .i64 ln) := by
      rcases K1.out.l with ⟨e, h0⟩ | ⟨g, cap, e, -⟩
      · have := congrArg List.length h0
        rw [inVs_len, NL.out] at this
        exact absurd this (by simp; omega)
      · cases e
        refine ⟨g, rfl, fun W h => ?_⟩
        rcases h with ⟨e, _⟩ | ⟨g', cap', e, _, _, _, _, _, _, hx⟩
        · cases e
        · cases e
          refine hx a _ ?_
          unfold inVs
          rw [List.getElem?_map, List.getElem?_eq_getElem hLs, ← hln, List.getD_eq_getElem?_getD, List.getElem?_eq_getElem hLs]
          rfl
    have HR := Lib.hid hrow
    have CA := Lib.hid (fun (i j : Nat) => cell_at b (i := i) (j := j) hLs)
    have KS := Lib.hid (kN_succ b hLs)
    rw [hln] at CA KS
    have W1 : loN b.lx (ln : Int) = b.lx / 2 ^ ln - 1 := rfl
    have e0 := HR.out _ K1.out.l
    clear hrow
    go_wp2_with fail
    clear e0
    have L0 : Ls ≠ [] := fun e => by rw [e] at hLs; exact absurd hLs (by simp)
    obtain ⟨wd, hwd⟩ : ∃ wd, wr.drew = wd := ⟨_, rfl⟩
    have J2 := Lib.hid (HJ.out _ _ _ J1.out (Below.refl wr.heap.size wr).drew)
    have K2 := Lib.hid (K1.out.below (Below.refl wr.heap.size wr).drew)
    have hbb := HB.out
    have VA := Lib.hid (fun W => fAt_any ln b.lx b.ly l60 ⟨by unfold In64; omega, by unfold In64; omega⟩ W)
    have VB := Lib.hid (fun W => fAt_any ln b.hx b.hy l60 ⟨by unfold In64; omega, by unfold In64; omega⟩ W)
    have KA1 : kV (atK ln b.lx b.ly) = .agg #[.int .i64 ln, .int .i64 (b.lx / 2 ^ ln), .int .i64 (b.ly / 2 ^ ln)] := rfl
    have KB1 : kV (atK ln b.hx b.hy) = .agg #[.int .i64 ln, .int .i64 (b.hx / 2 ^ ln), .int .i64 (b.hy / 2 ^ ln)] := rfl
    rw [KA1] at VA
    rw [KB1] at VB
    have SC := Lib.hid (fun (W : World) (h : Below wr.drew.heap.size wr.drew W) => show (W.cell? ⟨n0 + 1, 0, none⟩ = some (.int .i64 b.lx) ∧ W.cell? ⟨n0 + 1, 1, none⟩ = some (.int .i64 b.ly)) ∧ W.cell? ⟨n0 + 1, 2, none⟩ = some (.int .i64 b.hx) ∧ W.cell? ⟨n0 + 1, 3, none⟩ = some (.int .i64 b.hy) from by
      have B := K2.out.b1.below h K2.out.b1.lt
      exact ⟨⟨B.c 0 _ rfl, B.c 1 _ rfl⟩, B.c 2 _ rfl, B.c 3 _ rfl⟩)
    clear KA1 KB1 J1 K1
    refine wp_region_held_drew (S := fun W => (W.cell? ⟨n0 + 1, 0, none⟩ = some (.int .i64 b.lx) ∧ W.cell? ⟨n0 + 1, 1, none⟩ = some (.int .i64 b.ly)) ∧ W.cell? ⟨n0 + 1, 2, none⟩ = some (.int .i64 b.hx) ∧ W.cell? ⟨n0 + 1, 3, none⟩ = some (.int .i64 b.hy)) (by kernel_rfl) (SC.out _ (Below.refl _ _)) (fun hHeld => ?_)
    rw [hwd] at *
    clear hwd
    refine tkD 0 19 (v := ?_) ?_ hHeld ?_
    rotate_left 1
    (intro W hSw; (try dsimp only at hSw); go_simp; try with_reducible rfl)
    (try simp only [putA, putB, putC, putD])
    refine tkD 1 20 (v := ?_) ?_ hHeld ?_
    rotate_left 1
    (intro W hSw; (try dsimp only at hSw); go_simp; try with_reducible rfl)
    (try simp only [putA, putB, putC, putD])
    refine tkD 2 21 (v := ?_) ?_ hHeld ?_
    rotate_left 1
    (intro W hSw; (try dsimp only at hSw); go_simp; try with_reducible rfl)
    (try simp only [putA, putB, putC, putD])
    refine tkD 4 23 (v := ?_) ?_ hHeld ?_
    rotate_left 1
    (intro W hSw; (try dsimp only at hSw); go_simp; try with_reducible rfl)
    (try simp only [putA, putB, putC, putD])
    refine tkD 5 24 (v := ?_) ?_ hHeld ?_
    rotate_left 1
    (intro W hSw; (try dsimp only at hSw); go_simp; try with_reducible rfl)
    (try simp only [putA, putB, putC, putD])
    refine tkD 6 25 (v := ?_) ?_ hHeld ?_
    rotate_left 1
    (intro W hSw; (try dsimp only at hSw); go_simp; try with_reducible rfl)
    (try simp only [putA, putB, putC, putD])
    refine nb_inv2 (NbI wd (fun x22 x26 x6 x7 => ⟨#[.func (.yield l) #[] #[], .pointer (some ⟨n0, 0, none⟩), .pointer (some ⟨n0 + 1, 0, none⟩), undef, undef, .int .i64 ln, x6, x7, u8, u9, .pointer (some ⟨f, 0, none⟩), .pointer (some ⟨f, 0, none⟩), .pointer (some ⟨f, 2, none⟩), .slice (some ⟨g, 0, none⟩) nl lc, .int .i64 nl, .int .i64 a, .bool true, .pointer (some ⟨g, a, none⟩), .int .i64 ln, .int .i64 ln, .pointer (some ⟨n0 + 1, 0, none⟩), .agg #[.int .i64 b.lx, .int .i64 b.ly], x22, .int .i64 ln, .pointer (some ⟨n0 + 1, 2, none⟩), .agg #[.int .i64 b.hx, .int .i64 b.hy], x26, u27, u28, u29, u30, u31, u32, u33, u34, u35, u36, u37, u38, u39, u40, u41, u42, u43, u44, u45, u46, u47, u48, u49, u50, u51, u52], []⟩) (.agg #[.int .i64 ln, .int .i64 (b.lx / 2 ^ ln), .int .i64 (b.ly / 2 ^ ln)]) (.agg #[.int .i64 ln, .int .i64 (b.hx / 2 ^ ln), .int .i64 (b.hy / 2 ^ ln)])) 2 (fun listed a' W hI => ?_) (fun n' listed a' W hI => ?_) (fun n' listed a' W hI i' hi => ?_) 4 _ _ _ ⟨false, false, false, false, u22, u26, u6, u7, rfl, (by simp), rfl, rfl, Below.refl _ _, (by simp), (by simp), ⟨(by simp), (by simp), (by simp), Nat.le_refl _⟩⟩
    · obtain ⟨p3, p7, p8, p9, x22, x26, x6, x7, hn', h37, rfl, rfl, hZ, h1, h2, hA⟩ := hI
      have ha : p3 = true ∧ p7 = true ∧ p8 = true ∧ p9 = true := by
        clear hZ h1 h2 hA h37
        revert p9 p8 p7 p3
        decide
      obtain ⟨rfl, rfl, rfl, rfl⟩ := ha
      obtain rfl := h1 rfl
      obtain rfl := h2 rfl
      obtain ⟨m6, rfl, g6, B6⟩ := hA.b rfl
      obtain ⟨m7, rfl, g7, B7⟩ := hA.c rfl
      have ne : m6 ≠ m7 := fun e => hA.d rfl rfl (by rw [e])
      have Z0 := Lib.hid hZ
      have M6 := Lib.hid B6
      have M7 := Lib.hid B7
      clear hn' h37 hZ h1 h2 hA B6 B7
      have hHeld := SC.out _ Z0.out
      dsimp only
      refine wpAnyH_onlyD 10 (by kernel_rfl) (fun o ho K hK => ?_) (by kernel_rfl)
      simp only [List.getElem?_toArray, List.getElem?_cons_succ, List.getElem?_cons_zero, Option.some.injEq] at ho
      subst ho
      have r0 := M6.out.c 0 _ rfl
      have r1 := M6.out.c 1 _ rfl
      have r2 := M6.out.c 2 _ rfl
      have rf := M6.out.f
      go_simp
      have Z1 := Lib.hid (((Z0.out.setCell (p := ⟨m6, 0, none⟩) g6 (.int .i64 ln)).setCell (p := ⟨m6, 1, none⟩) g6 (.int .i64 (b.lx / 2 ^ ln))).setCell (p := ⟨m6, 2, none⟩) g6 (.int .i64 (b.ly / 2 ^ ln)))
      have N6 := Lib.hid (bw_put3 M6.out (.int .i64 ln) (.int .i64 (b.lx / 2 ^ ln)) (.int .i64 (b.ly / 2 ^ ln)))
      have N7 := Lib.hid (((M7.out.far ne 0 (.int .i64 ln)).far ne 1 (.int .i64 (b.lx / 2 ^ ln))).far ne 2 (.int .i64 (b.ly / 2 ^ ln)))
      refine hK.out _ _ (SC.out _ Z1.out) ?_
      clear hK K hHeld r0 r1 r2 rf M6 M7 Z0
      intro hHeld
      refine wpAnyH_onlyD 11 (by kernel_rfl) (fun o ho K hK => ?_) (by kernel_rfl)
      simp only [List.getElem?_toArray, List.getElem?_cons_succ, List.getElem?_cons_zero, Option.some.injEq] at ho
      subst ho
      have r0 := N7.out.c 0 _ rfl
      have r1 := N7.out.c 1 _ rfl
      have r2 := N7.out.c 2 _ rfl
      have rf := N7.out.f
      go_simp
      have Z2 := Lib.hid (((Z1.out.setCell (p := ⟨m7, 0, none⟩) g7 (.int .i64 ln)).setCell (p := ⟨m7, 1, none⟩) g7 (.int .i64 (b.hx / 2 ^ ln))).setCell (p := ⟨m7, 2, none⟩) g7 (.int .i64 (b.hy / 2 ^ ln)))
      have O7 := Lib.hid (bw_put3 N7.out (.int .i64 ln) (.int .i64 (b.hx / 2 ^ ln)) (.int .i64 (b.hy / 2 ^ ln)))
      have O6 := Lib.hid (((N6.out.far ne.symm 0 (.int .i64 ln)).far ne.symm 1 (.int .i64 (b.hx / 2 ^ ln))).far ne.symm 2 (.int .i64 (b.hy / 2 ^ ln)))
      refine hK.out _ _ (SC.out _ Z2.out) ?_
      clear hK K hHeld r0 r1 r2 rf N6 N7 Z1
      intro hHeld
      refine wpAnyH_done (by kernel_rfl) ?_ _
      clear hHeld SC VA VB
      have T0 := Lib.hid (NbT.mk (l6 := (.int .i64 ln, .int .i64 (b.lx / 2 ^ ln), .int .i64 (b.ly / 2 ^ ln))) (l7 := (.int .i64 ln, .int .i64 (b.hx / 2 ^ ln), .int .i64 (b.hy / 2 ^ ln))) (K2.out.below Z2.out) O6.out O7.out ((K2.out.o0.new g6).below Z2.out) ((K2.out.o0.new g7).below Z2.out))
      have J3 := Lib.hid (HJ.out _ _ _ J2.out Z2.out)
      clear Z2 O6 O7 K2 J2 ne g6 g7
      generalize World.setCell _ (⟨m7, 2, none⟩ : Addr) _ = wS at *
      have wC : wdN b.lx b.hx (ln : Int) = (b.hx / 2 ^ ln - b.lx / 2 ^ ln + 2).toNat := rfl
      have wR : wdN b.ly b.hy (ln : Int) = (b.hy / 2 ^ ln - b.ly / 2 ^ ln + 2).toNat := rfl
      have W2 : loN b.ly (ln : Int) = b.ly / 2 ^ ln - 1 := rfl
      have dx0 := div_in ln hbb.1 (by omega)
      have dy0 := div_in ln hbb.2.1 (by omega)
      have dx1 := div_in ln hbb.2.2.1 (by omega)
      have dy1 := div_in ln hbb.2.2.2 (by omega)
      rw [W1, W2] at CA
      clear hbb HB W1 W2
      generalize wdN b.lx b.hx (ln : Int) = NC at *
      generalize wdN b.ly b.hy (ln : Int) = NR at *
      generalize b.lx / 2 ^ ln = X0 at *
      generalize b.ly / 2 ^ ln = Y0 at *
      generalize b.hx / 2 ^ ln = X1 at *
      generalize b.hy / 2 ^ ln = Y1 at *
      generalize hk0 : kN b Ls a = k0 at *
      have BD := Lib.hid (And.intro (And.intro dx0 dy0) (And.intro (And.intro dx1 dy1) (And.intro wC wR)))
      have a1 := T0.out.b6.c 1 _ rfl
      dsimp only at a1
      have u1 : IntKind.i64.wrap (X0 - 1) = X0 - 1 := (wrap_in' (by unfold In64; omega)).1
      have u2 : wrap64 (X0 - 1) = X0 - 1 := (wrap_in' (by unfold In64; omega)).2
      clear wC wR dx0 dy0 dx1 dy1 hk0
      go_wp2
      clear a1 u1 u2
      go_loopw [8] (fun v wr => ∃ i : Nat, i ≤ NC ∧ v = .int .i64 (X0 - 1 + i) ∧ J (k0 + i * NR) wr ∧ NbT mx n0 f base bv mv (.slice (some ⟨g, 0, none⟩) nl lc) b Ls m6 m7 (.int .i64 ln, .int .i64 X0, .int .i64 Y0) (.int .i64 ln, .int .i64 X1, .int .i64 Y1) wr) (fun v _ => NC - (intOf v - (X0 - 1)).toNat)
      case atStart => exact ⟨0, by omega, by simp, by rw [Nat.zero_mul]; exact J3.out, T0.out⟩
      case round =>
        obtain ⟨i, hi, rfl, hJ4, hT4⟩ := hrel
        have J4 := Lib.hid hJ4
        have T4 := Lib.hid hT4
        clear hJ4 hT4 J3 T0
        have bd := BD.out
        have a1 := T4.out.b7.c 1 _ rfl
        dsimp only at a1
        by_cases hli : i < NC
        rotate_left
        · have y1 : ¬ (X0 - 1 + (i : Int) ≤ X1) := by omega
          have ei : i = NC := by omega
          subst ei
          rw [← KS.out] at J4
          go_wp2
          go_roundw
          case rel => exact ⟨a + 1, by omega, by go_num, J4.out, T4.out.k⟩
          case measure => simp [intOf]; omega
        have y1 : X0 - 1 + (i : Int) ≤ X1 := by omega
        have a2 := T4.out.b6.c 2 _ rfl
        dsimp only at a2
        have u1 : IntKind.i64.wrap (Y0 - 1) = Y0 - 1 := (wrap_in' (by unfold In64; omega)).1
        have u2 : wrap64 (Y0 - 1) = Y0 - 1 := (wrap_in' (by unfold In64; omega)).2
        clear bd
        go_wp2
        clear a1 a2 u1 u2
        go_loopw [9] (fun v wr => ∃ j : Nat, j ≤ NR ∧ v = .int .i64 (Y0 - 1 + j) ∧ J (k0 + (i * NR + j)) wr ∧ NbT mx n0 f base bv mv (.slice (some ⟨g, 0, none⟩) nl lc) b Ls m6 m7 (.int .i64 ln, .int .i64 X0, .int .i64 Y0) (.int .i64 ln, .int .i64 X1, .int .i64 Y1) wr) (fun v _ => NR - (intOf v - (Y0 - 1)).toNat)
        case atStart => exact ⟨0, by omega, by simp, J4.out, T4.out⟩
        case round =>
          obtain ⟨j, hj, rfl, hJ5, hT5⟩ := hrel
          have J5 := Lib.hid hJ5
          have T5 := Lib.hid hT5
          clear hJ5 hT5 J4 T4
          have bd := BD.out
          have a1 := T5.out.b7.c 2 _ rfl
          dsimp only at a1
          by_cases hlj : j < NR
          rotate_left
          · have y2 : ¬ (Y0 - 1 + (j : Int) ≤ Y1) := by omega
            have ej : j = NR := by omega
            subst ej
            have J6 := Lib.hid (show J (k0 + (i + 1) * j) _ from by rw [Nat.add_mul, Nat.one_mul]; exact J5.out)
            have u3 : IntKind.i64.wrap (X0 - 1 + i + 1) = X0 - 1 + i + 1 := (wrap_in' (by unfold In64; omega)).1
            have u4 : wrap64 (X0 - 1 + i + 1) = X0 - 1 + i + 1 := (wrap_in' (by unfold In64; omega)).2
            clear bd J5
            go_wp2
            go_roundw
            case rel => exact ⟨i + 1, by omega, by congr 1; omega, J6.out, T5.out⟩
            case measure => simp [intOf]; omega
          have y2 : Y0 - 1 + (j : Int) ≤ Y1 := by omega
          have ca := CA.out i j hli hlj
          have kl : k0 + (i * NR + j) < (cellL b Ls).length := by
            rcases Nat.lt_or_ge (k0 + (i * NR + j)) (cellL b Ls).length with h | h
            · exact h
            · rw [List.getElem?_eq_none h] at ca; cases ca
          have ec : encC (cellL b Ls) (k0 + (i * NR + j)) () = #[.agg #[.int .i64 ln, .int .i64 (X0 - 1 + i), .int .i64 (Y0 - 1 + j)]] := by
            unfold encC
            rw [List.getD_eq_getElem?_getD, ca]
            rfl
          obtain ⟨fn, ts, asg, bdy, hyy, hRR⟩ := HY.out (k0 + (i * NR + j)) () _ kl J5.out trivial
          rw [ec] at hyy
          have HR2 := Lib.hid hRR
          have u3 : IntKind.i64.wrap (Y0 - 1 + j + 1) = Y0 - 1 + j + 1 := (wrap_in' (by unfold In64; omega)).1
          have u4 : wrap64 (Y0 - 1 + j + 1) = Y0 - 1 + j + 1 := (wrap_in' (by unfold In64; omega)).2
          clear bd hRR ca ec J5
          refine (wpIn_wide (n := 2)).1 ?_
          gi_wp2
          refine HR2.out.mono ?_
          rintro e w5 ⟨rfl, hJ6, hK6⟩
          have J6 := Lib.hid hJ6
          have T6 := Lib.hid (T5.out.kq L0 hK6)
          clear hJ6 hK6 hyy HR2 a1 T5
          gi_wp2
          go_roundw
          case rel => exact ⟨j + 1, by omega, by congr 1; omega, J6.out, T6.out⟩
          case measure => simp [intOf]; omega
    · obtain ⟨p3, p7, p8, p9, x22, x26, x6, x7, hn', h37, rfl, rfl, hZ, h1, h2, hA⟩ := hI
      have hp : (p3 && p7 && p8 && p9) = false := by
        clear hZ h1 h2 hA
        cases p3 <;> cases p7 <;> cases p8 <;> cases p9 <;> first | rfl | (exfalso; simp at hn')
      clear hn' hZ h1 h2 hA
      revert hp h37
      revert p9 p8 p7 p3
      decide +kernel
    · obtain ⟨p3, p7, p8, p9, x22, x26, x6, x7, hn', h37, rfl, rfl, hZ, h1, h2, hA⟩ := hI
      have hp : (p3 && p7 && p8 && p9) = false := by
        clear hZ h1 h2 hA hi
        cases p3 <;> cases p7 <;> cases p8 <;> cases p9 <;> first | rfl | (exfalso; simp at hn')
      have ha := of_decide_eq_true (nb_all (P := fun i => decide ((i = 3 ∧ p3 = false) ∨ (i = 7 ∧ p7 = false ∧ p3 = true) ∨ (i = 8 ∧ p8 = false) ∨ (i = 9 ∧ p9 = false))) (by
        clear hi hn' hZ h1 h2 hA
        revert hp h37
        revert p9 p8 p7 p3
        decide +kernel) hi)
      have Z0 := Lib.hid hZ
      have H0 := Lib.hid hA
      have E1 := Lib.hid h1
      have E2 := Lib.hid h2
      have HP := Lib.hid h37
      clear hHeld hi hZ hA hp h1 h2 h37
      rcases ha with ⟨rfl, rfl⟩ | ⟨rfl, rfl, rfl⟩ | ⟨rfl, rfl⟩ | ⟨rfl, rfl⟩
      · skip
        refine ⟨by kernel_rfl, fun o ho K' hK => ?_⟩
        simp only [List.getElem?_toArray, List.getElem?_cons_succ, List.getElem?_cons_zero, Option.some.injEq] at ho
        subst ho
        go_simp
        refine (VA.out _).mono ?_
        rintro e w' ⟨rfl, h⟩
        go_wp2_with fail
        have Z1 := Z0.out.trans (h.mono Z0.out.size)
        exact hK.out _ _ (SC.out _ Z1) ⟨true, p7, p8, p9, _, x26, x6, x7, (by simp only [Bool.not_false, Bool.not_true, Bool.toNat_true, Bool.toNat_false] at hn' ⊢; omega), (fun _ => rfl), rfl, rfl, Z1, (fun _ => rfl), E2.out, H0.out.below h⟩
      · skip
        refine ⟨by kernel_rfl, fun o ho K' hK => ?_⟩
        simp only [List.getElem?_toArray, List.getElem?_cons_succ, List.getElem?_cons_zero, Option.some.injEq] at ho
        subst ho
        go_simp
        refine (VB.out _).mono ?_
        rintro e w' ⟨rfl, h⟩
        go_wp2_with fail
        have Z1 := Z0.out.trans (h.mono Z0.out.size)
        exact hK.out _ _ (SC.out _ Z1) ⟨true, true, p8, p9, x22, _, x6, x7, (by simp only [Bool.not_false, Bool.not_true, Bool.toNat_true, Bool.toNat_false] at hn' ⊢; omega), (fun _ => rfl), rfl, rfl, Z1, (fun _ => E1.out trivial), (fun _ => rfl), H0.out.below h⟩
      · skip
        refine ⟨by kernel_rfl, fun o ho K' hK => ?_⟩
        simp only [List.getElem?_toArray, List.getElem?_cons_succ, List.getElem?_cons_zero, Option.some.injEq] at ho
        subst ho
        go_simp
        have Z1 := Z0.out.alloc Z0.out.size (.cells #[.int .i64 0, .int .i64 0, .int .i64 0] 60)
        exact hK.out _ _ (SC.out _ Z1) ⟨p3, p7, true, p9, x22, x26, _, x7, (by simp only [Bool.not_false, Bool.not_true, Bool.toNat_true, Bool.toNat_false] at hn' ⊢; omega), HP.out, rfl, rfl, Z1, E1.out, E2.out, H0.out.add _⟩
      · skip
        refine ⟨by kernel_rfl, fun o ho K' hK => ?_⟩
        simp only [List.getElem?_toArray, List.getElem?_cons_succ, List.getElem?_cons_zero, Option.some.injEq] at ho
        subst ho
        go_simp
        have Z1 := Z0.out.alloc Z0.out.size (.cells #[.int .i64 0, .int .i64 0, .int .i64 0] 60)
        exact hK.out _ _ (SC.out _ Z1) ⟨p3, p7, p8, true, x22, x26, x6, _, (by simp only [Bool.not_false, Bool.not_true, Bool.toNat_true, Bool.toNat_false] at hn' ⊢; omega), HP.out, rfl, rfl, Z1, E1.out, E2.out, H0.out.add' _⟩
end Go.Proofs.Ytllkhgcokbpggaa
namespace Go.Proofs.Ytllkhgcokbpggaa
open Go.RowKit
set_option linter.unusedVariables false
set_option linter.unusedSimpArgs false
attribute [local go_sem] Oper.semAt_some

/-- a range whose variable lies in a box of its own: the round's first step may make blocks -/
theorem wp_rangeH {α : Type} {P : Program} {g : Operand} {ps : Array Tmp} {assign body : Code} {Q : Exit → Act → World → Prop} {a : Act} {w : World} {gf : Nat} {lb : Array Value} (hg : a.eval g = .func (.func gf) #[] lb)
    (eg : ∀ args w, (callFunc gf args).run P w = .ok (.enter gf args) w) {encs : Nat → α → Array Value} {Kp : World → World → Prop} {N : Nat} {w0 : World} (hseq : SeqP P gf lb encs (fun _ _ _ => True) Kp N w0) (hb0 : Below w0.heap.size w0 w)
    (hps : ∀ k x, (encs k x).size = ps.size) (hKt : ∀ {A B C : World}, Kp A B → Kp B C → Kp A C)
    (hB : ∀ (A : World) (o o' : Obj), A.heap[w.heap.size + 1]? = some o → o.isCells = false → Kp A (A.putObj (w.heap.size + 1) o'))
    (I : Nat → World → Prop) (hI : ∀ k A B, I k A → Below A.heap.size A B → I k B) (hI2 : ∀ k A o o', I k A → A.heap[w.heap.size + 1]? = some o → o.isCells = false → I k (A.putObj (w.heap.size + 1) o')) (h0 : I 0 w) (Ax : Nat → α → Act → World → Prop) (hAx : ∀ (k : Nat) (x : α) (a' : Act) (A : World) (o o' : Obj), Ax k x a' A → A.heap[w.heap.size + 1]? = some o → o.isCells = false → Ax k x a' (A.putObj (w.heap.size + 1) o')) (hKb : ∀ {A B : World}, Below A.heap.size A B → Kp A B)
    (hassign : ∀ (l k : Nat) (x : α) (W : World) (K : Act → World → Prop), k < N → I k W → (∀ a' W', Below W.heap.size W W' → Ax k x a' W' → K a' W') →
      assign.wpIn (Fence.wide.inRound l) 1 P (Exit.then K (fun _ _ _ => False)) { tmps := (ps.zip (encs k x)).foldl (fun t (p, v) => t.setIfInBounds p v) a.tmps, defers := [] } W)
    (hbody : ∀ (l k : Nat) (x : α) (a' : Act) (W : World), k < N → I k W → Ax k x a' W → body.wpIn (Fence.wide.inRound l) 1 P (onP Kp (I (k + 1)) W) a' W)
    (hdone : ∀ (D : Nat) (W : World), w.heap.size ≤ D → I N W → W.heap[D]? = some (.deferred (some [])) → Q .normal { a with defers := { target := .collected D, args := #[] } :: a.defers } W) :
    (Code.rangeFunc g ps assign body).wp P Q a w := by
  refine (wpIn_wide (n := 3)).1 (wpIn_rangeFunc ?_)
  intro fn _
  obtain ⟨L, hL⟩ : ∃ L, w.heap.size + 1 = L := ⟨_, rfl⟩
  rw [hL] at hB hAx hI2
  obtain ⟨rec, hrec⟩ : ∃ rec : LoopState → Loop, rec = fun st => { state := st, pending := none, fn, tmps := a.tmps, params := ps, assign, body, defers := w.heap.size } := ⟨_, rfl⟩
  obtain ⟨W1, hW1⟩ : ∃ W1, (w.alloc (.deferred (some []))).alloc (.loop (rec .ready)) = W1 := ⟨_, rfl⟩
  have hL1 : W1.heap[L]? = some (.loop (rec .ready)) := by
    rw [← hW1, ← hL]; have := World.alloc_heap_new (w.alloc (.deferred (some []))) (.loop (rec .ready)); rwa [World.size_alloc] at this
  have hD1 : W1.heap[w.heap.size]? = some (.deferred (some [])) := by
    rw [← hW1]; exact (Below.heap_alloc _ _ _ (by simp)).trans (World.alloc_heap_new w _)
  have hb1 : Below w.heap.size w W1 := by
    rw [← hW1]; exact ((Below.refl _ w).alloc (Nat.le_refl _) _).alloc (by simp) _
  refine ⟨L, [{ target := .collected w.heap.size, args := #[] }], W1, { target := .fn (.func gf) lb, args := #[.func (.yield L) #[] #[]] }, W1, gf, #[.func (.yield L) #[] #[]] ++ lb, W1, ?_, ?_, fun _ _ => trivial, ?_, fun h => (by simp [Fence.wide] at h), ?_⟩
  · rw [← hL, ← hW1, hrec]; exact run_enterLoop_outer _ _ _ _ _
  · simp only [resolve, hg]
    simp [go_sem]
  · simp [invoke, go_sem, eg]
  · refine callsIn_wide.2 ((hseq L (fun k W => I k W ∧ W.heap[L]? = some (.loop (rec .ready)) ∧ W.heap[w.heap.size]? = some (.deferred (some []))) W1 (hb0.trans (hb1.mono hb0.size)) (fun k A B h hAB => ?_) ?_ ⟨hI 0 w W1 h0 hb1, hL1, hD1⟩).mono ?_)
    · obtain ⟨h1, h2, h3⟩ := h
      exact ⟨hI k A B h1 hAB, (hAB.block L (Array.getElem?_eq_some_iff.1 h2).1).trans h2, (hAB.block _ (Array.getElem?_eq_some_iff.1 h3).1).trans h3⟩
    · rintro k x W hk ⟨hi, hl, hd⟩ hp
      have hlt : L < W.heap.size := (Array.getElem?_eq_some_iff.1 hl).1
      have hy := run_yield (P := P) (args := encs k x) hl (by rw [hrec]; exact hps k x)
      rw [hrec] at hy
      refine ⟨fn, _, assign, body, hy, roundIn_of_wpIn trivial (hassign L k x W _ hk hi (fun a' W' hbw hax => ⟨_, run_beginRound ((hbw.block L hlt).trans hl) (by rw [hrec]), ?_⟩))⟩
      have hl' := (hbw.block L hlt).trans hl
      have hlt' : L < W'.heap.size := (Array.getElem?_eq_some_iff.1 hl').1
      have hd' := (hbw.block w.heap.size (by omega)).trans hd
      have hl2 : (W'.putObj L (.loop { rec .ready with state := .busy })).heap[L]? = some (.loop { rec .ready with state := .busy }) := World.putObj_heap_same hlt'
      have hd2 : (W'.putObj L (.loop { rec .ready with state := .busy })).heap[w.heap.size]? = some (.deferred (some [])) := (World.putObj_heap_other (by omega)).trans hd'
      have hw2 : Kp W (W'.putObj L (.loop { rec .ready with state := .busy })) := hKt (hKb hbw) (hB _ _ _ hl' rfl)
      refine wpIn_mono (hbody L k x a' _ hk (hI2 k W' _ _ (hI k W W' hi hbw) hl' rfl) (hAx k x a' W' _ _ hax hl' rfl)) ?_
      rintro e a3 W3 hq
      cases e with
      | normal =>
        obtain ⟨hk3, hkp3, hi3⟩ := hq
        have hl3 := hk3.same _ _ hl2 rfl
        have hr := run_endRound (P := P) none hl3
        have er : ({ rec .ready with state := .ready, pending := none } : Loop) = rec .ready := by rw [hrec]
        refine ⟨_, _, hr, rfl, ⟨hI2 _ _ _ _ hi3 hl3 rfl, ?_, (World.putObj_heap_other (by omega)).trans (hk3.same _ _ hd2 rfl)⟩, hKt (hKt hw2 hkp3) (hB _ _ _ hl3 rfl)⟩
        rw [World.putObj_heap_same (Array.getElem?_eq_some_iff.1 hl3).1, ← er]
        rfl
      | ret => exact hq.elim
      | exit id => exact hq.elim
      | goto t => exact hq.elim
      | panic c => exact hq.elim
      | outgrown => exact hq.elim
    · rintro e W2 ⟨⟨v, rfl⟩, hi, hl, hd⟩
      have hr := run_endLoop (P := P) hl (by rw [hrec]; simp)
      refine ⟨none, _, by rw [hr, hrec], hdone _ _ (Nat.le_refl _) (hI2 _ _ _ _ hi hl rfl) ((World.putObj_heap_other (by omega)).trans hd)⟩
theorem ko_below {C : Nat} {W W' : World} (h : Below C W W') (hC : W.heap.size ≤ C) : KeepsOthers W W' :=
  ⟨h.size, fun k o hk _ => (h.block k (by have := (Array.getElem?_eq_some_iff.1 hk).1; omega)).trans hk⟩
def nb_noDefer (ops : Array Oper) : Bool := ops.all fun o => match o.op with | .defer _ => false | _ => true
theorem nb_noDefer_of {ops : Array Oper} (h : nb_noDefer ops = true) : ∀ (i : Nat) (o : Oper), ops[i]? = some o → ∀ c, o.op ≠ .defer c := by
  intro i o ho c hc
  unfold nb_noDefer at h
  rw [Array.all_eq_true] at h
  obtain ⟨hlt, he⟩ := Array.getElem?_eq_some_iff.1 ho
  have := h i hlt
  rw [he, hc] at this
  cases this
/-- append at an operation of a plain region, in a round -/
theorem wpListIn_ob {F : Fence} {n : Nat} {P : Program} {ops : Array Oper} {rest : List Oper} {o : Oper} {a : Act} {Q : Exit → Act → World → Prop} {w : World} (hgd : o.guard = none) (s x : Operand) (t tx : TypeId)
    (ho : o.op = .call { callee := .builtin .append, args := #[s, x], argTypes := #[t, tx] })
    {base : Nat} {v : Value} {xs : List Value} (T : TypeId) (i : TypeInfo) (z : Value) (ht : P.underlying t = some (.slice T)) (hi : P.info? T = some i) (hz : i.zero = some z)
    (hzs : z.cells.size = 1) (h1 : i.size = 1) (hby : i.bytes ≤ 8) (h : OB base w v xs) (hv : a.eval s = v) (xv : Value) (m : Nat) (news : List Value) (hx : a.eval x = xv) (hs : Src P 1 tx xv m news w) (hf : xs.length + m ≤ 1000000000) (hbase : base ≤ w.heap.size)
    (hK : ∀ v' w', OB base w' v' (xs ++ news) → w.grownBy w' v.ownBlock → (v'.ownBlock = v.ownBlock ∨ v'.ownBlock = some w.heap.size) → wpListIn F n P ops Q rest (a.put o.dst v') w') : wpListIn F n P ops Q (o :: rest) a w := by
  refine wpListIn_plain hgd fun K hK' => ?_
  obtain ⟨v', w', hrun, r1, r2, r3⟩ := ob_append (P := P) t tx o.type T i z ht hi hz hzs h1 hby h xv m news hs hf hbase
  unfold Oper.wpIn
  refine ⟨?_, ?_⟩
  · simp [Oper.about, ho, resolve, Target.leads, Sem.run_pure]
  · rw [Oper.semAt_plain F _ _ (by rw [ho]; intro c hc'; cases hc')]
    simp [execOp, ho, resolve, invoke, builtin, hv, hx, hrun, Result.andThen]
    exact hK' _ _ (hK v' w' r1 r2 r3)
theorem KpM.below {mx : Nat} {A B : World} (h : Below A.heap.size A B) : KpM mx A B :=
  ⟨h.size, fun k o e c f => ⟨(h.block k (Array.getElem?_eq_some_iff.1 e).1).trans e, f.below h⟩⟩
theorem KpM.put {mx n : Nat} {A : World} {o o' : Obj} (h : A.heap[n]? = some o) (hc : o.isCells = false) : KpM mx A (A.putObj n o') := by
  have s : (A.putObj n o').heap.size = A.heap.size := by simp [World.putObj]
  refine ⟨by rw [s]; exact Nat.le_refl _, fun k ob e c f => ?_⟩
  have ne : k ≠ n := fun e2 => by
    subst e2
    rw [h] at e; cases e
    rw [hc] at c; cases c
  refine ⟨(World.putObj_heap_other ne).trans e, ?_⟩
  obtain ⟨v, cv, q, nx⟩ := f
  obtain ⟨ov, hv, hvc⟩ := cell_lt cv
  have nm : mx ≠ n := fun e2 => by
    subst e2
    rw [h] at hv; cases hv
    rw [hc] at hvc; cases hvc
  refine ⟨v, ?_, fun g e2 => ⟨by rw [s]; exact (q g e2).1, (q g e2).2⟩, nx⟩
  rw [← cv]
  unfold World.cell?
  dsimp only
  rw [World.putObj_heap_other nm]
/-- the list in block mx is written anew -/
theorem KpM.app {mx : Nat} {W W2 : World} {v v' : Value} (hv : W.cell? ⟨mx, 0, none⟩ = some v) (g : W.grownBy W2 v.ownBlock) (c2 : W2.cell? ⟨mx, 0, none⟩ = some v) (ho : v'.ownBlock = v.ownBlock ∨ v'.ownBlock = some W.heap.size) (lt : ∀ q, v'.ownBlock = some q → q < W2.heap.size) : KpM mx W (W2.setCell ⟨mx, 0, none⟩ v') := by
  refine ⟨by rw [set_size]; exact g.size, fun k o e c f => ?_⟩
  obtain ⟨v0, c0, q, nx⟩ := f
  rw [hv] at c0
  cases c0
  have kl := (Array.getElem?_eq_some_iff.1 e).1
  have k2 : W2.heap[k]? = some o := (g.block k kl (fun e2 => (q k e2.symm).2 rfl)).trans e
  have k2l := (Array.getElem?_eq_some_iff.1 k2).1
  refine ⟨((grown_cel W2 mx 0 v').block k k2l (fun e2 => nx (by cases e2; rfl))).trans k2, v', World.cell?_setCell_same _ _ _ c2, fun b eb => ⟨by rw [set_size]; exact lt b eb, ?_⟩, nx⟩
  rcases ho with h | h
  · exact (q b (by rw [← h]; exact eb)).2
  · rw [h] at eb
    cases eb
    omega
end Go.Proofs.Ytllkhgcokbpggaa

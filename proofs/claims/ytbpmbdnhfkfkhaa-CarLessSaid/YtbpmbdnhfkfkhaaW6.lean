/- The program's Right of cars. -/
import Derived.Test.YtbpmbdnhfkfkhaaW5
import Derived.Test.YtbpmbdnhfkfkhaaZd
namespace Go.Proofs.Ytbpmbdnhfkfkhaa
open Go.RowKit
set_option linter.unusedVariables false
set_option linter.unusedSimpArgs false

/-- a wheel as a value -/
def wheelV (c : Cr) (i : Nat) : Value := .agg (wheelL (fun k => c.f (4 + i * 10 + k)) (c.p (12 + i * 10)) (c.p (13 + i * 10))).toArray
def regC (n : Nat) : Code → Option Code
  | .region k ops d => if k = n then some (.region k ops d) else none
  | .seq a b => match regC n a with
    | some c => some c
    | none => regC n b
  | .cond _ a b => match regC n a with
    | some c => some c
    | none => regC n b
  | .loop c => regC n c
  | .block _ c => regC n c
  | .scope c => regC n c
  | _ => none
def opsOf : Code → Array Oper
  | .region _ o _ => o
  | _ => #[]
/-- the region of the list of errors -/
noncomputable def crRg : Code := ((Try.f7.body.bind (regC 1)).getD .skip)
/-- fourteen errors as a list's elements -/
def erL (e : Nat → Int) : List Value := [.int .i64 (e 0), .int .i64 (e 1), .int .i64 (e 2), .int .i64 (e 3), .int .i64 (e 4), .int .i64 (e 5), .int .i64 (e 6), .int .i64 (e 7), .int .i64 (e 8), .int .i64 (e 9), .int .i64 (e 10), .int .i64 (e 11), .int .i64 (e 12), .int .i64 (e 13)]
/-- what the parts tell -/
structure CX (c : Cr) (B : Nat) (w : World) (e : Nat → Int) : Prop where
  x0 : ∀ W, CA w W B w.heap.size c → Calls Try.prog 13 #[.agg (carL c).toArray] W fun r w' => r = .returned (.int .i64 (e 0)) ∧ Below W.heap.size W w'
  x1 : ∀ W, CA w W B w.heap.size c → Calls Try.prog 14 #[wheelV c 0] W fun r w' => r = .returned (.int .i64 (e 1)) ∧ Below W.heap.size W w'
  x2 : ∀ W, CA w W B w.heap.size c → Calls Try.prog 14 #[wheelV c 1] W fun r w' => r = .returned (.int .i64 (e 2)) ∧ Below W.heap.size W w'
  x3 : ∀ W, CA w W B w.heap.size c → Calls Try.prog 14 #[wheelV c 2] W fun r w' => r = .returned (.int .i64 (e 3)) ∧ Below W.heap.size W w'
  x4 : ∀ W, CA w W B w.heap.size c → Calls Try.prog 14 #[wheelV c 3] W fun r w' => r = .returned (.int .i64 (e 4)) ∧ Below W.heap.size W w'
  x5 : ∀ W, CA w W B w.heap.size c → Calls Try.prog 15 #[.agg (carL c).toArray] W fun r w' => r = .returned (.int .i64 (e 5)) ∧ Below W.heap.size W w'
  x6 : ∀ W, CA w W B w.heap.size c → Calls Try.prog 16 #[.slice c.d.a c.d.n c.d.c] W fun r w' => r = .returned (.int .i64 (e 6)) ∧ Below W.heap.size W w'
  x7 : ∀ W, CA w W B w.heap.size c → Calls Try.prog 17 #[.agg #[.slice c.t.x.a c.t.x.n c.t.x.c, .slice c.t.y.a c.t.y.n c.t.y.c, .slice c.t.a c.t.n c.t.c]] W fun r w' => r = .returned (.int .i64 (e 7)) ∧ Below W.heap.size W w'
  x8 : ∀ W, CA w W B w.heap.size c → Calls Try.prog 18 #[.slice c.q.a c.q.n c.q.c] W fun r w' => r = .returned (.int .i64 (e 8)) ∧ Below W.heap.size W w'
  x9 : ∀ W, CA w W B w.heap.size c → Calls Try.prog 19 #[.slice c.r.a c.r.n c.r.c] W fun r w' => r = .returned (.int .i64 (e 9)) ∧ Below W.heap.size W w'
  x10 : ∀ W, CA w W B w.heap.size c → Calls Try.prog 20 #[.agg (carL c).toArray] W fun r w' => r = .returned (.int .i64 (e 10)) ∧ Below W.heap.size W w'
  x11 : ∀ W, CA w W B w.heap.size c → Calls Try.prog 21 #[.agg (carL c).toArray] W fun r w' => r = .returned (.int .i64 (e 11)) ∧ Below W.heap.size W w'
  x12 : ∀ W, CA w W B w.heap.size c → Calls Try.prog 22 #[.agg (carL c).toArray] W fun r w' => r = .returned (.int .i64 (e 12)) ∧ Below W.heap.size W w'
  x13 : ∀ W, CA w W B w.heap.size c → Calls Try.prog 23 #[.agg (carL c).toArray] W fun r w' => r = .returned (.int .i64 (e 13)) ∧ Below W.heap.size W w'
abbrev cS (c : Cr) (B : Nat) (w : World) : World → Prop := fun W => CA w W B w.heap.size c
/-- what is to follow -/
abbrev cFin (c : Cr) (B : Nat) (w : World) (e : Nat → Int) (Q : Exit → Act → World → Prop) : Prop := ∀ (W : World) (m : Nat), CA w W B w.heap.size c → BW W m (erL e) → w.heap.size < m → ∀ (u5 u6 u9 u10 u13 u14 u17 u18 u21 u22 u27 u30 u33 u36 u48 u49 u50 u51 u52 u53 u54 u55 u56 u57 : Value), Q .normal ⟨#[.agg (carL c).toArray, .pointer (some ⟨w.heap.size, 0, none⟩), .int .i64 0, .int .i64 0, .pointer (some ⟨m, 0, none⟩), u5, u6, .agg (carL c).toArray, .int .i64 (e 0), u9, u10, wheelV c 0, .int .i64 (e 1), u13, u14, wheelV c 1, .int .i64 (e 2), u17, u18, wheelV c 2, .int .i64 (e 3), u21, u22, wheelV c 3, .int .i64 (e 4), .agg (carL c).toArray, .int .i64 (e 5), u27, .slice c.d.a c.d.n c.d.c, .int .i64 (e 6), u30, .agg #[.slice c.t.x.a c.t.x.n c.t.x.c, .slice c.t.y.a c.t.y.n c.t.y.c, .slice c.t.a c.t.n c.t.c], .int .i64 (e 7), u33, .slice c.q.a c.q.n c.q.c, .int .i64 (e 8), u36, .slice c.r.a c.r.n c.r.c, .int .i64 (e 9), .agg (carL c).toArray, .int .i64 (e 10), .agg (carL c).toArray, .int .i64 (e 11), .agg (carL c).toArray, .int .i64 (e 12), .agg (carL c).toArray, .int .i64 (e 13), .agg (erL e).toArray, u48, u49, u50, u51, u52, u53, u54, u55, u56, u57], []⟩ W
theorem below_setC {B g : Nat} (hg : B ≤ g) : ∀ (vs : List Value) (o : Nat) (w : World), Below B w (w.setCells g o vs)
  | [], _, w => Below.refl B w
  | v :: r, o, w => ((Below.refl B w).setCell (p := ⟨g, o, none⟩) hg v).trans (below_setC hg r (o + 1) _)
theorem BW.there {W : World} {m : Nat} {l : List Value} (K : BW W m l) : W.there m 0 l.length := fun j hj => by
  rw [Nat.zero_add]
  exact ⟨by rw [K.c j _ (List.getElem?_eq_getElem hj)]; rfl, K.f j⟩
theorem BW.store {W : World} {m : Nat} {l l' : List Value} (K : BW W m l) (h : l'.length = l.length) : BW (W.setCells m 0 l') m l' :=
  ⟨fun j v hv => by
    have := W.rangeAt_setCells_same m 0 l' (by rw [h]; exact K.there) j v hv
    rw [Nat.zero_add] at this
    exact this, fun j => (World.frozen?_setCells _ _ _ _ _).trans (K.f j), by rw [size_setC]; exact K.lt⟩
def zrL : List Value := [.int .i64 0, .int .i64 0, .int .i64 0, .int .i64 0, .int .i64 0, .int .i64 0, .int .i64 0, .int .i64 0, .int .i64 0, .int .i64 0, .int .i64 0, .int .i64 0, .int .i64 0, .int .i64 0]
set_option maxRecDepth 100000 in
set_option maxHeartbeats 4000000 in
theorem ra_15 (c : Cr) (B : Nat) (w : World) (e : Nat → Int) (Q : Exit → Act → World → Prop) (X : CX c B w e) (fin : cFin c B w e Q) (W : World) (m : Nat) (H : CA w W B w.heap.size c) (Z : BW W m zrL) (hm : w.heap.size < m) (u5 u6 u9 u10 u13 u14 u17 u18 u21 u22 u27 u30 u33 u36 u48 u49 u50 u51 u52 u53 u54 u55 u56 u57 : Value) :
    wpAnyH Try.prog .any (opsOf crRg) Q (cS c B w) 1 #[true, true, true, true, true, true, true, true, true, true, true, true, true, true, true, true, true, true, true, true, true, true, true, true, true, true, true, true, true, true, true, true, true, true, true, true, true, true, true, true, true, true, false] ⟨#[.agg (carL c).toArray, .pointer (some ⟨w.heap.size, 0, none⟩), .int .i64 0, .int .i64 0, .pointer (some ⟨m, 0, none⟩), u5, u6, .agg (carL c).toArray, .int .i64 (e 0), u9, u10, wheelV c 0, .int .i64 (e 1), u13, u14, wheelV c 1, .int .i64 (e 2), u17, u18, wheelV c 2, .int .i64 (e 3), u21, u22, wheelV c 3, .int .i64 (e 4), .agg (carL c).toArray, .int .i64 (e 5), u27, .slice c.d.a c.d.n c.d.c, .int .i64 (e 6), u30, .agg #[.slice c.t.x.a c.t.x.n c.t.x.c, .slice c.t.y.a c.t.y.n c.t.y.c, .slice c.t.a c.t.n c.t.c], .int .i64 (e 7), u33, .slice c.q.a c.q.n c.q.c, .int .i64 (e 8), u36, .slice c.r.a c.r.n c.r.c, .int .i64 (e 9), .agg (carL c).toArray, .int .i64 (e 10), .agg (carL c).toArray, .int .i64 (e 11), .agg (carL c).toArray, .int .i64 (e 12), .agg (carL c).toArray, .int .i64 (e 13), .agg (erL e).toArray, u48, u49, u50, u51, u52, u53, u54, u55, u56, u57], []⟩ W := by
  conv => arg 3; arg 1; whnf
  dsimp only [opsOf]
  refine wpAnyH_onlyD 42 (by kernel_rfl) (fun o ho K hK => ?_) (by kernel_rfl)
  simp only [List.getElem?_toArray, List.getElem?_cons_succ, List.getElem?_cons_zero, Option.some.injEq] at ho
  subst ho
  rw [if_pos (by rfl)]
  refine wp_store_mid 51 (.tmp 4) (.tmp 47) rfl m 0 (erL e).toArray rfl rfl Z.there (by kernel_rfl) (all_oneCell_toArray (one_ints .i64 [e 0, e 1, e 2, e 3, e 4, e 5, e 6, e 7, e 8, e 9, e 10, e 11, e 12, e 13])) ?_
  have H1 := H.stepB (below_setC (show w.heap.size + 1 ≤ m by omega) (erL e) 0 W) (by omega) (by omega)
  have Z1 := Z.store (l' := erL e) rfl
  refine hK.out _ _ H1 ?_
  clear hK K
  intro hHeld
  refine wpAnyH_done (by kernel_rfl) ?_ _
  exact fin _ m H1 Z1 hm _ _ _ _ _ _ _ _ _ _ _ _ _ _ _ _ _ _ _ _ _ _ _ _
set_option maxRecDepth 100000 in
set_option maxHeartbeats 4000000 in
theorem ra_14 (c : Cr) (B : Nat) (w : World) (e : Nat → Int) (Q : Exit → Act → World → Prop) (X : CX c B w e) (fin : cFin c B w e Q) (W : World) (m : Nat) (H : CA w W B w.heap.size c) (Z : BW W m zrL) (hm : w.heap.size < m) (u5 u6 u9 u10 u13 u14 u17 u18 u21 u22 u27 u30 u33 u36 u47 u48 u49 u50 u51 u52 u53 u54 u55 u56 u57 : Value) :
    wpAnyH Try.prog .any (opsOf crRg) Q (cS c B w) 2 #[true, true, true, true, true, true, true, true, true, true, true, true, true, true, true, true, true, true, true, true, true, true, true, true, true, true, true, true, true, true, true, true, true, true, true, true, true, true, true, true, false, true, false] ⟨#[.agg (carL c).toArray, .pointer (some ⟨w.heap.size, 0, none⟩), .int .i64 0, .int .i64 0, .pointer (some ⟨m, 0, none⟩), u5, u6, .agg (carL c).toArray, .int .i64 (e 0), u9, u10, wheelV c 0, .int .i64 (e 1), u13, u14, wheelV c 1, .int .i64 (e 2), u17, u18, wheelV c 2, .int .i64 (e 3), u21, u22, wheelV c 3, .int .i64 (e 4), .agg (carL c).toArray, .int .i64 (e 5), u27, .slice c.d.a c.d.n c.d.c, .int .i64 (e 6), u30, .agg #[.slice c.t.x.a c.t.x.n c.t.x.c, .slice c.t.y.a c.t.y.n c.t.y.c, .slice c.t.a c.t.n c.t.c], .int .i64 (e 7), u33, .slice c.q.a c.q.n c.q.c, .int .i64 (e 8), u36, .slice c.r.a c.r.n c.r.c, .int .i64 (e 9), .agg (carL c).toArray, .int .i64 (e 10), .agg (carL c).toArray, .int .i64 (e 11), .agg (carL c).toArray, .int .i64 (e 12), .agg (carL c).toArray, .int .i64 (e 13), u47, u48, u49, u50, u51, u52, u53, u54, u55, u56, u57], []⟩ W := by
  conv => arg 3; arg 1; whnf
  dsimp only [opsOf]
  refine wpAnyH_onlyD 40 (by kernel_rfl) (fun o ho K hK => ?_) (by kernel_rfl)
  simp only [List.getElem?_toArray, List.getElem?_cons_succ, List.getElem?_cons_zero, Option.some.injEq] at ho
  subst ho
  go_simp
  refine hK.out _ _ H ?_
  intro hHeld
  exact ra_15 c B w e Q X fin W m H Z hm _ _ _ _ _ _ _ _ _ _ _ _ _ _ _ _ _ _ _ _ _ _ _ _
set_option maxRecDepth 100000 in
set_option maxHeartbeats 4000000 in
theorem ra_13 (c : Cr) (B : Nat) (w : World) (e : Nat → Int) (Q : Exit → Act → World → Prop) (X : CX c B w e) (fin : cFin c B w e Q) (W : World) (m : Nat) (H : CA w W B w.heap.size c) (Z : BW W m zrL) (hm : w.heap.size < m) (u5 u6 u9 u10 u13 u14 u17 u18 u21 u22 u27 u30 u33 u36 u46 u47 u48 u49 u50 u51 u52 u53 u54 u55 u56 u57 : Value) :
    wpAnyH Try.prog .any (opsOf crRg) Q (cS c B w) 3 #[true, true, true, true, true, true, true, true, true, true, true, true, true, true, true, true, true, true, true, true, true, true, true, true, true, true, true, true, true, true, true, true, true, true, true, true, true, true, true, false, false, true, false] ⟨#[.agg (carL c).toArray, .pointer (some ⟨w.heap.size, 0, none⟩), .int .i64 0, .int .i64 0, .pointer (some ⟨m, 0, none⟩), u5, u6, .agg (carL c).toArray, .int .i64 (e 0), u9, u10, wheelV c 0, .int .i64 (e 1), u13, u14, wheelV c 1, .int .i64 (e 2), u17, u18, wheelV c 2, .int .i64 (e 3), u21, u22, wheelV c 3, .int .i64 (e 4), .agg (carL c).toArray, .int .i64 (e 5), u27, .slice c.d.a c.d.n c.d.c, .int .i64 (e 6), u30, .agg #[.slice c.t.x.a c.t.x.n c.t.x.c, .slice c.t.y.a c.t.y.n c.t.y.c, .slice c.t.a c.t.n c.t.c], .int .i64 (e 7), u33, .slice c.q.a c.q.n c.q.c, .int .i64 (e 8), u36, .slice c.r.a c.r.n c.r.c, .int .i64 (e 9), .agg (carL c).toArray, .int .i64 (e 10), .agg (carL c).toArray, .int .i64 (e 11), .agg (carL c).toArray, .int .i64 (e 12), .agg (carL c).toArray, u46, u47, u48, u49, u50, u51, u52, u53, u54, u55, u56, u57], []⟩ W := by
  conv => arg 3; arg 1; whnf
  dsimp only [opsOf]
  refine onlD 39 (fun K hK => ?_)
  go_simp
  refine (X.x13 W H).mono ?_
  rintro r w1 ⟨rfl, h⟩
  have H1 := H.step h
  have Z1 := Z.below h Z.lt
  go_wp2_with fail
  refine hK.out _ _ H1 ?_
  intro hHeld
  exact ra_14 c B w e Q X fin w1 m H1 Z1 hm _ _ _ _ _ _ _ _ _ _ _ _ _ _ _ _ _ _ _ _ _ _ _ _ _
set_option maxRecDepth 100000 in
set_option maxHeartbeats 4000000 in
theorem ra_12 (c : Cr) (B : Nat) (w : World) (e : Nat → Int) (Q : Exit → Act → World → Prop) (X : CX c B w e) (fin : cFin c B w e Q) (W : World) (m : Nat) (H : CA w W B w.heap.size c) (Z : BW W m zrL) (hm : w.heap.size < m) (u5 u6 u9 u10 u13 u14 u17 u18 u21 u22 u27 u30 u33 u36 u44 u46 u47 u48 u49 u50 u51 u52 u53 u54 u55 u56 u57 : Value) :
    wpAnyH Try.prog .any (opsOf crRg) Q (cS c B w) 4 #[true, true, true, true, true, true, true, true, true, true, true, true, true, true, true, true, true, true, true, true, true, true, true, true, true, true, true, true, true, true, true, true, true, true, true, true, true, false, true, false, false, true, false] ⟨#[.agg (carL c).toArray, .pointer (some ⟨w.heap.size, 0, none⟩), .int .i64 0, .int .i64 0, .pointer (some ⟨m, 0, none⟩), u5, u6, .agg (carL c).toArray, .int .i64 (e 0), u9, u10, wheelV c 0, .int .i64 (e 1), u13, u14, wheelV c 1, .int .i64 (e 2), u17, u18, wheelV c 2, .int .i64 (e 3), u21, u22, wheelV c 3, .int .i64 (e 4), .agg (carL c).toArray, .int .i64 (e 5), u27, .slice c.d.a c.d.n c.d.c, .int .i64 (e 6), u30, .agg #[.slice c.t.x.a c.t.x.n c.t.x.c, .slice c.t.y.a c.t.y.n c.t.y.c, .slice c.t.a c.t.n c.t.c], .int .i64 (e 7), u33, .slice c.q.a c.q.n c.q.c, .int .i64 (e 8), u36, .slice c.r.a c.r.n c.r.c, .int .i64 (e 9), .agg (carL c).toArray, .int .i64 (e 10), .agg (carL c).toArray, .int .i64 (e 11), .agg (carL c).toArray, u44, .agg (carL c).toArray, u46, u47, u48, u49, u50, u51, u52, u53, u54, u55, u56, u57], []⟩ W := by
  conv => arg 3; arg 1; whnf
  dsimp only [opsOf]
  refine onlD 37 (fun K hK => ?_)
  go_simp
  refine (X.x12 W H).mono ?_
  rintro r w1 ⟨rfl, h⟩
  have H1 := H.step h
  have Z1 := Z.below h Z.lt
  go_wp2_with fail
  refine hK.out _ _ H1 ?_
  intro hHeld
  exact ra_13 c B w e Q X fin w1 m H1 Z1 hm _ _ _ _ _ _ _ _ _ _ _ _ _ _ _ _ _ _ _ _ _ _ _ _ _ _
set_option maxRecDepth 100000 in
set_option maxHeartbeats 4000000 in
theorem ra_11 (c : Cr) (B : Nat) (w : World) (e : Nat → Int) (Q : Exit → Act → World → Prop) (X : CX c B w e) (fin : cFin c B w e Q) (W : World) (m : Nat) (H : CA w W B w.heap.size c) (Z : BW W m zrL) (hm : w.heap.size < m) (u5 u6 u9 u10 u13 u14 u17 u18 u21 u22 u27 u30 u33 u36 u42 u44 u46 u47 u48 u49 u50 u51 u52 u53 u54 u55 u56 u57 : Value) :
    wpAnyH Try.prog .any (opsOf crRg) Q (cS c B w) 5 #[true, true, true, true, true, true, true, true, true, true, true, true, true, true, true, true, true, true, true, true, true, true, true, true, true, true, true, true, true, true, true, true, true, true, true, false, true, false, true, false, false, true, false] ⟨#[.agg (carL c).toArray, .pointer (some ⟨w.heap.size, 0, none⟩), .int .i64 0, .int .i64 0, .pointer (some ⟨m, 0, none⟩), u5, u6, .agg (carL c).toArray, .int .i64 (e 0), u9, u10, wheelV c 0, .int .i64 (e 1), u13, u14, wheelV c 1, .int .i64 (e 2), u17, u18, wheelV c 2, .int .i64 (e 3), u21, u22, wheelV c 3, .int .i64 (e 4), .agg (carL c).toArray, .int .i64 (e 5), u27, .slice c.d.a c.d.n c.d.c, .int .i64 (e 6), u30, .agg #[.slice c.t.x.a c.t.x.n c.t.x.c, .slice c.t.y.a c.t.y.n c.t.y.c, .slice c.t.a c.t.n c.t.c], .int .i64 (e 7), u33, .slice c.q.a c.q.n c.q.c, .int .i64 (e 8), u36, .slice c.r.a c.r.n c.r.c, .int .i64 (e 9), .agg (carL c).toArray, .int .i64 (e 10), .agg (carL c).toArray, u42, .agg (carL c).toArray, u44, .agg (carL c).toArray, u46, u47, u48, u49, u50, u51, u52, u53, u54, u55, u56, u57], []⟩ W := by
  conv => arg 3; arg 1; whnf
  dsimp only [opsOf]
  refine onlD 35 (fun K hK => ?_)
  go_simp
  refine (X.x11 W H).mono ?_
  rintro r w1 ⟨rfl, h⟩
  have H1 := H.step h
  have Z1 := Z.below h Z.lt
  go_wp2_with fail
  refine hK.out _ _ H1 ?_
  intro hHeld
  exact ra_12 c B w e Q X fin w1 m H1 Z1 hm _ _ _ _ _ _ _ _ _ _ _ _ _ _ _ _ _ _ _ _ _ _ _ _ _ _ _
set_option maxRecDepth 100000 in
set_option maxHeartbeats 4000000 in
theorem ra_10 (c : Cr) (B : Nat) (w : World) (e : Nat → Int) (Q : Exit → Act → World → Prop) (X : CX c B w e) (fin : cFin c B w e Q) (W : World) (m : Nat) (H : CA w W B w.heap.size c) (Z : BW W m zrL) (hm : w.heap.size < m) (u5 u6 u9 u10 u13 u14 u17 u18 u21 u22 u27 u30 u33 u36 u40 u42 u44 u46 u47 u48 u49 u50 u51 u52 u53 u54 u55 u56 u57 : Value) :
    wpAnyH Try.prog .any (opsOf crRg) Q (cS c B w) 6 #[true, true, true, true, true, true, true, true, true, true, true, true, true, true, true, true, true, true, true, true, true, true, true, true, true, true, true, true, true, true, true, true, true, false, true, false, true, false, true, false, false, true, false] ⟨#[.agg (carL c).toArray, .pointer (some ⟨w.heap.size, 0, none⟩), .int .i64 0, .int .i64 0, .pointer (some ⟨m, 0, none⟩), u5, u6, .agg (carL c).toArray, .int .i64 (e 0), u9, u10, wheelV c 0, .int .i64 (e 1), u13, u14, wheelV c 1, .int .i64 (e 2), u17, u18, wheelV c 2, .int .i64 (e 3), u21, u22, wheelV c 3, .int .i64 (e 4), .agg (carL c).toArray, .int .i64 (e 5), u27, .slice c.d.a c.d.n c.d.c, .int .i64 (e 6), u30, .agg #[.slice c.t.x.a c.t.x.n c.t.x.c, .slice c.t.y.a c.t.y.n c.t.y.c, .slice c.t.a c.t.n c.t.c], .int .i64 (e 7), u33, .slice c.q.a c.q.n c.q.c, .int .i64 (e 8), u36, .slice c.r.a c.r.n c.r.c, .int .i64 (e 9), .agg (carL c).toArray, u40, .agg (carL c).toArray, u42, .agg (carL c).toArray, u44, .agg (carL c).toArray, u46, u47, u48, u49, u50, u51, u52, u53, u54, u55, u56, u57], []⟩ W := by
  conv => arg 3; arg 1; whnf
  dsimp only [opsOf]
  refine onlD 33 (fun K hK => ?_)
  go_simp
  refine (X.x10 W H).mono ?_
  rintro r w1 ⟨rfl, h⟩
  have H1 := H.step h
  have Z1 := Z.below h Z.lt
  go_wp2_with fail
  refine hK.out _ _ H1 ?_
  intro hHeld
  exact ra_11 c B w e Q X fin w1 m H1 Z1 hm _ _ _ _ _ _ _ _ _ _ _ _ _ _ _ _ _ _ _ _ _ _ _ _ _ _ _ _
set_option maxRecDepth 100000 in
set_option maxHeartbeats 4000000 in
theorem ra_9 (c : Cr) (B : Nat) (w : World) (e : Nat → Int) (Q : Exit → Act → World → Prop) (X : CX c B w e) (fin : cFin c B w e Q) (W : World) (m : Nat) (H : CA w W B w.heap.size c) (Z : BW W m zrL) (hm : w.heap.size < m) (u5 u6 u9 u10 u13 u14 u17 u18 u21 u22 u27 u30 u33 u36 u38 u40 u42 u44 u46 u47 u48 u49 u50 u51 u52 u53 u54 u55 u56 u57 : Value) :
    wpAnyH Try.prog .any (opsOf crRg) Q (cS c B w) 7 #[true, true, true, true, true, true, true, true, true, true, true, true, true, true, true, true, true, true, true, true, true, true, true, true, true, true, true, true, true, true, true, false, true, false, true, false, true, false, true, false, false, true, false] ⟨#[.agg (carL c).toArray, .pointer (some ⟨w.heap.size, 0, none⟩), .int .i64 0, .int .i64 0, .pointer (some ⟨m, 0, none⟩), u5, u6, .agg (carL c).toArray, .int .i64 (e 0), u9, u10, wheelV c 0, .int .i64 (e 1), u13, u14, wheelV c 1, .int .i64 (e 2), u17, u18, wheelV c 2, .int .i64 (e 3), u21, u22, wheelV c 3, .int .i64 (e 4), .agg (carL c).toArray, .int .i64 (e 5), u27, .slice c.d.a c.d.n c.d.c, .int .i64 (e 6), u30, .agg #[.slice c.t.x.a c.t.x.n c.t.x.c, .slice c.t.y.a c.t.y.n c.t.y.c, .slice c.t.a c.t.n c.t.c], .int .i64 (e 7), u33, .slice c.q.a c.q.n c.q.c, .int .i64 (e 8), u36, .slice c.r.a c.r.n c.r.c, u38, .agg (carL c).toArray, u40, .agg (carL c).toArray, u42, .agg (carL c).toArray, u44, .agg (carL c).toArray, u46, u47, u48, u49, u50, u51, u52, u53, u54, u55, u56, u57], []⟩ W := by
  conv => arg 3; arg 1; whnf
  dsimp only [opsOf]
  refine onlD 31 (fun K hK => ?_)
  go_simp
  refine (X.x9 W H).mono ?_
  rintro r w1 ⟨rfl, h⟩
  have H1 := H.step h
  have Z1 := Z.below h Z.lt
  go_wp2_with fail
  refine hK.out _ _ H1 ?_
  intro hHeld
  exact ra_10 c B w e Q X fin w1 m H1 Z1 hm _ _ _ _ _ _ _ _ _ _ _ _ _ _ _ _ _ _ _ _ _ _ _ _ _ _ _ _ _
set_option maxRecDepth 100000 in
set_option maxHeartbeats 4000000 in
theorem ra_8 (c : Cr) (B : Nat) (w : World) (e : Nat → Int) (Q : Exit → Act → World → Prop) (X : CX c B w e) (fin : cFin c B w e Q) (W : World) (m : Nat) (H : CA w W B w.heap.size c) (Z : BW W m zrL) (hm : w.heap.size < m) (u5 u6 u9 u10 u13 u14 u17 u18 u21 u22 u27 u30 u33 u35 u36 u38 u40 u42 u44 u46 u47 u48 u49 u50 u51 u52 u53 u54 u55 u56 u57 : Value) :
    wpAnyH Try.prog .any (opsOf crRg) Q (cS c B w) 8 #[true, true, true, true, true, true, true, true, true, true, true, true, true, true, true, true, true, true, true, true, true, true, true, true, true, true, true, true, false, true, true, false, true, false, true, false, true, false, true, false, false, true, false] ⟨#[.agg (carL c).toArray, .pointer (some ⟨w.heap.size, 0, none⟩), .int .i64 0, .int .i64 0, .pointer (some ⟨m, 0, none⟩), u5, u6, .agg (carL c).toArray, .int .i64 (e 0), u9, u10, wheelV c 0, .int .i64 (e 1), u13, u14, wheelV c 1, .int .i64 (e 2), u17, u18, wheelV c 2, .int .i64 (e 3), u21, u22, wheelV c 3, .int .i64 (e 4), .agg (carL c).toArray, .int .i64 (e 5), u27, .slice c.d.a c.d.n c.d.c, .int .i64 (e 6), u30, .agg #[.slice c.t.x.a c.t.x.n c.t.x.c, .slice c.t.y.a c.t.y.n c.t.y.c, .slice c.t.a c.t.n c.t.c], .int .i64 (e 7), u33, .slice c.q.a c.q.n c.q.c, u35, u36, .slice c.r.a c.r.n c.r.c, u38, .agg (carL c).toArray, u40, .agg (carL c).toArray, u42, .agg (carL c).toArray, u44, .agg (carL c).toArray, u46, u47, u48, u49, u50, u51, u52, u53, u54, u55, u56, u57], []⟩ W := by
  conv => arg 3; arg 1; whnf
  dsimp only [opsOf]
  refine onlD 28 (fun K hK => ?_)
  go_simp
  refine (X.x8 W H).mono ?_
  rintro r w1 ⟨rfl, h⟩
  have H1 := H.step h
  have Z1 := Z.below h Z.lt
  go_wp2_with fail
  refine hK.out _ _ H1 ?_
  intro hHeld
  exact ra_9 c B w e Q X fin w1 m H1 Z1 hm _ _ _ _ _ _ _ _ _ _ _ _ _ _ _ _ _ _ _ _ _ _ _ _ _ _ _ _ _ _
set_option maxRecDepth 100000 in
set_option maxHeartbeats 4000000 in
theorem ra_7 (c : Cr) (B : Nat) (w : World) (e : Nat → Int) (Q : Exit → Act → World → Prop) (X : CX c B w e) (fin : cFin c B w e Q) (W : World) (m : Nat) (H : CA w W B w.heap.size c) (Z : BW W m zrL) (hm : w.heap.size < m) (u5 u6 u9 u10 u13 u14 u17 u18 u21 u22 u27 u30 u32 u33 u35 u36 u38 u40 u42 u44 u46 u47 u48 u49 u50 u51 u52 u53 u54 u55 u56 u57 : Value) :
    wpAnyH Try.prog .any (opsOf crRg) Q (cS c B w) 9 #[true, true, true, true, true, true, true, true, true, true, true, true, true, true, true, true, true, true, true, true, true, true, true, true, true, false, true, true, false, true, true, false, true, false, true, false, true, false, true, false, false, true, false] ⟨#[.agg (carL c).toArray, .pointer (some ⟨w.heap.size, 0, none⟩), .int .i64 0, .int .i64 0, .pointer (some ⟨m, 0, none⟩), u5, u6, .agg (carL c).toArray, .int .i64 (e 0), u9, u10, wheelV c 0, .int .i64 (e 1), u13, u14, wheelV c 1, .int .i64 (e 2), u17, u18, wheelV c 2, .int .i64 (e 3), u21, u22, wheelV c 3, .int .i64 (e 4), .agg (carL c).toArray, .int .i64 (e 5), u27, .slice c.d.a c.d.n c.d.c, .int .i64 (e 6), u30, .agg #[.slice c.t.x.a c.t.x.n c.t.x.c, .slice c.t.y.a c.t.y.n c.t.y.c, .slice c.t.a c.t.n c.t.c], u32, u33, .slice c.q.a c.q.n c.q.c, u35, u36, .slice c.r.a c.r.n c.r.c, u38, .agg (carL c).toArray, u40, .agg (carL c).toArray, u42, .agg (carL c).toArray, u44, .agg (carL c).toArray, u46, u47, u48, u49, u50, u51, u52, u53, u54, u55, u56, u57], []⟩ W := by
  conv => arg 3; arg 1; whnf
  dsimp only [opsOf]
  refine onlD 25 (fun K hK => ?_)
  go_simp
  refine (X.x7 W H).mono ?_
  rintro r w1 ⟨rfl, h⟩
  have H1 := H.step h
  have Z1 := Z.below h Z.lt
  go_wp2_with fail
  refine hK.out _ _ H1 ?_
  intro hHeld
  exact ra_8 c B w e Q X fin w1 m H1 Z1 hm _ _ _ _ _ _ _ _ _ _ _ _ _ _ _ _ _ _ _ _ _ _ _ _ _ _ _ _ _ _ _
set_option maxRecDepth 100000 in
set_option maxHeartbeats 4000000 in
theorem ra_6 (c : Cr) (B : Nat) (w : World) (e : Nat → Int) (Q : Exit → Act → World → Prop) (X : CX c B w e) (fin : cFin c B w e Q) (W : World) (m : Nat) (H : CA w W B w.heap.size c) (Z : BW W m zrL) (hm : w.heap.size < m) (u5 u6 u9 u10 u13 u14 u17 u18 u21 u22 u27 u29 u30 u32 u33 u35 u36 u38 u40 u42 u44 u46 u47 u48 u49 u50 u51 u52 u53 u54 u55 u56 u57 : Value) :
    wpAnyH Try.prog .any (opsOf crRg) Q (cS c B w) 10 #[true, true, true, true, true, true, true, true, true, true, true, true, true, true, true, true, true, true, true, true, true, true, false, true, true, false, true, true, false, true, true, false, true, false, true, false, true, false, true, false, false, true, false] ⟨#[.agg (carL c).toArray, .pointer (some ⟨w.heap.size, 0, none⟩), .int .i64 0, .int .i64 0, .pointer (some ⟨m, 0, none⟩), u5, u6, .agg (carL c).toArray, .int .i64 (e 0), u9, u10, wheelV c 0, .int .i64 (e 1), u13, u14, wheelV c 1, .int .i64 (e 2), u17, u18, wheelV c 2, .int .i64 (e 3), u21, u22, wheelV c 3, .int .i64 (e 4), .agg (carL c).toArray, .int .i64 (e 5), u27, .slice c.d.a c.d.n c.d.c, u29, u30, .agg #[.slice c.t.x.a c.t.x.n c.t.x.c, .slice c.t.y.a c.t.y.n c.t.y.c, .slice c.t.a c.t.n c.t.c], u32, u33, .slice c.q.a c.q.n c.q.c, u35, u36, .slice c.r.a c.r.n c.r.c, u38, .agg (carL c).toArray, u40, .agg (carL c).toArray, u42, .agg (carL c).toArray, u44, .agg (carL c).toArray, u46, u47, u48, u49, u50, u51, u52, u53, u54, u55, u56, u57], []⟩ W := by
  conv => arg 3; arg 1; whnf
  dsimp only [opsOf]
  refine onlD 22 (fun K hK => ?_)
  go_simp
  refine (X.x6 W H).mono ?_
  rintro r w1 ⟨rfl, h⟩
  have H1 := H.step h
  have Z1 := Z.below h Z.lt
  go_wp2_with fail
  refine hK.out _ _ H1 ?_
  intro hHeld
  exact ra_7 c B w e Q X fin w1 m H1 Z1 hm _ _ _ _ _ _ _ _ _ _ _ _ _ _ _ _ _ _ _ _ _ _ _ _ _ _ _ _ _ _ _ _
set_option maxRecDepth 100000 in
set_option maxHeartbeats 4000000 in
theorem ra_5 (c : Cr) (B : Nat) (w : World) (e : Nat → Int) (Q : Exit → Act → World → Prop) (X : CX c B w e) (fin : cFin c B w e Q) (W : World) (m : Nat) (H : CA w W B w.heap.size c) (Z : BW W m zrL) (hm : w.heap.size < m) (u5 u6 u9 u10 u13 u14 u17 u18 u21 u22 u26 u27 u29 u30 u32 u33 u35 u36 u38 u40 u42 u44 u46 u47 u48 u49 u50 u51 u52 u53 u54 u55 u56 u57 : Value) :
    wpAnyH Try.prog .any (opsOf crRg) Q (cS c B w) 11 #[true, true, true, true, true, true, true, true, true, true, true, true, true, true, true, true, true, true, true, false, true, true, false, true, true, false, true, true, false, true, true, false, true, false, true, false, true, false, true, false, false, true, false] ⟨#[.agg (carL c).toArray, .pointer (some ⟨w.heap.size, 0, none⟩), .int .i64 0, .int .i64 0, .pointer (some ⟨m, 0, none⟩), u5, u6, .agg (carL c).toArray, .int .i64 (e 0), u9, u10, wheelV c 0, .int .i64 (e 1), u13, u14, wheelV c 1, .int .i64 (e 2), u17, u18, wheelV c 2, .int .i64 (e 3), u21, u22, wheelV c 3, .int .i64 (e 4), .agg (carL c).toArray, u26, u27, .slice c.d.a c.d.n c.d.c, u29, u30, .agg #[.slice c.t.x.a c.t.x.n c.t.x.c, .slice c.t.y.a c.t.y.n c.t.y.c, .slice c.t.a c.t.n c.t.c], u32, u33, .slice c.q.a c.q.n c.q.c, u35, u36, .slice c.r.a c.r.n c.r.c, u38, .agg (carL c).toArray, u40, .agg (carL c).toArray, u42, .agg (carL c).toArray, u44, .agg (carL c).toArray, u46, u47, u48, u49, u50, u51, u52, u53, u54, u55, u56, u57], []⟩ W := by
  conv => arg 3; arg 1; whnf
  dsimp only [opsOf]
  refine onlD 19 (fun K hK => ?_)
  go_simp
  refine (X.x5 W H).mono ?_
  rintro r w1 ⟨rfl, h⟩
  have H1 := H.step h
  have Z1 := Z.below h Z.lt
  go_wp2_with fail
  refine hK.out _ _ H1 ?_
  intro hHeld
  exact ra_6 c B w e Q X fin w1 m H1 Z1 hm _ _ _ _ _ _ _ _ _ _ _ _ _ _ _ _ _ _ _ _ _ _ _ _ _ _ _ _ _ _ _ _ _
set_option maxRecDepth 100000 in
set_option maxHeartbeats 4000000 in
theorem ra_4 (c : Cr) (B : Nat) (w : World) (e : Nat → Int) (Q : Exit → Act → World → Prop) (X : CX c B w e) (fin : cFin c B w e Q) (W : World) (m : Nat) (H : CA w W B w.heap.size c) (Z : BW W m zrL) (hm : w.heap.size < m) (u5 u6 u9 u10 u13 u14 u17 u18 u21 u22 u24 u26 u27 u29 u30 u32 u33 u35 u36 u38 u40 u42 u44 u46 u47 u48 u49 u50 u51 u52 u53 u54 u55 u56 u57 : Value) :
    wpAnyH Try.prog .any (opsOf crRg) Q (cS c B w) 12 #[true, true, true, true, true, true, true, true, true, true, true, true, true, true, true, true, true, false, true, false, true, true, false, true, true, false, true, true, false, true, true, false, true, false, true, false, true, false, true, false, false, true, false] ⟨#[.agg (carL c).toArray, .pointer (some ⟨w.heap.size, 0, none⟩), .int .i64 0, .int .i64 0, .pointer (some ⟨m, 0, none⟩), u5, u6, .agg (carL c).toArray, .int .i64 (e 0), u9, u10, wheelV c 0, .int .i64 (e 1), u13, u14, wheelV c 1, .int .i64 (e 2), u17, u18, wheelV c 2, .int .i64 (e 3), u21, u22, wheelV c 3, u24, .agg (carL c).toArray, u26, u27, .slice c.d.a c.d.n c.d.c, u29, u30, .agg #[.slice c.t.x.a c.t.x.n c.t.x.c, .slice c.t.y.a c.t.y.n c.t.y.c, .slice c.t.a c.t.n c.t.c], u32, u33, .slice c.q.a c.q.n c.q.c, u35, u36, .slice c.r.a c.r.n c.r.c, u38, .agg (carL c).toArray, u40, .agg (carL c).toArray, u42, .agg (carL c).toArray, u44, .agg (carL c).toArray, u46, u47, u48, u49, u50, u51, u52, u53, u54, u55, u56, u57], []⟩ W := by
  conv => arg 3; arg 1; whnf
  dsimp only [opsOf]
  refine onlD 17 (fun K hK => ?_)
  go_simp
  refine (X.x4 W H).mono ?_
  rintro r w1 ⟨rfl, h⟩
  have H1 := H.step h
  have Z1 := Z.below h Z.lt
  go_wp2_with fail
  refine hK.out _ _ H1 ?_
  intro hHeld
  exact ra_5 c B w e Q X fin w1 m H1 Z1 hm _ _ _ _ _ _ _ _ _ _ _ _ _ _ _ _ _ _ _ _ _ _ _ _ _ _ _ _ _ _ _ _ _ _
set_option maxRecDepth 100000 in
set_option maxHeartbeats 4000000 in
theorem ra_3 (c : Cr) (B : Nat) (w : World) (e : Nat → Int) (Q : Exit → Act → World → Prop) (X : CX c B w e) (fin : cFin c B w e Q) (W : World) (m : Nat) (H : CA w W B w.heap.size c) (Z : BW W m zrL) (hm : w.heap.size < m) (u5 u6 u9 u10 u13 u14 u17 u18 u20 u21 u22 u24 u26 u27 u29 u30 u32 u33 u35 u36 u38 u40 u42 u44 u46 u47 u48 u49 u50 u51 u52 u53 u54 u55 u56 u57 : Value) :
    wpAnyH Try.prog .any (opsOf crRg) Q (cS c B w) 13 #[true, true, true, true, true, true, true, true, true, true, true, true, true, false, true, true, true, false, true, false, true, true, false, true, true, false, true, true, false, true, true, false, true, false, true, false, true, false, true, false, false, true, false] ⟨#[.agg (carL c).toArray, .pointer (some ⟨w.heap.size, 0, none⟩), .int .i64 0, .int .i64 0, .pointer (some ⟨m, 0, none⟩), u5, u6, .agg (carL c).toArray, .int .i64 (e 0), u9, u10, wheelV c 0, .int .i64 (e 1), u13, u14, wheelV c 1, .int .i64 (e 2), u17, u18, wheelV c 2, u20, u21, u22, wheelV c 3, u24, .agg (carL c).toArray, u26, u27, .slice c.d.a c.d.n c.d.c, u29, u30, .agg #[.slice c.t.x.a c.t.x.n c.t.x.c, .slice c.t.y.a c.t.y.n c.t.y.c, .slice c.t.a c.t.n c.t.c], u32, u33, .slice c.q.a c.q.n c.q.c, u35, u36, .slice c.r.a c.r.n c.r.c, u38, .agg (carL c).toArray, u40, .agg (carL c).toArray, u42, .agg (carL c).toArray, u44, .agg (carL c).toArray, u46, u47, u48, u49, u50, u51, u52, u53, u54, u55, u56, u57], []⟩ W := by
  conv => arg 3; arg 1; whnf
  dsimp only [opsOf]
  refine onlD 13 (fun K hK => ?_)
  go_simp
  refine (X.x3 W H).mono ?_
  rintro r w1 ⟨rfl, h⟩
  have H1 := H.step h
  have Z1 := Z.below h Z.lt
  go_wp2_with fail
  refine hK.out _ _ H1 ?_
  intro hHeld
  exact ra_4 c B w e Q X fin w1 m H1 Z1 hm _ _ _ _ _ _ _ _ _ _ _ _ _ _ _ _ _ _ _ _ _ _ _ _ _ _ _ _ _ _ _ _ _ _ _
set_option maxRecDepth 100000 in
set_option maxHeartbeats 4000000 in
theorem ra_2 (c : Cr) (B : Nat) (w : World) (e : Nat → Int) (Q : Exit → Act → World → Prop) (X : CX c B w e) (fin : cFin c B w e Q) (W : World) (m : Nat) (H : CA w W B w.heap.size c) (Z : BW W m zrL) (hm : w.heap.size < m) (u5 u6 u9 u10 u13 u14 u16 u17 u18 u20 u21 u22 u24 u26 u27 u29 u30 u32 u33 u35 u36 u38 u40 u42 u44 u46 u47 u48 u49 u50 u51 u52 u53 u54 u55 u56 u57 : Value) :
    wpAnyH Try.prog .any (opsOf crRg) Q (cS c B w) 14 #[true, true, true, true, true, true, true, true, true, false, true, true, true, false, true, true, true, false, true, false, true, true, false, true, true, false, true, true, false, true, true, false, true, false, true, false, true, false, true, false, false, true, false] ⟨#[.agg (carL c).toArray, .pointer (some ⟨w.heap.size, 0, none⟩), .int .i64 0, .int .i64 0, .pointer (some ⟨m, 0, none⟩), u5, u6, .agg (carL c).toArray, .int .i64 (e 0), u9, u10, wheelV c 0, .int .i64 (e 1), u13, u14, wheelV c 1, u16, u17, u18, wheelV c 2, u20, u21, u22, wheelV c 3, u24, .agg (carL c).toArray, u26, u27, .slice c.d.a c.d.n c.d.c, u29, u30, .agg #[.slice c.t.x.a c.t.x.n c.t.x.c, .slice c.t.y.a c.t.y.n c.t.y.c, .slice c.t.a c.t.n c.t.c], u32, u33, .slice c.q.a c.q.n c.q.c, u35, u36, .slice c.r.a c.r.n c.r.c, u38, .agg (carL c).toArray, u40, .agg (carL c).toArray, u42, .agg (carL c).toArray, u44, .agg (carL c).toArray, u46, u47, u48, u49, u50, u51, u52, u53, u54, u55, u56, u57], []⟩ W := by
  conv => arg 3; arg 1; whnf
  dsimp only [opsOf]
  refine onlD 9 (fun K hK => ?_)
  go_simp
  refine (X.x2 W H).mono ?_
  rintro r w1 ⟨rfl, h⟩
  have H1 := H.step h
  have Z1 := Z.below h Z.lt
  go_wp2_with fail
  refine hK.out _ _ H1 ?_
  intro hHeld
  exact ra_3 c B w e Q X fin w1 m H1 Z1 hm _ _ _ _ _ _ _ _ _ _ _ _ _ _ _ _ _ _ _ _ _ _ _ _ _ _ _ _ _ _ _ _ _ _ _ _
set_option maxRecDepth 100000 in
set_option maxHeartbeats 4000000 in
theorem ra_1 (c : Cr) (B : Nat) (w : World) (e : Nat → Int) (Q : Exit → Act → World → Prop) (X : CX c B w e) (fin : cFin c B w e Q) (W : World) (m : Nat) (H : CA w W B w.heap.size c) (Z : BW W m zrL) (hm : w.heap.size < m) (u5 u6 u9 u10 u12 u13 u14 u16 u17 u18 u20 u21 u22 u24 u26 u27 u29 u30 u32 u33 u35 u36 u38 u40 u42 u44 u46 u47 u48 u49 u50 u51 u52 u53 u54 u55 u56 u57 : Value) :
    wpAnyH Try.prog .any (opsOf crRg) Q (cS c B w) 15 #[true, true, true, true, true, false, true, true, true, false, true, true, true, false, true, true, true, false, true, false, true, true, false, true, true, false, true, true, false, true, true, false, true, false, true, false, true, false, true, false, false, true, false] ⟨#[.agg (carL c).toArray, .pointer (some ⟨w.heap.size, 0, none⟩), .int .i64 0, .int .i64 0, .pointer (some ⟨m, 0, none⟩), u5, u6, .agg (carL c).toArray, .int .i64 (e 0), u9, u10, wheelV c 0, u12, u13, u14, wheelV c 1, u16, u17, u18, wheelV c 2, u20, u21, u22, wheelV c 3, u24, .agg (carL c).toArray, u26, u27, .slice c.d.a c.d.n c.d.c, u29, u30, .agg #[.slice c.t.x.a c.t.x.n c.t.x.c, .slice c.t.y.a c.t.y.n c.t.y.c, .slice c.t.a c.t.n c.t.c], u32, u33, .slice c.q.a c.q.n c.q.c, u35, u36, .slice c.r.a c.r.n c.r.c, u38, .agg (carL c).toArray, u40, .agg (carL c).toArray, u42, .agg (carL c).toArray, u44, .agg (carL c).toArray, u46, u47, u48, u49, u50, u51, u52, u53, u54, u55, u56, u57], []⟩ W := by
  conv => arg 3; arg 1; whnf
  dsimp only [opsOf]
  refine onlD 5 (fun K hK => ?_)
  go_simp
  refine (X.x1 W H).mono ?_
  rintro r w1 ⟨rfl, h⟩
  have H1 := H.step h
  have Z1 := Z.below h Z.lt
  go_wp2_with fail
  refine hK.out _ _ H1 ?_
  intro hHeld
  exact ra_2 c B w e Q X fin w1 m H1 Z1 hm _ _ _ _ _ _ _ _ _ _ _ _ _ _ _ _ _ _ _ _ _ _ _ _ _ _ _ _ _ _ _ _ _ _ _ _ _
set_option maxRecDepth 100000 in
set_option maxHeartbeats 4000000 in
theorem ra_0 (c : Cr) (B : Nat) (w : World) (e : Nat → Int) (Q : Exit → Act → World → Prop) (X : CX c B w e) (fin : cFin c B w e Q) (W : World) (m : Nat) (H : CA w W B w.heap.size c) (Z : BW W m zrL) (hm : w.heap.size < m) (u5 u6 u8 u9 u10 u12 u13 u14 u16 u17 u18 u20 u21 u22 u24 u26 u27 u29 u30 u32 u33 u35 u36 u38 u40 u42 u44 u46 u47 u48 u49 u50 u51 u52 u53 u54 u55 u56 u57 : Value) :
    wpAnyH Try.prog .any (opsOf crRg) Q (cS c B w) 16 #[true, false, true, true, true, false, true, true, true, false, true, true, true, false, true, true, true, false, true, false, true, true, false, true, true, false, true, true, false, true, true, false, true, false, true, false, true, false, true, false, false, true, false] ⟨#[.agg (carL c).toArray, .pointer (some ⟨w.heap.size, 0, none⟩), .int .i64 0, .int .i64 0, .pointer (some ⟨m, 0, none⟩), u5, u6, .agg (carL c).toArray, u8, u9, u10, wheelV c 0, u12, u13, u14, wheelV c 1, u16, u17, u18, wheelV c 2, u20, u21, u22, wheelV c 3, u24, .agg (carL c).toArray, u26, u27, .slice c.d.a c.d.n c.d.c, u29, u30, .agg #[.slice c.t.x.a c.t.x.n c.t.x.c, .slice c.t.y.a c.t.y.n c.t.y.c, .slice c.t.a c.t.n c.t.c], u32, u33, .slice c.q.a c.q.n c.q.c, u35, u36, .slice c.r.a c.r.n c.r.c, u38, .agg (carL c).toArray, u40, .agg (carL c).toArray, u42, .agg (carL c).toArray, u44, .agg (carL c).toArray, u46, u47, u48, u49, u50, u51, u52, u53, u54, u55, u56, u57], []⟩ W := by
  conv => arg 3; arg 1; whnf
  dsimp only [opsOf]
  refine onlD 1 (fun K hK => ?_)
  go_simp
  refine (X.x0 W H).mono ?_
  rintro r w1 ⟨rfl, h⟩
  have H1 := H.step h
  have Z1 := Z.below h Z.lt
  go_wp2_with fail
  refine hK.out _ _ H1 ?_
  intro hHeld
  exact ra_1 c B w e Q X fin w1 m H1 Z1 hm _ _ _ _ _ _ _ _ _ _ _ _ _ _ _ _ _ _ _ _ _ _ _ _ _ _ _ _ _ _ _ _ _ _ _ _ _ _
end Go.Proofs.Ytbpmbdnhfkfkhaa

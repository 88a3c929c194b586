/- The program's Right of cars: the list of errors, its block yet to come up. -/
import Derived.Test.YtbpmbdnhfkfkhaaW6
namespace Go.Proofs.Ytbpmbdnhfkfkhaa
open Go.RowKit
set_option linter.unusedVariables false
set_option linter.unusedSimpArgs false

set_option maxRecDepth 100000 in
set_option maxHeartbeats 4000000 in
theorem rb_15 (c : Cr) (B : Nat) (w : World) (e : Nat → Int) (Q : Exit → Act → World → Prop) (X : CX c B w e) (fin : cFin c B w e Q) (W : World) (H : CA w W B w.heap.size c) (u4 u5 u6 u9 u10 u13 u14 u17 u18 u21 u22 u27 u30 u33 u36 u48 u49 u50 u51 u52 u53 u54 u55 u56 u57 : Value) :
    wpAnyH Try.prog .any (opsOf crRg) Q (cS c B w) 2 #[true, true, true, true, true, true, true, true, true, true, true, true, true, true, true, true, true, true, true, true, true, true, true, true, true, true, true, true, true, true, true, true, true, true, true, true, true, true, true, true, true, false, false] ⟨#[.agg (carL c).toArray, .pointer (some ⟨w.heap.size, 0, none⟩), .int .i64 0, .int .i64 0, u4, u5, u6, .agg (carL c).toArray, .int .i64 (e 0), u9, u10, wheelV c 0, .int .i64 (e 1), u13, u14, wheelV c 1, .int .i64 (e 2), u17, u18, wheelV c 2, .int .i64 (e 3), u21, u22, wheelV c 3, .int .i64 (e 4), .agg (carL c).toArray, .int .i64 (e 5), u27, .slice c.d.a c.d.n c.d.c, .int .i64 (e 6), u30, .agg #[.slice c.t.x.a c.t.x.n c.t.x.c, .slice c.t.y.a c.t.y.n c.t.y.c, .slice c.t.a c.t.n c.t.c], .int .i64 (e 7), u33, .slice c.q.a c.q.n c.q.c, .int .i64 (e 8), u36, .slice c.r.a c.r.n c.r.c, .int .i64 (e 9), .agg (carL c).toArray, .int .i64 (e 10), .agg (carL c).toArray, .int .i64 (e 11), .agg (carL c).toArray, .int .i64 (e 12), .agg (carL c).toArray, .int .i64 (e 13), .agg (erL e).toArray, u48, u49, u50, u51, u52, u53, u54, u55, u56, u57], []⟩ W := by
  conv => arg 3; arg 1; whnf
  dsimp only [opsOf]
  refine wpAnyH_onlyD 41 (by kernel_rfl) (fun o ho K hK => ?_) (by kernel_rfl)
  simp only [List.getElem?_toArray, List.getElem?_cons_succ, List.getElem?_cons_zero, Option.some.injEq] at ho
  subst ho
  go_simp
  refine hK.out _ _ (H.alloc _) ?_
  intro hHeld
  exact ra_15 c B w e Q X fin _ _ (H.alloc _) (BW.new W _ zrL 51 rfl) H.k.lt _ _ _ _ _ _ _ _ _ _ _ _ _ _ _ _ _ _ _ _ _ _ _ _
set_option maxRecDepth 100000 in
set_option maxHeartbeats 4000000 in
theorem rb_14 (c : Cr) (B : Nat) (w : World) (e : Nat → Int) (Q : Exit → Act → World → Prop) (X : CX c B w e) (fin : cFin c B w e Q) (W : World) (H : CA w W B w.heap.size c) (u4 u5 u6 u9 u10 u13 u14 u17 u18 u21 u22 u27 u30 u33 u36 u47 u48 u49 u50 u51 u52 u53 u54 u55 u56 u57 : Value) :
    wpAnyH Try.prog .any (opsOf crRg) Q (cS c B w) 3 #[true, true, true, true, true, true, true, true, true, true, true, true, true, true, true, true, true, true, true, true, true, true, true, true, true, true, true, true, true, true, true, true, true, true, true, true, true, true, true, true, false, false, false] ⟨#[.agg (carL c).toArray, .pointer (some ⟨w.heap.size, 0, none⟩), .int .i64 0, .int .i64 0, u4, u5, u6, .agg (carL c).toArray, .int .i64 (e 0), u9, u10, wheelV c 0, .int .i64 (e 1), u13, u14, wheelV c 1, .int .i64 (e 2), u17, u18, wheelV c 2, .int .i64 (e 3), u21, u22, wheelV c 3, .int .i64 (e 4), .agg (carL c).toArray, .int .i64 (e 5), u27, .slice c.d.a c.d.n c.d.c, .int .i64 (e 6), u30, .agg #[.slice c.t.x.a c.t.x.n c.t.x.c, .slice c.t.y.a c.t.y.n c.t.y.c, .slice c.t.a c.t.n c.t.c], .int .i64 (e 7), u33, .slice c.q.a c.q.n c.q.c, .int .i64 (e 8), u36, .slice c.r.a c.r.n c.r.c, .int .i64 (e 9), .agg (carL c).toArray, .int .i64 (e 10), .agg (carL c).toArray, .int .i64 (e 11), .agg (carL c).toArray, .int .i64 (e 12), .agg (carL c).toArray, .int .i64 (e 13), u47, u48, u49, u50, u51, u52, u53, u54, u55, u56, u57], []⟩ W := by
  conv => arg 3; arg 1; whnf
  dsimp only [opsOf]
  refine wpAnyH_twoD 40 41 (by kernel_rfl) (fun o ho K hK => ?_) (fun o ho K hK => ?_) (by kernel_rfl) (by kernel_rfl)
  · skip
    simp only [List.getElem?_toArray, List.getElem?_cons_succ, List.getElem?_cons_zero, Option.some.injEq] at ho
    subst ho
    go_simp
    refine hK.out _ _ H ?_
    intro hHeld
    exact rb_15 c B w e Q X fin W H _ _ _ _ _ _ _ _ _ _ _ _ _ _ _ _ _ _ _ _ _ _ _ _ _
  · skip
    simp only [List.getElem?_toArray, List.getElem?_cons_succ, List.getElem?_cons_zero, Option.some.injEq] at ho
    subst ho
    go_simp
    refine hK.out _ _ (H.alloc _) ?_
    intro hHeld
    exact ra_14 c B w e Q X fin _ _ (H.alloc _) (BW.new W _ zrL 51 rfl) H.k.lt _ _ _ _ _ _ _ _ _ _ _ _ _ _ _ _ _ _ _ _ _ _ _ _ _
set_option maxRecDepth 100000 in
set_option maxHeartbeats 4000000 in
theorem rb_13 (c : Cr) (B : Nat) (w : World) (e : Nat → Int) (Q : Exit → Act → World → Prop) (X : CX c B w e) (fin : cFin c B w e Q) (W : World) (H : CA w W B w.heap.size c) (u4 u5 u6 u9 u10 u13 u14 u17 u18 u21 u22 u27 u30 u33 u36 u46 u47 u48 u49 u50 u51 u52 u53 u54 u55 u56 u57 : Value) :
    wpAnyH Try.prog .any (opsOf crRg) Q (cS c B w) 4 #[true, true, true, true, true, true, true, true, true, true, true, true, true, true, true, true, true, true, true, true, true, true, true, true, true, true, true, true, true, true, true, true, true, true, true, true, true, true, true, false, false, false, false] ⟨#[.agg (carL c).toArray, .pointer (some ⟨w.heap.size, 0, none⟩), .int .i64 0, .int .i64 0, u4, u5, u6, .agg (carL c).toArray, .int .i64 (e 0), u9, u10, wheelV c 0, .int .i64 (e 1), u13, u14, wheelV c 1, .int .i64 (e 2), u17, u18, wheelV c 2, .int .i64 (e 3), u21, u22, wheelV c 3, .int .i64 (e 4), .agg (carL c).toArray, .int .i64 (e 5), u27, .slice c.d.a c.d.n c.d.c, .int .i64 (e 6), u30, .agg #[.slice c.t.x.a c.t.x.n c.t.x.c, .slice c.t.y.a c.t.y.n c.t.y.c, .slice c.t.a c.t.n c.t.c], .int .i64 (e 7), u33, .slice c.q.a c.q.n c.q.c, .int .i64 (e 8), u36, .slice c.r.a c.r.n c.r.c, .int .i64 (e 9), .agg (carL c).toArray, .int .i64 (e 10), .agg (carL c).toArray, .int .i64 (e 11), .agg (carL c).toArray, .int .i64 (e 12), .agg (carL c).toArray, u46, u47, u48, u49, u50, u51, u52, u53, u54, u55, u56, u57], []⟩ W := by
  conv => arg 3; arg 1; whnf
  dsimp only [opsOf]
  refine wpAnyH_twoD 39 41 (by kernel_rfl) (fun o ho K hK => ?_) (fun o ho K hK => ?_) (by kernel_rfl) (by kernel_rfl)
  · skip
    simp only [List.getElem?_toArray, List.getElem?_cons_succ, List.getElem?_cons_zero, Option.some.injEq] at ho
    subst ho
    go_simp
    refine (X.x13 W H).mono ?_
    rintro r w1 ⟨rfl, h⟩
    have H1 := H.step h
    go_wp2_with fail
    refine hK.out _ _ H1 ?_
    intro hHeld
    exact rb_14 c B w e Q X fin w1 H1 _ _ _ _ _ _ _ _ _ _ _ _ _ _ _ _ _ _ _ _ _ _ _ _ _ _
  · skip
    simp only [List.getElem?_toArray, List.getElem?_cons_succ, List.getElem?_cons_zero, Option.some.injEq] at ho
    subst ho
    go_simp
    refine hK.out _ _ (H.alloc _) ?_
    intro hHeld
    exact ra_13 c B w e Q X fin _ _ (H.alloc _) (BW.new W _ zrL 51 rfl) H.k.lt _ _ _ _ _ _ _ _ _ _ _ _ _ _ _ _ _ _ _ _ _ _ _ _ _ _
set_option maxRecDepth 100000 in
set_option maxHeartbeats 4000000 in
theorem rb_12 (c : Cr) (B : Nat) (w : World) (e : Nat → Int) (Q : Exit → Act → World → Prop) (X : CX c B w e) (fin : cFin c B w e Q) (W : World) (H : CA w W B w.heap.size c) (u4 u5 u6 u9 u10 u13 u14 u17 u18 u21 u22 u27 u30 u33 u36 u44 u46 u47 u48 u49 u50 u51 u52 u53 u54 u55 u56 u57 : Value) :
    wpAnyH Try.prog .any (opsOf crRg) Q (cS c B w) 5 #[true, true, true, true, true, true, true, true, true, true, true, true, true, true, true, true, true, true, true, true, true, true, true, true, true, true, true, true, true, true, true, true, true, true, true, true, true, false, true, false, false, false, false] ⟨#[.agg (carL c).toArray, .pointer (some ⟨w.heap.size, 0, none⟩), .int .i64 0, .int .i64 0, u4, u5, u6, .agg (carL c).toArray, .int .i64 (e 0), u9, u10, wheelV c 0, .int .i64 (e 1), u13, u14, wheelV c 1, .int .i64 (e 2), u17, u18, wheelV c 2, .int .i64 (e 3), u21, u22, wheelV c 3, .int .i64 (e 4), .agg (carL c).toArray, .int .i64 (e 5), u27, .slice c.d.a c.d.n c.d.c, .int .i64 (e 6), u30, .agg #[.slice c.t.x.a c.t.x.n c.t.x.c, .slice c.t.y.a c.t.y.n c.t.y.c, .slice c.t.a c.t.n c.t.c], .int .i64 (e 7), u33, .slice c.q.a c.q.n c.q.c, .int .i64 (e 8), u36, .slice c.r.a c.r.n c.r.c, .int .i64 (e 9), .agg (carL c).toArray, .int .i64 (e 10), .agg (carL c).toArray, .int .i64 (e 11), .agg (carL c).toArray, u44, .agg (carL c).toArray, u46, u47, u48, u49, u50, u51, u52, u53, u54, u55, u56, u57], []⟩ W := by
  conv => arg 3; arg 1; whnf
  dsimp only [opsOf]
  refine wpAnyH_twoD 37 41 (by kernel_rfl) (fun o ho K hK => ?_) (fun o ho K hK => ?_) (by kernel_rfl) (by kernel_rfl)
  · skip
    simp only [List.getElem?_toArray, List.getElem?_cons_succ, List.getElem?_cons_zero, Option.some.injEq] at ho
    subst ho
    go_simp
    refine (X.x12 W H).mono ?_
    rintro r w1 ⟨rfl, h⟩
    have H1 := H.step h
    go_wp2_with fail
    refine hK.out _ _ H1 ?_
    intro hHeld
    exact rb_13 c B w e Q X fin w1 H1 _ _ _ _ _ _ _ _ _ _ _ _ _ _ _ _ _ _ _ _ _ _ _ _ _ _ _
  · skip
    simp only [List.getElem?_toArray, List.getElem?_cons_succ, List.getElem?_cons_zero, Option.some.injEq] at ho
    subst ho
    go_simp
    refine hK.out _ _ (H.alloc _) ?_
    intro hHeld
    exact ra_12 c B w e Q X fin _ _ (H.alloc _) (BW.new W _ zrL 51 rfl) H.k.lt _ _ _ _ _ _ _ _ _ _ _ _ _ _ _ _ _ _ _ _ _ _ _ _ _ _ _
set_option maxRecDepth 100000 in
set_option maxHeartbeats 4000000 in
theorem rb_11 (c : Cr) (B : Nat) (w : World) (e : Nat → Int) (Q : Exit → Act → World → Prop) (X : CX c B w e) (fin : cFin c B w e Q) (W : World) (H : CA w W B w.heap.size c) (u4 u5 u6 u9 u10 u13 u14 u17 u18 u21 u22 u27 u30 u33 u36 u42 u44 u46 u47 u48 u49 u50 u51 u52 u53 u54 u55 u56 u57 : Value) :
    wpAnyH Try.prog .any (opsOf crRg) Q (cS c B w) 6 #[true, true, true, true, true, true, true, true, true, true, true, true, true, true, true, true, true, true, true, true, true, true, true, true, true, true, true, true, true, true, true, true, true, true, true, false, true, false, true, false, false, false, false] ⟨#[.agg (carL c).toArray, .pointer (some ⟨w.heap.size, 0, none⟩), .int .i64 0, .int .i64 0, u4, u5, u6, .agg (carL c).toArray, .int .i64 (e 0), u9, u10, wheelV c 0, .int .i64 (e 1), u13, u14, wheelV c 1, .int .i64 (e 2), u17, u18, wheelV c 2, .int .i64 (e 3), u21, u22, wheelV c 3, .int .i64 (e 4), .agg (carL c).toArray, .int .i64 (e 5), u27, .slice c.d.a c.d.n c.d.c, .int .i64 (e 6), u30, .agg #[.slice c.t.x.a c.t.x.n c.t.x.c, .slice c.t.y.a c.t.y.n c.t.y.c, .slice c.t.a c.t.n c.t.c], .int .i64 (e 7), u33, .slice c.q.a c.q.n c.q.c, .int .i64 (e 8), u36, .slice c.r.a c.r.n c.r.c, .int .i64 (e 9), .agg (carL c).toArray, .int .i64 (e 10), .agg (carL c).toArray, u42, .agg (carL c).toArray, u44, .agg (carL c).toArray, u46, u47, u48, u49, u50, u51, u52, u53, u54, u55, u56, u57], []⟩ W := by
  conv => arg 3; arg 1; whnf
  dsimp only [opsOf]
  refine wpAnyH_twoD 35 41 (by kernel_rfl) (fun o ho K hK => ?_) (fun o ho K hK => ?_) (by kernel_rfl) (by kernel_rfl)
  · skip
    simp only [List.getElem?_toArray, List.getElem?_cons_succ, List.getElem?_cons_zero, Option.some.injEq] at ho
    subst ho
    go_simp
    refine (X.x11 W H).mono ?_
    rintro r w1 ⟨rfl, h⟩
    have H1 := H.step h
    go_wp2_with fail
    refine hK.out _ _ H1 ?_
    intro hHeld
    exact rb_12 c B w e Q X fin w1 H1 _ _ _ _ _ _ _ _ _ _ _ _ _ _ _ _ _ _ _ _ _ _ _ _ _ _ _ _
  · skip
    simp only [List.getElem?_toArray, List.getElem?_cons_succ, List.getElem?_cons_zero, Option.some.injEq] at ho
    subst ho
    go_simp
    refine hK.out _ _ (H.alloc _) ?_
    intro hHeld
    exact ra_11 c B w e Q X fin _ _ (H.alloc _) (BW.new W _ zrL 51 rfl) H.k.lt _ _ _ _ _ _ _ _ _ _ _ _ _ _ _ _ _ _ _ _ _ _ _ _ _ _ _ _
set_option maxRecDepth 100000 in
set_option maxHeartbeats 4000000 in
theorem rb_10 (c : Cr) (B : Nat) (w : World) (e : Nat → Int) (Q : Exit → Act → World → Prop) (X : CX c B w e) (fin : cFin c B w e Q) (W : World) (H : CA w W B w.heap.size c) (u4 u5 u6 u9 u10 u13 u14 u17 u18 u21 u22 u27 u30 u33 u36 u40 u42 u44 u46 u47 u48 u49 u50 u51 u52 u53 u54 u55 u56 u57 : Value) :
    wpAnyH Try.prog .any (opsOf crRg) Q (cS c B w) 7 #[true, true, true, true, true, true, true, true, true, true, true, true, true, true, true, true, true, true, true, true, true, true, true, true, true, true, true, true, true, true, true, true, true, false, true, false, true, false, true, false, false, false, false] ⟨#[.agg (carL c).toArray, .pointer (some ⟨w.heap.size, 0, none⟩), .int .i64 0, .int .i64 0, u4, u5, u6, .agg (carL c).toArray, .int .i64 (e 0), u9, u10, wheelV c 0, .int .i64 (e 1), u13, u14, wheelV c 1, .int .i64 (e 2), u17, u18, wheelV c 2, .int .i64 (e 3), u21, u22, wheelV c 3, .int .i64 (e 4), .agg (carL c).toArray, .int .i64 (e 5), u27, .slice c.d.a c.d.n c.d.c, .int .i64 (e 6), u30, .agg #[.slice c.t.x.a c.t.x.n c.t.x.c, .slice c.t.y.a c.t.y.n c.t.y.c, .slice c.t.a c.t.n c.t.c], .int .i64 (e 7), u33, .slice c.q.a c.q.n c.q.c, .int .i64 (e 8), u36, .slice c.r.a c.r.n c.r.c, .int .i64 (e 9), .agg (carL c).toArray, u40, .agg (carL c).toArray, u42, .agg (carL c).toArray, u44, .agg (carL c).toArray, u46, u47, u48, u49, u50, u51, u52, u53, u54, u55, u56, u57], []⟩ W := by
  conv => arg 3; arg 1; whnf
  dsimp only [opsOf]
  refine wpAnyH_twoD 33 41 (by kernel_rfl) (fun o ho K hK => ?_) (fun o ho K hK => ?_) (by kernel_rfl) (by kernel_rfl)
  · skip
    simp only [List.getElem?_toArray, List.getElem?_cons_succ, List.getElem?_cons_zero, Option.some.injEq] at ho
    subst ho
    go_simp
    refine (X.x10 W H).mono ?_
    rintro r w1 ⟨rfl, h⟩
    have H1 := H.step h
    go_wp2_with fail
    refine hK.out _ _ H1 ?_
    intro hHeld
    exact rb_11 c B w e Q X fin w1 H1 _ _ _ _ _ _ _ _ _ _ _ _ _ _ _ _ _ _ _ _ _ _ _ _ _ _ _ _ _
  · skip
    simp only [List.getElem?_toArray, List.getElem?_cons_succ, List.getElem?_cons_zero, Option.some.injEq] at ho
    subst ho
    go_simp
    refine hK.out _ _ (H.alloc _) ?_
    intro hHeld
    exact ra_10 c B w e Q X fin _ _ (H.alloc _) (BW.new W _ zrL 51 rfl) H.k.lt _ _ _ _ _ _ _ _ _ _ _ _ _ _ _ _ _ _ _ _ _ _ _ _ _ _ _ _ _
set_option maxRecDepth 100000 in
set_option maxHeartbeats 4000000 in
theorem rb_9 (c : Cr) (B : Nat) (w : World) (e : Nat → Int) (Q : Exit → Act → World → Prop) (X : CX c B w e) (fin : cFin c B w e Q) (W : World) (H : CA w W B w.heap.size c) (u4 u5 u6 u9 u10 u13 u14 u17 u18 u21 u22 u27 u30 u33 u36 u38 u40 u42 u44 u46 u47 u48 u49 u50 u51 u52 u53 u54 u55 u56 u57 : Value) :
    wpAnyH Try.prog .any (opsOf crRg) Q (cS c B w) 8 #[true, true, true, true, true, true, true, true, true, true, true, true, true, true, true, true, true, true, true, true, true, true, true, true, true, true, true, true, true, true, true, false, true, false, true, false, true, false, true, false, false, false, false] ⟨#[.agg (carL c).toArray, .pointer (some ⟨w.heap.size, 0, none⟩), .int .i64 0, .int .i64 0, u4, u5, u6, .agg (carL c).toArray, .int .i64 (e 0), u9, u10, wheelV c 0, .int .i64 (e 1), u13, u14, wheelV c 1, .int .i64 (e 2), u17, u18, wheelV c 2, .int .i64 (e 3), u21, u22, wheelV c 3, .int .i64 (e 4), .agg (carL c).toArray, .int .i64 (e 5), u27, .slice c.d.a c.d.n c.d.c, .int .i64 (e 6), u30, .agg #[.slice c.t.x.a c.t.x.n c.t.x.c, .slice c.t.y.a c.t.y.n c.t.y.c, .slice c.t.a c.t.n c.t.c], .int .i64 (e 7), u33, .slice c.q.a c.q.n c.q.c, .int .i64 (e 8), u36, .slice c.r.a c.r.n c.r.c, u38, .agg (carL c).toArray, u40, .agg (carL c).toArray, u42, .agg (carL c).toArray, u44, .agg (carL c).toArray, u46, u47, u48, u49, u50, u51, u52, u53, u54, u55, u56, u57], []⟩ W := by
  conv => arg 3; arg 1; whnf
  dsimp only [opsOf]
  refine wpAnyH_twoD 31 41 (by kernel_rfl) (fun o ho K hK => ?_) (fun o ho K hK => ?_) (by kernel_rfl) (by kernel_rfl)
  · skip
    simp only [List.getElem?_toArray, List.getElem?_cons_succ, List.getElem?_cons_zero, Option.some.injEq] at ho
    subst ho
    go_simp
    refine (X.x9 W H).mono ?_
    rintro r w1 ⟨rfl, h⟩
    have H1 := H.step h
    go_wp2_with fail
    refine hK.out _ _ H1 ?_
    intro hHeld
    exact rb_10 c B w e Q X fin w1 H1 _ _ _ _ _ _ _ _ _ _ _ _ _ _ _ _ _ _ _ _ _ _ _ _ _ _ _ _ _ _
  · skip
    simp only [List.getElem?_toArray, List.getElem?_cons_succ, List.getElem?_cons_zero, Option.some.injEq] at ho
    subst ho
    go_simp
    refine hK.out _ _ (H.alloc _) ?_
    intro hHeld
    exact ra_9 c B w e Q X fin _ _ (H.alloc _) (BW.new W _ zrL 51 rfl) H.k.lt _ _ _ _ _ _ _ _ _ _ _ _ _ _ _ _ _ _ _ _ _ _ _ _ _ _ _ _ _ _
set_option maxRecDepth 100000 in
set_option maxHeartbeats 4000000 in
theorem rb_8 (c : Cr) (B : Nat) (w : World) (e : Nat → Int) (Q : Exit → Act → World → Prop) (X : CX c B w e) (fin : cFin c B w e Q) (W : World) (H : CA w W B w.heap.size c) (u4 u5 u6 u9 u10 u13 u14 u17 u18 u21 u22 u27 u30 u33 u35 u36 u38 u40 u42 u44 u46 u47 u48 u49 u50 u51 u52 u53 u54 u55 u56 u57 : Value) :
    wpAnyH Try.prog .any (opsOf crRg) Q (cS c B w) 9 #[true, true, true, true, true, true, true, true, true, true, true, true, true, true, true, true, true, true, true, true, true, true, true, true, true, true, true, true, false, true, true, false, true, false, true, false, true, false, true, false, false, false, false] ⟨#[.agg (carL c).toArray, .pointer (some ⟨w.heap.size, 0, none⟩), .int .i64 0, .int .i64 0, u4, u5, u6, .agg (carL c).toArray, .int .i64 (e 0), u9, u10, wheelV c 0, .int .i64 (e 1), u13, u14, wheelV c 1, .int .i64 (e 2), u17, u18, wheelV c 2, .int .i64 (e 3), u21, u22, wheelV c 3, .int .i64 (e 4), .agg (carL c).toArray, .int .i64 (e 5), u27, .slice c.d.a c.d.n c.d.c, .int .i64 (e 6), u30, .agg #[.slice c.t.x.a c.t.x.n c.t.x.c, .slice c.t.y.a c.t.y.n c.t.y.c, .slice c.t.a c.t.n c.t.c], .int .i64 (e 7), u33, .slice c.q.a c.q.n c.q.c, u35, u36, .slice c.r.a c.r.n c.r.c, u38, .agg (carL c).toArray, u40, .agg (carL c).toArray, u42, .agg (carL c).toArray, u44, .agg (carL c).toArray, u46, u47, u48, u49, u50, u51, u52, u53, u54, u55, u56, u57], []⟩ W := by
  conv => arg 3; arg 1; whnf
  dsimp only [opsOf]
  refine wpAnyH_twoD 28 41 (by kernel_rfl) (fun o ho K hK => ?_) (fun o ho K hK => ?_) (by kernel_rfl) (by kernel_rfl)
  · skip
    simp only [List.getElem?_toArray, List.getElem?_cons_succ, List.getElem?_cons_zero, Option.some.injEq] at ho
    subst ho
    go_simp
    refine (X.x8 W H).mono ?_
    rintro r w1 ⟨rfl, h⟩
    have H1 := H.step h
    go_wp2_with fail
    refine hK.out _ _ H1 ?_
    intro hHeld
    exact rb_9 c B w e Q X fin w1 H1 _ _ _ _ _ _ _ _ _ _ _ _ _ _ _ _ _ _ _ _ _ _ _ _ _ _ _ _ _ _ _
  · skip
    simp only [List.getElem?_toArray, List.getElem?_cons_succ, List.getElem?_cons_zero, Option.some.injEq] at ho
    subst ho
    go_simp
    refine hK.out _ _ (H.alloc _) ?_
    intro hHeld
    exact ra_8 c B w e Q X fin _ _ (H.alloc _) (BW.new W _ zrL 51 rfl) H.k.lt _ _ _ _ _ _ _ _ _ _ _ _ _ _ _ _ _ _ _ _ _ _ _ _ _ _ _ _ _ _ _
set_option maxRecDepth 100000 in
set_option maxHeartbeats 4000000 in
theorem rb_7 (c : Cr) (B : Nat) (w : World) (e : Nat → Int) (Q : Exit → Act → World → Prop) (X : CX c B w e) (fin : cFin c B w e Q) (W : World) (H : CA w W B w.heap.size c) (u4 u5 u6 u9 u10 u13 u14 u17 u18 u21 u22 u27 u30 u32 u33 u35 u36 u38 u40 u42 u44 u46 u47 u48 u49 u50 u51 u52 u53 u54 u55 u56 u57 : Value) :
    wpAnyH Try.prog .any (opsOf crRg) Q (cS c B w) 10 #[true, true, true, true, true, true, true, true, true, true, true, true, true, true, true, true, true, true, true, true, true, true, true, true, true, false, true, true, false, true, true, false, true, false, true, false, true, false, true, false, false, false, false] ⟨#[.agg (carL c).toArray, .pointer (some ⟨w.heap.size, 0, none⟩), .int .i64 0, .int .i64 0, u4, u5, u6, .agg (carL c).toArray, .int .i64 (e 0), u9, u10, wheelV c 0, .int .i64 (e 1), u13, u14, wheelV c 1, .int .i64 (e 2), u17, u18, wheelV c 2, .int .i64 (e 3), u21, u22, wheelV c 3, .int .i64 (e 4), .agg (carL c).toArray, .int .i64 (e 5), u27, .slice c.d.a c.d.n c.d.c, .int .i64 (e 6), u30, .agg #[.slice c.t.x.a c.t.x.n c.t.x.c, .slice c.t.y.a c.t.y.n c.t.y.c, .slice c.t.a c.t.n c.t.c], u32, u33, .slice c.q.a c.q.n c.q.c, u35, u36, .slice c.r.a c.r.n c.r.c, u38, .agg (carL c).toArray, u40, .agg (carL c).toArray, u42, .agg (carL c).toArray, u44, .agg (carL c).toArray, u46, u47, u48, u49, u50, u51, u52, u53, u54, u55, u56, u57], []⟩ W := by
  conv => arg 3; arg 1; whnf
  dsimp only [opsOf]
  refine wpAnyH_twoD 25 41 (by kernel_rfl) (fun o ho K hK => ?_) (fun o ho K hK => ?_) (by kernel_rfl) (by kernel_rfl)
  · skip
    simp only [List.getElem?_toArray, List.getElem?_cons_succ, List.getElem?_cons_zero, Option.some.injEq] at ho
    subst ho
    go_simp
    refine (X.x7 W H).mono ?_
    rintro r w1 ⟨rfl, h⟩
    have H1 := H.step h
    go_wp2_with fail
    refine hK.out _ _ H1 ?_
    intro hHeld
    exact rb_8 c B w e Q X fin w1 H1 _ _ _ _ _ _ _ _ _ _ _ _ _ _ _ _ _ _ _ _ _ _ _ _ _ _ _ _ _ _ _ _
  · skip
    simp only [List.getElem?_toArray, List.getElem?_cons_succ, List.getElem?_cons_zero, Option.some.injEq] at ho
    subst ho
    go_simp
    refine hK.out _ _ (H.alloc _) ?_
    intro hHeld
    exact ra_7 c B w e Q X fin _ _ (H.alloc _) (BW.new W _ zrL 51 rfl) H.k.lt _ _ _ _ _ _ _ _ _ _ _ _ _ _ _ _ _ _ _ _ _ _ _ _ _ _ _ _ _ _ _ _
set_option maxRecDepth 100000 in
set_option maxHeartbeats 4000000 in
theorem rb_6 (c : Cr) (B : Nat) (w : World) (e : Nat → Int) (Q : Exit → Act → World → Prop) (X : CX c B w e) (fin : cFin c B w e Q) (W : World) (H : CA w W B w.heap.size c) (u4 u5 u6 u9 u10 u13 u14 u17 u18 u21 u22 u27 u29 u30 u32 u33 u35 u36 u38 u40 u42 u44 u46 u47 u48 u49 u50 u51 u52 u53 u54 u55 u56 u57 : Value) :
    wpAnyH Try.prog .any (opsOf crRg) Q (cS c B w) 11 #[true, true, true, true, true, true, true, true, true, true, true, true, true, true, true, true, true, true, true, true, true, true, false, true, true, false, true, true, false, true, true, false, true, false, true, false, true, false, true, false, false, false, false] ⟨#[.agg (carL c).toArray, .pointer (some ⟨w.heap.size, 0, none⟩), .int .i64 0, .int .i64 0, u4, u5, u6, .agg (carL c).toArray, .int .i64 (e 0), u9, u10, wheelV c 0, .int .i64 (e 1), u13, u14, wheelV c 1, .int .i64 (e 2), u17, u18, wheelV c 2, .int .i64 (e 3), u21, u22, wheelV c 3, .int .i64 (e 4), .agg (carL c).toArray, .int .i64 (e 5), u27, .slice c.d.a c.d.n c.d.c, u29, u30, .agg #[.slice c.t.x.a c.t.x.n c.t.x.c, .slice c.t.y.a c.t.y.n c.t.y.c, .slice c.t.a c.t.n c.t.c], u32, u33, .slice c.q.a c.q.n c.q.c, u35, u36, .slice c.r.a c.r.n c.r.c, u38, .agg (carL c).toArray, u40, .agg (carL c).toArray, u42, .agg (carL c).toArray, u44, .agg (carL c).toArray, u46, u47, u48, u49, u50, u51, u52, u53, u54, u55, u56, u57], []⟩ W := by
  conv => arg 3; arg 1; whnf
  dsimp only [opsOf]
  refine wpAnyH_twoD 22 41 (by kernel_rfl) (fun o ho K hK => ?_) (fun o ho K hK => ?_) (by kernel_rfl) (by kernel_rfl)
  · skip
    simp only [List.getElem?_toArray, List.getElem?_cons_succ, List.getElem?_cons_zero, Option.some.injEq] at ho
    subst ho
    go_simp
    refine (X.x6 W H).mono ?_
    rintro r w1 ⟨rfl, h⟩
    have H1 := H.step h
    go_wp2_with fail
    refine hK.out _ _ H1 ?_
    intro hHeld
    exact rb_7 c B w e Q X fin w1 H1 _ _ _ _ _ _ _ _ _ _ _ _ _ _ _ _ _ _ _ _ _ _ _ _ _ _ _ _ _ _ _ _ _
  · skip
    simp only [List.getElem?_toArray, List.getElem?_cons_succ, List.getElem?_cons_zero, Option.some.injEq] at ho
    subst ho
    go_simp
    refine hK.out _ _ (H.alloc _) ?_
    intro hHeld
    exact ra_6 c B w e Q X fin _ _ (H.alloc _) (BW.new W _ zrL 51 rfl) H.k.lt _ _ _ _ _ _ _ _ _ _ _ _ _ _ _ _ _ _ _ _ _ _ _ _ _ _ _ _ _ _ _ _ _
set_option maxRecDepth 100000 in
set_option maxHeartbeats 4000000 in
theorem rb_5 (c : Cr) (B : Nat) (w : World) (e : Nat → Int) (Q : Exit → Act → World → Prop) (X : CX c B w e) (fin : cFin c B w e Q) (W : World) (H : CA w W B w.heap.size c) (u4 u5 u6 u9 u10 u13 u14 u17 u18 u21 u22 u26 u27 u29 u30 u32 u33 u35 u36 u38 u40 u42 u44 u46 u47 u48 u49 u50 u51 u52 u53 u54 u55 u56 u57 : Value) :
    wpAnyH Try.prog .any (opsOf crRg) Q (cS c B w) 12 #[true, true, true, true, true, true, true, true, true, true, true, true, true, true, true, true, true, true, true, false, true, true, false, true, true, false, true, true, false, true, true, false, true, false, true, false, true, false, true, false, false, false, false] ⟨#[.agg (carL c).toArray, .pointer (some ⟨w.heap.size, 0, none⟩), .int .i64 0, .int .i64 0, u4, u5, u6, .agg (carL c).toArray, .int .i64 (e 0), u9, u10, wheelV c 0, .int .i64 (e 1), u13, u14, wheelV c 1, .int .i64 (e 2), u17, u18, wheelV c 2, .int .i64 (e 3), u21, u22, wheelV c 3, .int .i64 (e 4), .agg (carL c).toArray, u26, u27, .slice c.d.a c.d.n c.d.c, u29, u30, .agg #[.slice c.t.x.a c.t.x.n c.t.x.c, .slice c.t.y.a c.t.y.n c.t.y.c, .slice c.t.a c.t.n c.t.c], u32, u33, .slice c.q.a c.q.n c.q.c, u35, u36, .slice c.r.a c.r.n c.r.c, u38, .agg (carL c).toArray, u40, .agg (carL c).toArray, u42, .agg (carL c).toArray, u44, .agg (carL c).toArray, u46, u47, u48, u49, u50, u51, u52, u53, u54, u55, u56, u57], []⟩ W := by
  conv => arg 3; arg 1; whnf
  dsimp only [opsOf]
  refine wpAnyH_twoD 19 41 (by kernel_rfl) (fun o ho K hK => ?_) (fun o ho K hK => ?_) (by kernel_rfl) (by kernel_rfl)
  · skip
    simp only [List.getElem?_toArray, List.getElem?_cons_succ, List.getElem?_cons_zero, Option.some.injEq] at ho
    subst ho
    go_simp
    refine (X.x5 W H).mono ?_
    rintro r w1 ⟨rfl, h⟩
    have H1 := H.step h
    go_wp2_with fail
    refine hK.out _ _ H1 ?_
    intro hHeld
    exact rb_6 c B w e Q X fin w1 H1 _ _ _ _ _ _ _ _ _ _ _ _ _ _ _ _ _ _ _ _ _ _ _ _ _ _ _ _ _ _ _ _ _ _
  · skip
    simp only [List.getElem?_toArray, List.getElem?_cons_succ, List.getElem?_cons_zero, Option.some.injEq] at ho
    subst ho
    go_simp
    refine hK.out _ _ (H.alloc _) ?_
    intro hHeld
    exact ra_5 c B w e Q X fin _ _ (H.alloc _) (BW.new W _ zrL 51 rfl) H.k.lt _ _ _ _ _ _ _ _ _ _ _ _ _ _ _ _ _ _ _ _ _ _ _ _ _ _ _ _ _ _ _ _ _ _
set_option maxRecDepth 100000 in
set_option maxHeartbeats 4000000 in
theorem rb_4 (c : Cr) (B : Nat) (w : World) (e : Nat → Int) (Q : Exit → Act → World → Prop) (X : CX c B w e) (fin : cFin c B w e Q) (W : World) (H : CA w W B w.heap.size c) (u4 u5 u6 u9 u10 u13 u14 u17 u18 u21 u22 u24 u26 u27 u29 u30 u32 u33 u35 u36 u38 u40 u42 u44 u46 u47 u48 u49 u50 u51 u52 u53 u54 u55 u56 u57 : Value) :
    wpAnyH Try.prog .any (opsOf crRg) Q (cS c B w) 13 #[true, true, true, true, true, true, true, true, true, true, true, true, true, true, true, true, true, false, true, false, true, true, false, true, true, false, true, true, false, true, true, false, true, false, true, false, true, false, true, false, false, false, false] ⟨#[.agg (carL c).toArray, .pointer (some ⟨w.heap.size, 0, none⟩), .int .i64 0, .int .i64 0, u4, u5, u6, .agg (carL c).toArray, .int .i64 (e 0), u9, u10, wheelV c 0, .int .i64 (e 1), u13, u14, wheelV c 1, .int .i64 (e 2), u17, u18, wheelV c 2, .int .i64 (e 3), u21, u22, wheelV c 3, u24, .agg (carL c).toArray, u26, u27, .slice c.d.a c.d.n c.d.c, u29, u30, .agg #[.slice c.t.x.a c.t.x.n c.t.x.c, .slice c.t.y.a c.t.y.n c.t.y.c, .slice c.t.a c.t.n c.t.c], u32, u33, .slice c.q.a c.q.n c.q.c, u35, u36, .slice c.r.a c.r.n c.r.c, u38, .agg (carL c).toArray, u40, .agg (carL c).toArray, u42, .agg (carL c).toArray, u44, .agg (carL c).toArray, u46, u47, u48, u49, u50, u51, u52, u53, u54, u55, u56, u57], []⟩ W := by
  conv => arg 3; arg 1; whnf
  dsimp only [opsOf]
  refine wpAnyH_twoD 17 41 (by kernel_rfl) (fun o ho K hK => ?_) (fun o ho K hK => ?_) (by kernel_rfl) (by kernel_rfl)
  · skip
    simp only [List.getElem?_toArray, List.getElem?_cons_succ, List.getElem?_cons_zero, Option.some.injEq] at ho
    subst ho
    go_simp
    refine (X.x4 W H).mono ?_
    rintro r w1 ⟨rfl, h⟩
    have H1 := H.step h
    go_wp2_with fail
    refine hK.out _ _ H1 ?_
    intro hHeld
    exact rb_5 c B w e Q X fin w1 H1 _ _ _ _ _ _ _ _ _ _ _ _ _ _ _ _ _ _ _ _ _ _ _ _ _ _ _ _ _ _ _ _ _ _ _
  · skip
    simp only [List.getElem?_toArray, List.getElem?_cons_succ, List.getElem?_cons_zero, Option.some.injEq] at ho
    subst ho
    go_simp
    refine hK.out _ _ (H.alloc _) ?_
    intro hHeld
    exact ra_4 c B w e Q X fin _ _ (H.alloc _) (BW.new W _ zrL 51 rfl) H.k.lt _ _ _ _ _ _ _ _ _ _ _ _ _ _ _ _ _ _ _ _ _ _ _ _ _ _ _ _ _ _ _ _ _ _ _
set_option maxRecDepth 100000 in
set_option maxHeartbeats 4000000 in
theorem rb_3 (c : Cr) (B : Nat) (w : World) (e : Nat → Int) (Q : Exit → Act → World → Prop) (X : CX c B w e) (fin : cFin c B w e Q) (W : World) (H : CA w W B w.heap.size c) (u4 u5 u6 u9 u10 u13 u14 u17 u18 u20 u21 u22 u24 u26 u27 u29 u30 u32 u33 u35 u36 u38 u40 u42 u44 u46 u47 u48 u49 u50 u51 u52 u53 u54 u55 u56 u57 : Value) :
    wpAnyH Try.prog .any (opsOf crRg) Q (cS c B w) 14 #[true, true, true, true, true, true, true, true, true, true, true, true, true, false, true, true, true, false, true, false, true, true, false, true, true, false, true, true, false, true, true, false, true, false, true, false, true, false, true, false, false, false, false] ⟨#[.agg (carL c).toArray, .pointer (some ⟨w.heap.size, 0, none⟩), .int .i64 0, .int .i64 0, u4, u5, u6, .agg (carL c).toArray, .int .i64 (e 0), u9, u10, wheelV c 0, .int .i64 (e 1), u13, u14, wheelV c 1, .int .i64 (e 2), u17, u18, wheelV c 2, u20, u21, u22, wheelV c 3, u24, .agg (carL c).toArray, u26, u27, .slice c.d.a c.d.n c.d.c, u29, u30, .agg #[.slice c.t.x.a c.t.x.n c.t.x.c, .slice c.t.y.a c.t.y.n c.t.y.c, .slice c.t.a c.t.n c.t.c], u32, u33, .slice c.q.a c.q.n c.q.c, u35, u36, .slice c.r.a c.r.n c.r.c, u38, .agg (carL c).toArray, u40, .agg (carL c).toArray, u42, .agg (carL c).toArray, u44, .agg (carL c).toArray, u46, u47, u48, u49, u50, u51, u52, u53, u54, u55, u56, u57], []⟩ W := by
  conv => arg 3; arg 1; whnf
  dsimp only [opsOf]
  refine wpAnyH_twoD 13 41 (by kernel_rfl) (fun o ho K hK => ?_) (fun o ho K hK => ?_) (by kernel_rfl) (by kernel_rfl)
  · skip
    simp only [List.getElem?_toArray, List.getElem?_cons_succ, List.getElem?_cons_zero, Option.some.injEq] at ho
    subst ho
    go_simp
    refine (X.x3 W H).mono ?_
    rintro r w1 ⟨rfl, h⟩
    have H1 := H.step h
    go_wp2_with fail
    refine hK.out _ _ H1 ?_
    intro hHeld
    exact rb_4 c B w e Q X fin w1 H1 _ _ _ _ _ _ _ _ _ _ _ _ _ _ _ _ _ _ _ _ _ _ _ _ _ _ _ _ _ _ _ _ _ _ _ _
  · skip
    simp only [List.getElem?_toArray, List.getElem?_cons_succ, List.getElem?_cons_zero, Option.some.injEq] at ho
    subst ho
    go_simp
    refine hK.out _ _ (H.alloc _) ?_
    intro hHeld
    exact ra_3 c B w e Q X fin _ _ (H.alloc _) (BW.new W _ zrL 51 rfl) H.k.lt _ _ _ _ _ _ _ _ _ _ _ _ _ _ _ _ _ _ _ _ _ _ _ _ _ _ _ _ _ _ _ _ _ _ _ _
set_option maxRecDepth 100000 in
set_option maxHeartbeats 4000000 in
theorem rb_2 (c : Cr) (B : Nat) (w : World) (e : Nat → Int) (Q : Exit → Act → World → Prop) (X : CX c B w e) (fin : cFin c B w e Q) (W : World) (H : CA w W B w.heap.size c) (u4 u5 u6 u9 u10 u13 u14 u16 u17 u18 u20 u21 u22 u24 u26 u27 u29 u30 u32 u33 u35 u36 u38 u40 u42 u44 u46 u47 u48 u49 u50 u51 u52 u53 u54 u55 u56 u57 : Value) :
    wpAnyH Try.prog .any (opsOf crRg) Q (cS c B w) 15 #[true, true, true, true, true, true, true, true, true, false, true, true, true, false, true, true, true, false, true, false, true, true, false, true, true, false, true, true, false, true, true, false, true, false, true, false, true, false, true, false, false, false, false] ⟨#[.agg (carL c).toArray, .pointer (some ⟨w.heap.size, 0, none⟩), .int .i64 0, .int .i64 0, u4, u5, u6, .agg (carL c).toArray, .int .i64 (e 0), u9, u10, wheelV c 0, .int .i64 (e 1), u13, u14, wheelV c 1, u16, u17, u18, wheelV c 2, u20, u21, u22, wheelV c 3, u24, .agg (carL c).toArray, u26, u27, .slice c.d.a c.d.n c.d.c, u29, u30, .agg #[.slice c.t.x.a c.t.x.n c.t.x.c, .slice c.t.y.a c.t.y.n c.t.y.c, .slice c.t.a c.t.n c.t.c], u32, u33, .slice c.q.a c.q.n c.q.c, u35, u36, .slice c.r.a c.r.n c.r.c, u38, .agg (carL c).toArray, u40, .agg (carL c).toArray, u42, .agg (carL c).toArray, u44, .agg (carL c).toArray, u46, u47, u48, u49, u50, u51, u52, u53, u54, u55, u56, u57], []⟩ W := by
  conv => arg 3; arg 1; whnf
  dsimp only [opsOf]
  refine wpAnyH_twoD 9 41 (by kernel_rfl) (fun o ho K hK => ?_) (fun o ho K hK => ?_) (by kernel_rfl) (by kernel_rfl)
  · skip
    simp only [List.getElem?_toArray, List.getElem?_cons_succ, List.getElem?_cons_zero, Option.some.injEq] at ho
    subst ho
    go_simp
    refine (X.x2 W H).mono ?_
    rintro r w1 ⟨rfl, h⟩
    have H1 := H.step h
    go_wp2_with fail
    refine hK.out _ _ H1 ?_
    intro hHeld
    exact rb_3 c B w e Q X fin w1 H1 _ _ _ _ _ _ _ _ _ _ _ _ _ _ _ _ _ _ _ _ _ _ _ _ _ _ _ _ _ _ _ _ _ _ _ _ _
  · skip
    simp only [List.getElem?_toArray, List.getElem?_cons_succ, List.getElem?_cons_zero, Option.some.injEq] at ho
    subst ho
    go_simp
    refine hK.out _ _ (H.alloc _) ?_
    intro hHeld
    exact ra_2 c B w e Q X fin _ _ (H.alloc _) (BW.new W _ zrL 51 rfl) H.k.lt _ _ _ _ _ _ _ _ _ _ _ _ _ _ _ _ _ _ _ _ _ _ _ _ _ _ _ _ _ _ _ _ _ _ _ _ _
set_option maxRecDepth 100000 in
set_option maxHeartbeats 4000000 in
theorem rb_1 (c : Cr) (B : Nat) (w : World) (e : Nat → Int) (Q : Exit → Act → World → Prop) (X : CX c B w e) (fin : cFin c B w e Q) (W : World) (H : CA w W B w.heap.size c) (u4 u5 u6 u9 u10 u12 u13 u14 u16 u17 u18 u20 u21 u22 u24 u26 u27 u29 u30 u32 u33 u35 u36 u38 u40 u42 u44 u46 u47 u48 u49 u50 u51 u52 u53 u54 u55 u56 u57 : Value) :
    wpAnyH Try.prog .any (opsOf crRg) Q (cS c B w) 16 #[true, true, true, true, true, false, true, true, true, false, true, true, true, false, true, true, true, false, true, false, true, true, false, true, true, false, true, true, false, true, true, false, true, false, true, false, true, false, true, false, false, false, false] ⟨#[.agg (carL c).toArray, .pointer (some ⟨w.heap.size, 0, none⟩), .int .i64 0, .int .i64 0, u4, u5, u6, .agg (carL c).toArray, .int .i64 (e 0), u9, u10, wheelV c 0, u12, u13, u14, wheelV c 1, u16, u17, u18, wheelV c 2, u20, u21, u22, wheelV c 3, u24, .agg (carL c).toArray, u26, u27, .slice c.d.a c.d.n c.d.c, u29, u30, .agg #[.slice c.t.x.a c.t.x.n c.t.x.c, .slice c.t.y.a c.t.y.n c.t.y.c, .slice c.t.a c.t.n c.t.c], u32, u33, .slice c.q.a c.q.n c.q.c, u35, u36, .slice c.r.a c.r.n c.r.c, u38, .agg (carL c).toArray, u40, .agg (carL c).toArray, u42, .agg (carL c).toArray, u44, .agg (carL c).toArray, u46, u47, u48, u49, u50, u51, u52, u53, u54, u55, u56, u57], []⟩ W := by
  conv => arg 3; arg 1; whnf
  dsimp only [opsOf]
  refine wpAnyH_twoD 5 41 (by kernel_rfl) (fun o ho K hK => ?_) (fun o ho K hK => ?_) (by kernel_rfl) (by kernel_rfl)
  · skip
    simp only [List.getElem?_toArray, List.getElem?_cons_succ, List.getElem?_cons_zero, Option.some.injEq] at ho
    subst ho
    go_simp
    refine (X.x1 W H).mono ?_
    rintro r w1 ⟨rfl, h⟩
    have H1 := H.step h
    go_wp2_with fail
    refine hK.out _ _ H1 ?_
    intro hHeld
    exact rb_2 c B w e Q X fin w1 H1 _ _ _ _ _ _ _ _ _ _ _ _ _ _ _ _ _ _ _ _ _ _ _ _ _ _ _ _ _ _ _ _ _ _ _ _ _ _
  · skip
    simp only [List.getElem?_toArray, List.getElem?_cons_succ, List.getElem?_cons_zero, Option.some.injEq] at ho
    subst ho
    go_simp
    refine hK.out _ _ (H.alloc _) ?_
    intro hHeld
    exact ra_1 c B w e Q X fin _ _ (H.alloc _) (BW.new W _ zrL 51 rfl) H.k.lt _ _ _ _ _ _ _ _ _ _ _ _ _ _ _ _ _ _ _ _ _ _ _ _ _ _ _ _ _ _ _ _ _ _ _ _ _ _
set_option maxRecDepth 100000 in
set_option maxHeartbeats 4000000 in
theorem rb_0 (c : Cr) (B : Nat) (w : World) (e : Nat → Int) (Q : Exit → Act → World → Prop) (X : CX c B w e) (fin : cFin c B w e Q) (W : World) (H : CA w W B w.heap.size c) (u4 u5 u6 u8 u9 u10 u12 u13 u14 u16 u17 u18 u20 u21 u22 u24 u26 u27 u29 u30 u32 u33 u35 u36 u38 u40 u42 u44 u46 u47 u48 u49 u50 u51 u52 u53 u54 u55 u56 u57 : Value) :
    wpAnyH Try.prog .any (opsOf crRg) Q (cS c B w) 17 #[true, false, true, true, true, false, true, true, true, false, true, true, true, false, true, true, true, false, true, false, true, true, false, true, true, false, true, true, false, true, true, false, true, false, true, false, true, false, true, false, false, false, false] ⟨#[.agg (carL c).toArray, .pointer (some ⟨w.heap.size, 0, none⟩), .int .i64 0, .int .i64 0, u4, u5, u6, .agg (carL c).toArray, u8, u9, u10, wheelV c 0, u12, u13, u14, wheelV c 1, u16, u17, u18, wheelV c 2, u20, u21, u22, wheelV c 3, u24, .agg (carL c).toArray, u26, u27, .slice c.d.a c.d.n c.d.c, u29, u30, .agg #[.slice c.t.x.a c.t.x.n c.t.x.c, .slice c.t.y.a c.t.y.n c.t.y.c, .slice c.t.a c.t.n c.t.c], u32, u33, .slice c.q.a c.q.n c.q.c, u35, u36, .slice c.r.a c.r.n c.r.c, u38, .agg (carL c).toArray, u40, .agg (carL c).toArray, u42, .agg (carL c).toArray, u44, .agg (carL c).toArray, u46, u47, u48, u49, u50, u51, u52, u53, u54, u55, u56, u57], []⟩ W := by
  conv => arg 3; arg 1; whnf
  dsimp only [opsOf]
  refine wpAnyH_twoD 1 41 (by kernel_rfl) (fun o ho K hK => ?_) (fun o ho K hK => ?_) (by kernel_rfl) (by kernel_rfl)
  · skip
    simp only [List.getElem?_toArray, List.getElem?_cons_succ, List.getElem?_cons_zero, Option.some.injEq] at ho
    subst ho
    go_simp
    refine (X.x0 W H).mono ?_
    rintro r w1 ⟨rfl, h⟩
    have H1 := H.step h
    go_wp2_with fail
    refine hK.out _ _ H1 ?_
    intro hHeld
    exact rb_1 c B w e Q X fin w1 H1 _ _ _ _ _ _ _ _ _ _ _ _ _ _ _ _ _ _ _ _ _ _ _ _ _ _ _ _ _ _ _ _ _ _ _ _ _ _ _
  · skip
    simp only [List.getElem?_toArray, List.getElem?_cons_succ, List.getElem?_cons_zero, Option.some.injEq] at ho
    subst ho
    go_simp
    refine hK.out _ _ (H.alloc _) ?_
    intro hHeld
    exact ra_0 c B w e Q X fin _ _ (H.alloc _) (BW.new W _ zrL 51 rfl) H.k.lt _ _ _ _ _ _ _ _ _ _ _ _ _ _ _ _ _ _ _ _ _ _ _ _ _ _ _ _ _ _ _ _ _ _ _ _ _ _ _
end Go.Proofs.Ytbpmbdnhfkfkhaa

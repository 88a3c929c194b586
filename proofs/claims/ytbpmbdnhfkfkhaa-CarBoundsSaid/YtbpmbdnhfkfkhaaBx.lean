/- Contracts of package fx: what becomes of a receiver; beyond. -/
import Derived.Test.YtbpmbdnhfkfkhaaBv
import Derived.Test.YtbpmbdnhfkfkhaaBw
import Derived.Test.YtbpmbdnhfkfkhaaBn
import Derived.Deep.RegionHeld3
import Derived.Deep.RegionWith
namespace Go.Proofs.Ytbpmbdnhfkfkhaa
open Go.RowKit

/-- a receiver's flag lies at a place, and may be written -/
structure MAt (w : World) (b k : Nat) (o : Bool) : Prop where
  c : w.cell? ⟨b, k, none⟩ = some (.bool o)
  f : w.frozen? ⟨b, k, none⟩ = false
  lt : b < w.heap.size
/-- below B the world is as it was, but that the flag there is o -/
def FxW (B : Nat) (w : World) (b k : Nat) (o : Bool) (w' : World) : Prop := Below B (w.setCell ⟨b, k, none⟩ (.bool o)) w'

theorem set_size (w : World) (a : Addr) (v : Value) : (w.setCell a v).heap.size = w.heap.size := by simp [World.setCell]
theorem setIf_self {c : Array Value} {k : Nat} {v : Value} (hc : c[k]? = some v) : c.setIfInBounds k v = c := by
  apply Array.ext_getElem?
  intro j
  rw [Array.getElem?_setIfInBounds]
  by_cases e : k = j
  · subst e
    rw [if_pos rfl]
    by_cases hk : k < c.size
    · rw [if_pos hk, hc]
    · rw [if_neg hk]; simp; omega
  · rw [if_neg e]
theorem FxW.refl {w : World} {b k : Nat} {o : Bool} (h : MAt w b k o) : FxW w.heap.size w b k o w := by
  unfold FxW
  have e : w.setCell ⟨b, k, none⟩ (.bool o) = w := by
    have hc := h.c
    unfold World.cell? at hc
    unfold World.setCell
    congr 1
    apply Array.ext_getElem?
    intro j
    rw [Array.getElem?_modify]
    by_cases ej : b = j
    · subst ej
      rw [if_pos rfl]
      cases hh : w.heap[b]? with
      | none => rfl
      | some ob =>
        simp only [hh] at hc
        cases ob with
        | cells c t f =>
          simp at hc
          simp [setIf_self hc]
        | _ => rfl
    · rw [if_neg ej]
  rw [e]; exact Below.refl _ _
theorem set_set (w : World) (b k : Nat) (u v : Value) : (w.setCell ⟨b, k, none⟩ u).setCell ⟨b, k, none⟩ v = w.setCell ⟨b, k, none⟩ v := by
  unfold World.setCell
  congr 1
  apply Array.ext_getElem?
  intro j
  simp only [Array.getElem?_modify]
  by_cases ej : b = j
  · subst ej
    rw [if_pos rfl, if_pos rfl, if_pos rfl]
    cases w.heap[b]? with
    | none => rfl
    | some ob => cases ob <;> simp
  · rw [if_neg ej, if_neg ej, if_neg ej]
theorem below_set {B : Nat} {w w' : World} (h : Below B w w') (a : Addr) (v : Value) : Below B (w.setCell a v) (w'.setCell a v) := by
  refine ⟨h.os, h.tape, h.output, ?_, fun j hj => ?_⟩
  · rw [set_size, set_size]; exact h.size
  · unfold World.setCell
    simp only [Array.getElem?_modify]
    by_cases e : a.block = j
    · subst e; rw [if_pos rfl, if_pos rfl, h.block _ hj]
    · rw [if_neg e, if_neg e]; exact h.block j hj
theorem FxW.trans {B : Nat} {w w1 w2 : World} {b k : Nat} {o p : Bool} (h : FxW B w b k o w1) (g : FxW B w1 b k p w2) : FxW B w b k p w2 := by
  have := below_set h ⟨b, k, none⟩ (.bool p)
  rw [set_set] at this
  exact this.trans g
theorem FxW.mono {B C : Nat} {w w' : World} {b k : Nat} {o : Bool} (h : FxW B w b k o w') (hB : C ≤ B) : FxW C w b k o w' := Below.mono h hB
theorem FxW.size {B : Nat} {w w' : World} {b k : Nat} {o : Bool} (h : FxW B w b k o w') : w.heap.size ≤ w'.heap.size := by
  have := Below.size h; rw [set_size] at this; exact this
theorem FxW.at {B : Nat} {w w' : World} {b k : Nat} {o p : Bool} (m : MAt w b k p) (h : FxW B w b k o w') (hb : b < B) : MAt w' b k o :=
  ⟨(Below.cell h (p := ⟨b, k, none⟩) hb).trans (World.cell?_setCell_same _ _ _ m.c), (Below.frozen h (p := ⟨b, k, none⟩) hb).trans ((World.frozen?_setCell _ _ _ _).trans m.f), by have := h.size; have := m.lt; omega⟩
/-- whatever lies elsewhere reads as it did -/
theorem FxW.cell {B : Nat} {w w' : World} {b k : Nat} {o : Bool} (h : FxW B w b k o w') {n j : Nat} (hn : n < B) (e : b ≠ n) : w'.cell? ⟨n, j, none⟩ = w.cell? ⟨n, j, none⟩ :=
  (Below.cell h (p := ⟨n, j, none⟩) hn).trans (World.cell?_setCell_other _ _ _ _ (fun e' => e (congrArg Addr.block e')))
theorem FxW.frozen {B : Nat} {w w' : World} {b k : Nat} {o : Bool} (h : FxW B w b k o w') {n j : Nat} (hn : n < B) : w'.frozen? ⟨n, j, none⟩ = w.frozen? ⟨n, j, none⟩ :=
  (Below.frozen h (p := ⟨n, j, none⟩) hn).trans (World.frozen?_setCell _ _ _ _)
theorem FxW.far {B : Nat} {w w' : World} {b k n j : Nat} {o p : Bool} (m : MAt w n j p) (h : FxW B w b k o w') (hn : n < B) (e : b ≠ n) : MAt w' n j p :=
  ⟨(h.cell hn e).trans m.c, (h.frozen hn).trans m.f, by have := h.size; have := m.lt; omega⟩
theorem FxW.below {B C : Nat} {w w' : World} {b k : Nat} {o : Bool} (h : FxW B w b k o w') (hC : C ≤ B) (hb : C ≤ b) : Below C w w' :=
  ((Below.refl C w).setCell (p := ⟨b, k, none⟩) hb _).trans (Below.mono h hC)
/-- a call of its own blocks ahead of one that writes the flag -/
theorem FxW.behind {B C : Nat} {w w1 w2 : World} {b k : Nat} {o : Bool} (h : Below B w w1) (g : FxW C w1 b k o w2) (hC : B ≤ C) : FxW B w b k o w2 :=
  (below_set h _ _).trans (Below.mono g hC)
theorem FxW.then {B C : Nat} {w w1 w2 : World} {b k : Nat} {o : Bool} (h : FxW B w b k o w1) (g : Below C w1 w2) (hC : B ≤ C) : FxW B w b k o w2 :=
  Below.trans h (g.mono hC)
theorem MAt.below {B : Nat} {w w' : World} {b k : Nat} {o : Bool} (m : MAt w b k o) (h : Below B w w') (hb : b < B) : MAt w' b k o :=
  ⟨(h.cell (p := ⟨b, k, none⟩) hb).trans m.c, (h.frozen (p := ⟨b, k, none⟩) hb).trans m.f, by have := h.size; have := m.lt; omega⟩
theorem MAt.new (w : World) (o : Bool) (t : TypeId) : MAt (w.alloc (.cells #[.bool o] t)) w.heap.size 0 o :=
  ⟨World.cell?_alloc_new w _ t 0, by go_simp, by simp⟩
theorem MAt.alloc {w : World} {b k : Nat} {o : Bool} (m : MAt w b k o) (ob : Obj) : MAt (w.alloc ob) b k o :=
  m.below ((Below.refl w.heap.size w).alloc (Nat.le_refl _) ob) m.lt
theorem MAt.drew {w : World} {b k : Nat} {o : Bool} (m : MAt w b k o) : MAt w.drew b k o := ⟨m.c, m.f, m.lt⟩

theorem beyond_any (b k : Nat) (o : Bool) (s : Int) (w : World) (m : MAt w b k o) :
    Calls Try.prog 51 #[.pointer (some ⟨b, k, none⟩), .int .i64 s] w fun e w' => e = .returned (.int .i64 (satS s)) ∧ w' = w.setCell ⟨b, k, none⟩ (.bool true) := by
  have c := m.c
  have f := m.f
  by_cases p : 0 < s
  · have K := Lib.hid (show (9223372036854775807 : Int) = satS s by unfold satS; rw [if_pos p])
    go_enter Try.func51, Try.ntmps51
    go_wp2
    go_ret
    exact ⟨retI K.out, rfl⟩
  · by_cases q : s < 0
    · have K := Lib.hid (show (-9223372036854775808 : Int) = satS s by unfold satS; rw [if_neg p, if_pos q])
      go_enter Try.func51, Try.ntmps51
      go_wp2
      go_ret
      exact ⟨retI K.out, rfl⟩
    · have K := Lib.hid (show (0 : Int) = satS s by unfold satS; rw [if_neg p, if_neg q])
      go_enter Try.func51, Try.ntmps51
      go_wp2
      go_ret
      exact ⟨retI K.out, rfl⟩
theorem beyond_nil (s : Int) (w : World) :
    Calls Try.prog 51 #[.pointer none, .int .i64 s] w fun e w' => e = .returned (.int .i64 (satS s)) ∧ w' = w := by
  by_cases p : 0 < s
  · have K := Lib.hid (show (9223372036854775807 : Int) = satS s by unfold satS; rw [if_pos p])
    go_enter Try.func51, Try.ntmps51
    go_wp2
    go_ret
    exact ⟨retI K.out, rfl⟩
  · by_cases q : s < 0
    · have K := Lib.hid (show (-9223372036854775808 : Int) = satS s by unfold satS; rw [if_neg p, if_pos q])
      go_enter Try.func51, Try.ntmps51
      go_wp2
      go_ret
      exact ⟨retI K.out, rfl⟩
    · have K := Lib.hid (show (0 : Int) = satS s by unfold satS; rw [if_neg p, if_neg q])
      go_enter Try.func51, Try.ntmps51
      go_wp2
      go_ret
      exact ⟨retI K.out, rfl⟩
end Go.Proofs.Ytbpmbdnhfkfkhaa
namespace Go.Proofs.Ytbpmbdnhfkfkhaa
open Go.RowKit

theorem FxW.put {B : Nat} {w w' : World} {b k : Nat} {o : Bool} (h : Below B w w') : FxW B w b k o (w'.setCell ⟨b, k, none⟩ (.bool o)) := below_set h _ _
set_option maxHeartbeats 1000000 in
theorem narrow_any (n : Int) (b k : Nat) (o : Bool) (w : World) (hn : In128 n) (m : MAt w b k o) :
    Calls Try.prog 71 #[.agg #[.int .i64 (hiW n), .int .u64 (loW n)], .func (.func 51) #[.pointer (some ⟨b, k, none⟩)] #[]] w fun e w' => e = .returned (.int .i64 (clip64 n)) ∧ FxW w.heap.size w b k (o || out64 n) w' := by
  obtain ⟨x, hx⟩ : ∃ x, wrap64 (loW n) = x := ⟨_, rfl⟩
  have L := low64 (n := n) (x := x) (by rw [← hx]; unfold wrap64; rfl)
  have x0 := L.1.1
  have x1 := L.1.2
  have HM := Lib.hid m
  have M0 := m.lt
  have HN := Lib.hid hn
  by_cases p : In64 n
  · have e := L.2.1 p
    subst e
    have K := Lib.hid (clip64_of p)
    clear p L
    go_enter Try.func71, Try.ntmps71
    go_wp2
    have C : CellW (w.alloc (.cells #[.int .i64 (hiW x), .int .u64 (loW x)] 73)) w.heap.size (hiW x) (loW x) := CellW.new w _ _ _
    have HS := Lib.hid (start1 (B := w.heap.size) (w := w) C (by simp) (by simp) (by repeat (first | exact Below.refl _ _ | assumption | refine Below.setCell ?_ (by first | omega | (simp; done) | (simp; omega)) _ | refine Below.alloc ?_ (by first | omega | (simp; done) | (simp; omega)) _ | refine below_drewN ?_ _ | refine Below.drew ?_ | refine Below.trans ?_ (Below.mono (by assumption) (by first | omega | (simp; done) | (simp; omega))))))
    clear C
    go_region_held3 (fun W => (W.cell? ⟨w.heap.size, 0, none⟩ = some (.int .i64 (hiW x)) ∧ W.cell? ⟨w.heap.size, 1, none⟩ = some (.int .u64 (loW x))) ∧ w.heap.size < W.heap.size ∧ w.heap.size ≤ W.heap.size ∧ Below w.heap.size w W)
        (first | exact keep1 ((Below.refl _ _).drew) HS.out | exact keep1 hb (by assumption))
        (first
          | (go_at_call 69; refine (Of_any _ _ x0 x1).mono ?_; rintro e w' ⟨rfl, hb⟩))
    go_wp2
    go_ret
    exact ⟨retI K.out.1.symm, FxW.then (by rw [K.out.2, Bool.or_false]; exact FxW.refl HM.out) (end1 (by assumption)) (Nat.le_refl _)⟩
  · have ne := L.2.2 p
    have le : loW x = loW n := by rw [← hx]; unfold loW wrap64; omega
    have he : (hiW x == hiW n) = false := by
      rw [beq_eq_false_iff_ne]; intro c; exact ne (hilo_eq c le)
    have K := Lib.hid (clip64_out p)
    have LE := Lib.hid le
    clear p L ne le
    have hmf : ∀ (fn : Fn) (first cap : Array Value) (w : World), (Instr.makeFunc fn first cap).run Try.prog w = .ok (.func fn first cap) w := fun _ _ _ _ => rfl
    go_enter Try.func71, Try.ntmps71
    go_wp2
    have C : CellW (w.alloc (.cells #[.int .i64 (hiW n), .int .u64 (loW n)] 73)) w.heap.size (hiW n) (loW n) := CellW.new w _ _ _
    have HS := Lib.hid (start1 (B := w.heap.size) (w := w) C (by simp) (by simp) (by repeat (first | exact Below.refl _ _ | assumption | refine Below.setCell ?_ (by first | omega | (simp; done) | (simp; omega)) _ | refine Below.alloc ?_ (by first | omega | (simp; done) | (simp; omega)) _ | refine below_drewN ?_ _ | refine Below.drew ?_ | refine Below.trans ?_ (Below.mono (by assumption) (by first | omega | (simp; done) | (simp; omega))))))
    clear C
    go_region_held3 (fun W => (W.cell? ⟨w.heap.size, 0, none⟩ = some (.int .i64 (hiW n)) ∧ W.cell? ⟨w.heap.size, 1, none⟩ = some (.int .u64 (loW n))) ∧ w.heap.size < W.heap.size ∧ w.heap.size ≤ W.heap.size ∧ Below w.heap.size w W)
        (first | exact keep1 ((Below.refl _ _).drew) HS.out | exact keep1 hb (by assumption))
        (first
          | (go_at_call 69; refine (Of_any _ _ x0 x1).mono ?_; rintro e w' ⟨rfl, hb⟩))
    rename_i hH
    have hB : Below w.heap.size w w' := end1 hH
    have HB := Lib.hid hB
    have z : w.heap.size < w'.heap.size := hH.2.1
    clear hB
    go_wp2_with fail
    refine (Sign_n n _ HN.out).mono ?_
    rintro e w2 ⟨rfl, hb2⟩
    have B2 : Below w.heap.size w w2 := HB.out.trans (hb2.mono (by omega))
    have M2 := HM.out.below B2 M0
    have HB2 := Lib.hid B2
    clear B2 hb2 hb
    go_wp2_with fail
    refine (beyond_any b k o _ _ M2).mono ?_
    rintro e w3 ⟨rfl, rfl⟩
    go_wp2
    go_ret
    exact ⟨retI (by rw [K.out.1, satS_cmp]), by rw [K.out.2, Bool.or_true]; exact FxW.put HB2.out⟩
end Go.Proofs.Ytbpmbdnhfkfkhaa
namespace Go.Proofs.Ytbpmbdnhfkfkhaa
open Go.RowKit

theorem cmpI_bd (a b : Int) : -1 ≤ cmpI a b ∧ cmpI a b ≤ 1 := by
  unfold cmpI; split <;> (try split) <;> omega
set_option maxHeartbeats 1000000 in
theorem quotient_any (n y : Int) (b k : Nat) (o : Bool) (w : World) (hn : In128 n) (y0 : -9223372036854775808 ≤ y) (y1 : y ≤ 9223372036854775807) (m : MAt w b k o) :
    Calls Try.prog 49 #[.agg #[.int .i64 (hiW n), .int .u64 (loW n)], .int .i64 y, .func (.func 51) #[.pointer (some ⟨b, k, none⟩)] #[]] w fun e w' => e = .returned (.int .i64 (quoF n y)) ∧ FxW w.heap.size w b k (o || quoO n y) w' := by
  have HM := Lib.hid m
  have M0 := m.lt
  have HN := Lib.hid hn
  have s0 := (cmpI_bd n 0).1
  have s1 := (cmpI_bd n 0).2
  clear hn m
  by_cases p : y = 0
  · subst p
    have K := Lib.hid (show satS (cmpI n 0) = quoF n 0 ∧ quoO n 0 = true from ⟨by unfold quoF; rw [if_pos rfl, satS_cmp], by unfold quoO; rw [if_pos rfl]⟩)
    have D := Lib.hid (div_zero n)
    have hmf : ∀ (fn : Fn) (first cap : Array Value) (w : World), (Instr.makeFunc fn first cap).run Try.prog w = .ok (.func fn first cap) w := fun _ _ _ _ => rfl
    go_enter Try.func49, Try.ntmps49
    go_wp2_with fail
    refine (Div_any _ _ n _ _ (isW_of HN.out) y0 y1).mono ?_
    rw [← D.out.1, ← D.out.2]
    clear D
    rintro e w1 ⟨rfl, hb1⟩
    obtain ⟨hc_w1, hf_w1⟩ := bcell hb1
    have z_w1 := hb1.size
    try simp at z_w1
    have z0_w1 : w.heap.size < w1.heap.size := by omega
    have y_w1 : w.heap.size ≤ w1.heap.size := by omega
    go_wp2_with fail
    refine (Sign_n n _ HN.out).mono ?_
    rintro e w2 ⟨rfl, hb2⟩
    obtain ⟨hc_w2, hf_w2⟩ := bcell hb2
    have z_w2 := hb2.size
    try simp at z_w2
    have z0_w2 : w.heap.size < w2.heap.size := by omega
    have y_w2 : w.heap.size ≤ w2.heap.size := by omega
    have B2 : Below w.heap.size w w2 := by repeat (first | exact Below.refl _ _ | assumption | refine Below.setCell ?_ (by first | omega | (simp; done) | (simp; omega)) _ | refine Below.alloc ?_ (by first | omega | (simp; done) | (simp; omega)) _ | refine below_drewN ?_ _ | refine Below.drew ?_ | refine Below.trans ?_ (Below.mono (by assumption) (by first | omega | (simp; done) | (simp; omega))))
    have M2 := HM.out.below B2 M0
    have HB2 := Lib.hid B2
    clear B2 hb1 hb2 hc_w1 hf_w1 hc_w2 hf_w2
    go_wp2_with fail
    refine (beyond_any b k o _ _ M2).mono ?_
    rintro e w3 ⟨rfl, rfl⟩
    go_wp2
    go_ret
    exact ⟨retI K.out.1, by rw [K.out.2, Bool.or_true]; exact FxW.put HB2.out⟩
  · have D := div_fit (a := n) p
    by_cases q : In64 (rq n y)
    · have D1 := D.1.2 q
      have D2 := D.2 D1
      have K := Lib.hid (show rq n y = quoF n y ∧ quoO n y = false from ⟨by unfold quoF; rw [if_neg p, (clip64_of q).1], by unfold quoO; rw [if_neg p, (clip64_of q).2]⟩)
      have q0 := q.1
      have q1 := q.2
      have hmf : ∀ (fn : Fn) (first cap : Array Value) (w : World), (Instr.makeFunc fn first cap).run Try.prog w = .ok (.func fn first cap) w := fun _ _ _ _ => rfl
      go_enter Try.func49, Try.ntmps49
      go_wp2_with fail
      refine (Div_any _ _ n _ _ (isW_of HN.out) y0 y1).mono ?_
      rw [D1, D2]
      clear D D1 D2
      rintro e w1 ⟨rfl, hb1⟩
      obtain ⟨hc_w1, hf_w1⟩ := bcell hb1
      have z_w1 := hb1.size
      try simp at z_w1
      have z0_w1 : w.heap.size < w1.heap.size := by omega
      have y_w1 : w.heap.size ≤ w1.heap.size := by omega
      go_wp2
      go_ret
      exact ⟨retI K.out.1, by rw [K.out.2, Bool.or_false]; exact FxW.then (FxW.refl HM.out) (by repeat (first | exact Below.refl _ _ | assumption | refine Below.setCell ?_ (by first | omega | (simp; done) | (simp; omega)) _ | refine Below.alloc ?_ (by first | omega | (simp; done) | (simp; omega)) _ | refine below_drewN ?_ _ | refine Below.drew ?_ | refine Below.trans ?_ (Below.mono (by assumption) (by first | omega | (simp; done) | (simp; omega))))) (Nat.le_refl _)⟩
    · have D1 : divB n y = false := by rw [Bool.eq_false_iff]; exact fun c => q (D.1.1 c)
      have D3 := rq_sign (a := n) p q
      have K1 : quoF n y = if y < 0 then satS (-(cmpI n 0)) else satS (cmpI n 0) := by
        unfold quoF; rw [if_neg p, (clip64_out q).1, D3]
      have K2 : quoO n y = true := by unfold quoO; rw [if_neg p, (clip64_out q).2]
      by_cases r : y < 0
      · have K := Lib.hid (show satS (-(cmpI n 0)) = quoF n y ∧ quoO n y = true from ⟨by rw [K1, if_pos r], K2⟩)
        clear D D3 K1 K2
        have hmf : ∀ (fn : Fn) (first cap : Array Value) (w : World), (Instr.makeFunc fn first cap).run Try.prog w = .ok (.func fn first cap) w := fun _ _ _ _ => rfl
        go_enter Try.func49, Try.ntmps49
        go_wp2_with fail
        refine (Div_any _ _ n _ _ (isW_of HN.out) y0 y1).mono ?_
        rw [D1]
        clear D1
        rintro e w1 ⟨rfl, hb1⟩
        obtain ⟨hc_w1, hf_w1⟩ := bcell hb1
        have z_w1 := hb1.size
        try simp at z_w1
        have z0_w1 : w.heap.size < w1.heap.size := by omega
        have y_w1 : w.heap.size ≤ w1.heap.size := by omega
        go_wp2_with fail
        refine (Sign_n n _ HN.out).mono ?_
        rintro e w2 ⟨rfl, hb2⟩
        obtain ⟨hc_w2, hf_w2⟩ := bcell hb2
        have z_w2 := hb2.size
        try simp at z_w2
        have z0_w2 : w.heap.size < w2.heap.size := by omega
        have y_w2 : w.heap.size ≤ w2.heap.size := by omega
        have B2 : Below w.heap.size w w2 := by repeat (first | exact Below.refl _ _ | assumption | refine Below.setCell ?_ (by first | omega | (simp; done) | (simp; omega)) _ | refine Below.alloc ?_ (by first | omega | (simp; done) | (simp; omega)) _ | refine below_drewN ?_ _ | refine Below.drew ?_ | refine Below.trans ?_ (Below.mono (by assumption) (by first | omega | (simp; done) | (simp; omega))))
        have M2 := HM.out.below B2 M0
        have HB2 := Lib.hid B2
        clear B2 hb1 hb2 hc_w1 hf_w1 hc_w2 hf_w2
        go_wp2_with fail
        refine (beyond_any b k o _ _ M2).mono ?_
        rintro e w3 ⟨rfl, rfl⟩
        go_wp2
        go_ret
        exact ⟨retI K.out.1, by rw [K.out.2, Bool.or_true]; exact FxW.put HB2.out⟩
      · have K := Lib.hid (show satS (cmpI n 0) = quoF n y ∧ quoO n y = true from ⟨by rw [K1, if_neg r], K2⟩)
        clear D D3 K1 K2
        have hmf : ∀ (fn : Fn) (first cap : Array Value) (w : World), (Instr.makeFunc fn first cap).run Try.prog w = .ok (.func fn first cap) w := fun _ _ _ _ => rfl
        go_enter Try.func49, Try.ntmps49
        go_wp2_with fail
        refine (Div_any _ _ n _ _ (isW_of HN.out) y0 y1).mono ?_
        rw [D1]
        clear D1
        rintro e w1 ⟨rfl, hb1⟩
        obtain ⟨hc_w1, hf_w1⟩ := bcell hb1
        have z_w1 := hb1.size
        try simp at z_w1
        have z0_w1 : w.heap.size < w1.heap.size := by omega
        have y_w1 : w.heap.size ≤ w1.heap.size := by omega
        go_wp2_with fail
        refine (Sign_n n _ HN.out).mono ?_
        rintro e w2 ⟨rfl, hb2⟩
        obtain ⟨hc_w2, hf_w2⟩ := bcell hb2
        have z_w2 := hb2.size
        try simp at z_w2
        have z0_w2 : w.heap.size < w2.heap.size := by omega
        have y_w2 : w.heap.size ≤ w2.heap.size := by omega
        have B2 : Below w.heap.size w w2 := by repeat (first | exact Below.refl _ _ | assumption | refine Below.setCell ?_ (by first | omega | (simp; done) | (simp; omega)) _ | refine Below.alloc ?_ (by first | omega | (simp; done) | (simp; omega)) _ | refine below_drewN ?_ _ | refine Below.drew ?_ | refine Below.trans ?_ (Below.mono (by assumption) (by first | omega | (simp; done) | (simp; omega))))
        have M2 := HM.out.below B2 M0
        have HB2 := Lib.hid B2
        clear B2 hb1 hb2 hc_w1 hf_w1 hc_w2 hf_w2
        go_wp2_with fail
        refine (beyond_any b k o _ _ M2).mono ?_
        rintro e w3 ⟨rfl, rfl⟩
        go_wp2
        go_ret
        exact ⟨retI K.out.1, by rw [K.out.2, Bool.or_true]; exact FxW.put HB2.out⟩
end Go.Proofs.Ytbpmbdnhfkfkhaa
namespace Go.Proofs.Ytbpmbdnhfkfkhaa
open Go.RowKit

theorem add_128 {a b : Int} (a0 : -9223372036854775808 ≤ a) (a1 : a ≤ 9223372036854775807) (b0 : -9223372036854775808 ≤ b) (b1 : b ≤ 9223372036854775807) : In128 (a + b) ∧ In128 (a - b) ∧ In128 a ∧ In128 b ∧ In128 (-b) := by
  unfold In128; omega
theorem mul_128 {a b : Int} (a0 : -9223372036854775808 ≤ a) (a1 : a ≤ 9223372036854775807) (b0 : -9223372036854775808 ≤ b) (b1 : b ≤ 9223372036854775807) : In128 (a * b) := by
  have := mul_bound a0 (by omega) b0 (by omega)
  unfold In128; omega
set_option maxHeartbeats 2000000 in
theorem fxSub_any (x y : Int) (b k : Nat) (o : Bool) (w : World) (x0 : -9223372036854775808 ≤ x) (x1 : x ≤ 9223372036854775807) (y0 : -9223372036854775808 ≤ y) (y1 : y ≤ 9223372036854775807) (m : MAt w b k o) :
    Calls Try.prog 52 #[.pointer (some ⟨b, k, none⟩), .int .i64 x, .int .i64 y] w fun e w' => e = .returned (.int .i64 (subF x y)) ∧ FxW w.heap.size w b k (o || subO x y) w' := by
  have I := Lib.hid (add_128 x0 x1 y0 y1)
  have I2 := Lib.hid (show x + -y = x - y by omega)
  have hmf : ∀ (fn : Fn) (first cap : Array Value) (w : World), (Instr.makeFunc fn first cap).run Try.prog w = .ok (.func fn first cap) w := fun _ _ _ _ => rfl
  have HM := Lib.hid m
  have M0 := m.lt
  clear m
  go_enter Try.func52, Try.ntmps52
  go_wp2_with fail
  refine (Of_any y _ y0 y1).mono ?_
  rintro e w1 ⟨rfl, hb1⟩
  obtain ⟨hc_w1, hf_w1⟩ := bcell hb1
  have z_w1 := hb1.size
  try simp at z_w1
  have y_w1 : w.heap.size ≤ w1.heap.size := by omega
  go_wp2_with fail
  refine (Neg_yes y (-y) _ I.out.2.2.2.1 rfl I.out.2.2.2.2).mono ?_
  rintro e w2 ⟨rfl, hb2⟩
  obtain ⟨hc_w2, hf_w2⟩ := bcell hb2
  have z_w2 := hb2.size
  try simp at z_w2
  have y_w2 : w.heap.size ≤ w2.heap.size := by omega
  have B2 : Below w.heap.size w w2 := by repeat (first | exact Below.refl _ _ | assumption | refine Below.setCell ?_ (by first | omega | (simp; done) | (simp; omega)) _ | refine Below.alloc ?_ (by first | omega | (simp; done) | (simp; omega)) _ | refine below_drewN ?_ _ | refine Below.drew ?_ | refine Below.trans ?_ (Below.mono (by assumption) (by first | omega | (simp; done) | (simp; omega))))
  have HB2 := Lib.hid B2
  have y2 : w.heap.size ≤ w2.heap.size := B2.size
  clear B2 hb1 hb2 hc_w1 hf_w1 hc_w2 hf_w2
  go_wp2_with fail
  have C : CellW (w2.alloc (.cells #[.int .i64 (hiW (-y)), .int .u64 (loW (-y))] 73)) w2.heap.size (hiW (-y)) (loW (-y)) := CellW.new w2 _ _ _
  have c0 := C.c0
  have c1 := C.c1
  have HC := Lib.hid C
  clear C
  go_region_with (first | (go_at_call 69; refine (Of_any x _ x0 x1).mono ?_; rintro e w5 ⟨rfl, hb5⟩; have z5 : w2.heap.size < w5.heap.size := (by have := hb5.size; (try simp at this); omega); (try (have z5b : w2.heap.size + 1 < w5.heap.size := (by have := hb5.size; (try simp at this); omega))); obtain ⟨hc_w5, hf_w5⟩ := bcell hb5) | (go_at_call 70; refine (Add_yes x (-y) (x - y) _ I.out.2.2.1 I.out.2.2.2.2 I2.out I.out.2.1).mono ?_; rintro e w6 ⟨rfl, hb6⟩; have z6 : w2.heap.size < w6.heap.size := (by have := hb6.size; (try simp at this); omega); (try (have z6b : w2.heap.size + 1 < w6.heap.size := (by have := hb6.size; (try simp at this); omega))); (try (have z6c : w5.heap.size < w6.heap.size := (by have := hb6.size; (try simp at this); omega))); obtain ⟨hc_w6, hf_w6⟩ := bcell hb6))
  all_goals
    have B2 := HB2.out
    go_wp2_with fail
    refine (narrow_any _ b k o _ I.out.2.1 (HM.out.below (B := w.heap.size) (by repeat (first | exact Below.refl _ _ | assumption | refine Below.setCell ?_ (by first | omega | (simp; done) | (simp; omega)) _ | refine Below.alloc ?_ (by first | omega | (simp; done) | (simp; omega)) _ | refine below_drewN ?_ _ | refine Below.drew ?_ | refine Below.trans ?_ (Below.mono (by assumption) (by first | omega | (simp; done) | (simp; omega))))) M0)).mono ?_
    rintro e w9 ⟨rfl, hb9⟩
    go_wp2
    go_ret
    exact ⟨rfl, FxW.behind (by repeat (first | exact Below.refl _ _ | assumption | refine Below.setCell ?_ (by first | omega | (simp; done) | (simp; omega)) _ | refine Below.alloc ?_ (by first | omega | (simp; done) | (simp; omega)) _ | refine below_drewN ?_ _ | refine Below.drew ?_ | refine Below.trans ?_ (Below.mono (by assumption) (by first | omega | (simp; done) | (simp; omega))))) hb9 (by simp [World.setCell]; omega)⟩
end Go.Proofs.Ytbpmbdnhfkfkhaa
namespace Go.Proofs.Ytbpmbdnhfkfkhaa
open Go.RowKit

theorem fxNeg_any (x : Int) (b k : Nat) (o : Bool) (w : World) (x0 : -9223372036854775808 ≤ x) (x1 : x ≤ 9223372036854775807) (m : MAt w b k o) :
    Calls Try.prog 37 #[.pointer (some ⟨b, k, none⟩), .int .i64 x] w fun e w' => e = .returned (.int .i64 (subF 0 x)) ∧ FxW w.heap.size w b k (o || subO 0 x) w' := by
  go_enter Try.func37, Try.ntmps37
  go_wp2_with fail
  refine (fxSub_any 0 x b k o _ (by omega) (by omega) x0 x1 m).mono ?_
  rintro e w9 ⟨rfl, hb9⟩
  go_wp2
  go_ret
  exact ⟨rfl, hb9⟩
theorem fxMul_any (x y : Int) (b k : Nat) (o : Bool) (w : World) (x0 : -9223372036854775808 ≤ x) (x1 : x ≤ 9223372036854775807) (y0 : -9223372036854775808 ≤ y) (y1 : y ≤ 9223372036854775807) (m : MAt w b k o) :
    Calls Try.prog 36 #[.pointer (some ⟨b, k, none⟩), .int .i64 x, .int .i64 y] w fun e w' => e = .returned (.int .i64 (mulF x y)) ∧ FxW w.heap.size w b k (o || mulO x y) w' := by
  have I := Lib.hid (mul_128 x0 x1 y0 y1)
  have hmf : ∀ (fn : Fn) (first cap : Array Value) (w : World), (Instr.makeFunc fn first cap).run Try.prog w = .ok (.func fn first cap) w := fun _ _ _ _ => rfl
  have HM := Lib.hid m
  have M0 := m.lt
  clear m
  go_enter Try.func36, Try.ntmps36
  go_wp2_with fail
  refine (Mul_any x y _ x0 x1 y0 y1).mono ?_
  rintro e w1 ⟨rfl, hb1⟩
  obtain ⟨hc_w1, hf_w1⟩ := bcell hb1
  have z_w1 := hb1.size
  try simp at z_w1
  have y_w1 : w.heap.size ≤ w1.heap.size := by omega
  go_wp2_with fail
  refine (quotient_any (x * y) 4294967296 b k o _ I.out (by omega) (by omega) (HM.out.below hb1 M0)).mono ?_
  rintro e w9 ⟨rfl, hb9⟩
  go_wp2
  go_ret
  exact ⟨rfl, FxW.behind hb1 hb9 hb1.size⟩
end Go.Proofs.Ytbpmbdnhfkfkhaa
namespace Go.Proofs.Ytbpmbdnhfkfkhaa
open Go.RowKit

def clampF (a l h : Int) : Int := if a < l then l else if h < a then h else a
theorem clampF_in {a l h : Int} (ha : In64 a) (hl : In64 l) (hh : In64 h) : In64 (clampF a l h) := by
  unfold clampF
  by_cases p : a < l
  · rw [if_pos p]; exact hl
  · rw [if_neg p]
    by_cases q : h < a
    · rw [if_pos q]; exact hh
    · rw [if_neg q]; exact ha
/-- what a call by a receiver leaves, laid open for the walk -/
theorem fx_open {w w1 : World} {b k : Nat} {o p : Bool} (m : MAt w b k o) (h : FxW w.heap.size w b k p w1) :
    Hid (MAt w1 b k p) ∧ w1.cell? ⟨b, k, none⟩ = some (.bool p) ∧ w.heap.size ≤ w1.heap.size := ⟨h.at m m.lt, (h.at m m.lt).c, h.size⟩
theorem ev1 : mulF 2147483648 1 = 0 ∧ mulO 2147483648 1 = false := by decide +kernel
theorem ev2 : mulF 6442450944 1 = 2 ∧ mulO 6442450944 1 = false := by decide +kernel
theorem ev3 : divF 4294967296 12884901888 = 1431655765 ∧ divO 4294967296 12884901888 = false := by decide +kernel
theorem ev4 : mulF 4611686018427387904 4611686018427387904 = 9223372036854775807 ∧ mulO 4611686018427387904 4611686018427387904 = true := by decide +kernel
end Go.Proofs.Ytbpmbdnhfkfkhaa
namespace Go.Proofs.Ytbpmbdnhfkfkhaa
open Go.RowKit

set_option maxHeartbeats 1000000 in
theorem quotient_nil (n y : Int) (w : World) (hn : In128 n) (y0 : -9223372036854775808 ≤ y) (y1 : y ≤ 9223372036854775807) :
    Calls Try.prog 49 #[.agg #[.int .i64 (hiW n), .int .u64 (loW n)], .int .i64 y, .func (.func 51) #[.pointer none] #[]] w fun e w' => e = .returned (.int .i64 (quoF n y)) ∧ Below w.heap.size w w' := by
  have HN := Lib.hid hn
  have s0 := (cmpI_bd n 0).1
  have s1 := (cmpI_bd n 0).2
  clear hn
  by_cases p : y = 0
  · subst p
    have K := Lib.hid (show satS (cmpI n 0) = quoF n 0 ∧ True from ⟨by unfold quoF; rw [if_pos rfl, satS_cmp], trivial⟩)
    have D := Lib.hid (div_zero n)
    have hmf : ∀ (fn : Fn) (first cap : Array Value) (w : World), (Instr.makeFunc fn first cap).run Try.prog w = .ok (.func fn first cap) w := fun _ _ _ _ => rfl
    go_enter Try.func49, Try.ntmps49
    go_wp2_with fail
    refine (Div_any _ _ n _ _ (isW_of HN.out) y0 y1).mono ?_
    rw [← D.out.1, ← D.out.2]
    clear D
    rintro e w1 ⟨rfl, hb1⟩
    obtain ⟨hc_w1, hf_w1⟩ := bcell hb1
    have z_w1 := hb1.size
    try simp at z_w1
    have z0_w1 : w.heap.size < w1.heap.size := by omega
    have y_w1 : w.heap.size ≤ w1.heap.size := by omega
    go_wp2_with fail
    refine (Sign_n n _ HN.out).mono ?_
    rintro e w2 ⟨rfl, hb2⟩
    obtain ⟨hc_w2, hf_w2⟩ := bcell hb2
    have z_w2 := hb2.size
    try simp at z_w2
    have z0_w2 : w.heap.size < w2.heap.size := by omega
    have y_w2 : w.heap.size ≤ w2.heap.size := by omega
    go_wp2_with fail
    refine (beyond_nil _ _).mono ?_
    rintro e w3 ⟨rfl, rfl⟩
    go_wp2
    go_ret
    exact ⟨retI K.out.1, by repeat (first | exact Below.refl _ _ | assumption | refine Below.setCell ?_ (by first | omega | (simp; done) | (simp; omega)) _ | refine Below.alloc ?_ (by first | omega | (simp; done) | (simp; omega)) _ | refine below_drewN ?_ _ | refine Below.drew ?_ | refine Below.trans ?_ (Below.mono (by assumption) (by first | omega | (simp; done) | (simp; omega))))⟩
  · have D := div_fit (a := n) p
    by_cases q : In64 (rq n y)
    · have D1 := D.1.2 q
      have D2 := D.2 D1
      have K := Lib.hid (show rq n y = quoF n y ∧ quoO n y = false from ⟨by unfold quoF; rw [if_neg p, (clip64_of q).1], by unfold quoO; rw [if_neg p, (clip64_of q).2]⟩)
      have q0 := q.1
      have q1 := q.2
      have hmf : ∀ (fn : Fn) (first cap : Array Value) (w : World), (Instr.makeFunc fn first cap).run Try.prog w = .ok (.func fn first cap) w := fun _ _ _ _ => rfl
      go_enter Try.func49, Try.ntmps49
      go_wp2_with fail
      refine (Div_any _ _ n _ _ (isW_of HN.out) y0 y1).mono ?_
      rw [D1, D2]
      clear D D1 D2
      rintro e w1 ⟨rfl, hb1⟩
      obtain ⟨hc_w1, hf_w1⟩ := bcell hb1
      have z_w1 := hb1.size
      try simp at z_w1
      have z0_w1 : w.heap.size < w1.heap.size := by omega
      have y_w1 : w.heap.size ≤ w1.heap.size := by omega
      go_wp2
      go_ret
      exact ⟨retI K.out.1, by repeat (first | exact Below.refl _ _ | assumption | refine Below.setCell ?_ (by first | omega | (simp; done) | (simp; omega)) _ | refine Below.alloc ?_ (by first | omega | (simp; done) | (simp; omega)) _ | refine below_drewN ?_ _ | refine Below.drew ?_ | refine Below.trans ?_ (Below.mono (by assumption) (by first | omega | (simp; done) | (simp; omega))))⟩
    · have D1 : divB n y = false := by rw [Bool.eq_false_iff]; exact fun c => q (D.1.1 c)
      have D3 := rq_sign (a := n) p q
      have K1 : quoF n y = if y < 0 then satS (-(cmpI n 0)) else satS (cmpI n 0) := by
        unfold quoF; rw [if_neg p, (clip64_out q).1, D3]
      have K2 : quoO n y = true := by unfold quoO; rw [if_neg p, (clip64_out q).2]
      by_cases r : y < 0
      · have K := Lib.hid (show satS (-(cmpI n 0)) = quoF n y ∧ quoO n y = true from ⟨by rw [K1, if_pos r], K2⟩)
        clear D D3 K1 K2
        have hmf : ∀ (fn : Fn) (first cap : Array Value) (w : World), (Instr.makeFunc fn first cap).run Try.prog w = .ok (.func fn first cap) w := fun _ _ _ _ => rfl
        go_enter Try.func49, Try.ntmps49
        go_wp2_with fail
        refine (Div_any _ _ n _ _ (isW_of HN.out) y0 y1).mono ?_
        rw [D1]
        clear D1
        rintro e w1 ⟨rfl, hb1⟩
        obtain ⟨hc_w1, hf_w1⟩ := bcell hb1
        have z_w1 := hb1.size
        try simp at z_w1
        have z0_w1 : w.heap.size < w1.heap.size := by omega
        have y_w1 : w.heap.size ≤ w1.heap.size := by omega
        go_wp2_with fail
        refine (Sign_n n _ HN.out).mono ?_
        rintro e w2 ⟨rfl, hb2⟩
        obtain ⟨hc_w2, hf_w2⟩ := bcell hb2
        have z_w2 := hb2.size
        try simp at z_w2
        have z0_w2 : w.heap.size < w2.heap.size := by omega
        have y_w2 : w.heap.size ≤ w2.heap.size := by omega
        go_wp2_with fail
        refine (beyond_nil _ _).mono ?_
        rintro e w3 ⟨rfl, rfl⟩
        go_wp2
        go_ret
        exact ⟨retI K.out.1, by repeat (first | exact Below.refl _ _ | assumption | refine Below.setCell ?_ (by first | omega | (simp; done) | (simp; omega)) _ | refine Below.alloc ?_ (by first | omega | (simp; done) | (simp; omega)) _ | refine below_drewN ?_ _ | refine Below.drew ?_ | refine Below.trans ?_ (Below.mono (by assumption) (by first | omega | (simp; done) | (simp; omega))))⟩
      · have K := Lib.hid (show satS (cmpI n 0) = quoF n y ∧ quoO n y = true from ⟨by rw [K1, if_neg r], K2⟩)
        clear D D3 K1 K2
        have hmf : ∀ (fn : Fn) (first cap : Array Value) (w : World), (Instr.makeFunc fn first cap).run Try.prog w = .ok (.func fn first cap) w := fun _ _ _ _ => rfl
        go_enter Try.func49, Try.ntmps49
        go_wp2_with fail
        refine (Div_any _ _ n _ _ (isW_of HN.out) y0 y1).mono ?_
        rw [D1]
        clear D1
        rintro e w1 ⟨rfl, hb1⟩
        obtain ⟨hc_w1, hf_w1⟩ := bcell hb1
        have z_w1 := hb1.size
        try simp at z_w1
        have z0_w1 : w.heap.size < w1.heap.size := by omega
        have y_w1 : w.heap.size ≤ w1.heap.size := by omega
        go_wp2_with fail
        refine (Sign_n n _ HN.out).mono ?_
        rintro e w2 ⟨rfl, hb2⟩
        obtain ⟨hc_w2, hf_w2⟩ := bcell hb2
        have z_w2 := hb2.size
        try simp at z_w2
        have z0_w2 : w.heap.size < w2.heap.size := by omega
        have y_w2 : w.heap.size ≤ w2.heap.size := by omega
        go_wp2_with fail
        refine (beyond_nil _ _).mono ?_
        rintro e w3 ⟨rfl, rfl⟩
        go_wp2
        go_ret
        exact ⟨retI K.out.1, by repeat (first | exact Below.refl _ _ | assumption | refine Below.setCell ?_ (by first | omega | (simp; done) | (simp; omega)) _ | refine Below.alloc ?_ (by first | omega | (simp; done) | (simp; omega)) _ | refine below_drewN ?_ _ | refine Below.drew ?_ | refine Below.trans ?_ (Below.mono (by assumption) (by first | omega | (simp; done) | (simp; omega))))⟩
theorem fxMul_nil (x y : Int) (w : World) (x0 : -9223372036854775808 ≤ x) (x1 : x ≤ 9223372036854775807) (y0 : -9223372036854775808 ≤ y) (y1 : y ≤ 9223372036854775807) :
    Calls Try.prog 36 #[.pointer none, .int .i64 x, .int .i64 y] w fun e w' => e = .returned (.int .i64 (mulF x y)) ∧ Below w.heap.size w w' := by
  have I := Lib.hid (mul_128 x0 x1 y0 y1)
  have hmf : ∀ (fn : Fn) (first cap : Array Value) (w : World), (Instr.makeFunc fn first cap).run Try.prog w = .ok (.func fn first cap) w := fun _ _ _ _ => rfl
  go_enter Try.func36, Try.ntmps36
  go_wp2_with fail
  refine (Mul_any x y _ x0 x1 y0 y1).mono ?_
  rintro e w1 ⟨rfl, hb1⟩
  obtain ⟨hc_w1, hf_w1⟩ := bcell hb1
  have z_w1 := hb1.size
  try simp at z_w1
  have y_w1 : w.heap.size ≤ w1.heap.size := by omega
  go_wp2_with fail
  refine (quotient_nil (x * y) 4294967296 _ I.out (by omega) (by omega)).mono ?_
  rintro e w9 ⟨rfl, hb9⟩
  go_wp2
  go_ret
  exact ⟨rfl, hb1.trans (hb9.mono hb1.size)⟩
end Go.Proofs.Ytbpmbdnhfkfkhaa

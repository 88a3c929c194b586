/- The program's quat: terms, and what they make up. -/
import Derived.Test.YtldcmiomfahaoaaJe
namespace Go.Proofs.Ytldcmiomfahaoaa
open Go.RowKit
set_option linter.unusedVariables false
set_option linter.unusedSimpArgs false

/-- a term: two factors, and whether their product is taken away -/
structure Tm where
  a : Int
  b : Int
  c : Bool
def tmS (s : Int) (t : Tm) : Int := if t.c then subF s (mulF t.a t.b) else addF s (mulF t.a t.b)
def tmO (s : Int) (t : Tm) : Bool := mulO t.a t.b || (if t.c then subO s (mulF t.a t.b) else addO s (mulF t.a t.b))
def tmsF (s : Int) : List Tm → Int
  | [] => s
  | t :: l => tmsF (tmS s t) l
def tmsO (s : Int) : List Tm → Bool
  | [] => false
  | t :: l => tmO s t || tmsO (tmS s t) l
theorem tmsF_snoc (t : Tm) : ∀ (l : List Tm) (s : Int), tmsF s (l ++ [t]) = tmS (tmsF s l) t
  | [], _ => rfl
  | _ :: l, _ => tmsF_snoc t l _
theorem tmsO_snoc (t : Tm) : ∀ (l : List Tm) (s : Int), tmsO s (l ++ [t]) = (tmsO s l || tmO (tmsF s l) t)
  | [], s => by simp [tmsO, tmsF]
  | u :: l, s => by show (tmO s u || tmsO (tmS s u) (l ++ [t])) = (tmO s u || tmsO (tmS s u) l || tmO (tmsF (tmS s u) l) t); rw [tmsO_snoc t l, Bool.or_assoc]
theorem tmS_in (s : Int) (t : Tm) : In64 (tmS s t) := by
  unfold tmS
  split
  · exact subF_in _ _
  · exact addF_in _ _
theorem tmsF_in : ∀ (l : List Tm) (s : Int), In64 s → In64 (tmsF s l)
  | [], _, h => h
  | t :: l, s, _ => tmsF_in l _ (tmS_in s t)
theorem tms_take {l : List Tm} {j : Nat} {t : Tm} (h : l[j]? = some t) : l.take (j + 1) = l.take j ++ [t] := by
  rw [List.take_add_one, h]; rfl
/-- terms lie one behind the other in block n -/
structure TW (W : World) (n : Nat) (l : List Tm) : Prop where
  c : ∀ (i : Nat) (t : Tm), l[i]? = some t → W.cell? ⟨n, i * 3, none⟩ = some (.int .i64 t.a) ∧ W.cell? ⟨n, i * 3 + 1, none⟩ = some (.int .i64 t.b) ∧ W.cell? ⟨n, i * 3 + 2, none⟩ = some (.bool t.c)
  lt : n < W.heap.size
theorem TW.below {B : Nat} {w w' : World} {n : Nat} {l : List Tm} (k : TW w n l) (h : Below B w w') (hn : n < B) : TW w' n l :=
  ⟨fun i t e => ⟨(h.cell (p := ⟨n, _, none⟩) hn).trans (k.c i t e).1, (h.cell (p := ⟨n, _, none⟩) hn).trans (k.c i t e).2.1, (h.cell (p := ⟨n, _, none⟩) hn).trans (k.c i t e).2.2⟩, by have := h.size; have := k.lt; omega⟩
theorem TW.alloc {w : World} {n : Nat} {l : List Tm} (k : TW w n l) (o : Obj) : TW (w.alloc o) n l := k.below ((Below.refl w.heap.size w).alloc (Nat.le_refl _) o) k.lt
theorem TW.drew {w : World} {n : Nat} {l : List Tm} (k : TW w n l) : TW w.drew n l := ⟨k.c, k.lt⟩
theorem TW.fx {W W' : World} {n b j : Nat} {q : Bool} {l : List Tm} (k : TW W n l) (h : FxW W.heap.size W b j q W') (e : b ≠ n) : TW W' n l :=
  ⟨fun i t g => ⟨(h.cell k.lt e).trans (k.c i t g).1, (h.cell k.lt e).trans (k.c i t g).2.1, (h.cell k.lt e).trans (k.c i t g).2.2⟩, by have := h.size; have := k.lt; omega⟩
theorem qplus_any (a b : Int) (w : World) :
    Calls Try.prog 31 #[.int .i64 a, .int .i64 b] w fun e w' => e = .returned (.agg #[.int .i64 a, .int .i64 b, .bool false]) ∧ Below w.heap.size w w' := by
  go_enter Try.func31, Try.ntmps31
  go_wp2
  exact bodyPost_ret (v := .agg #[.int .i64 a, .int .i64 b, .bool false]) (by simp [results, Try.results31, go_sem]) rfl ⟨rfl, by repeat (first | exact Below.refl _ _ | assumption | refine Below.setCell ?_ (by first | omega | (simp; done) | (simp; omega)) _ | refine Below.alloc ?_ (by first | omega | (simp; done) | (simp; omega)) _ | refine below_drewN ?_ _ | refine Below.drew ?_ | refine Below.trans ?_ (Below.mono (by assumption) (by first | omega | (simp; done) | (simp; omega))))⟩
theorem qless_any (a b : Int) (w : World) :
    Calls Try.prog 32 #[.int .i64 a, .int .i64 b] w fun e w' => e = .returned (.agg #[.int .i64 a, .int .i64 b, .bool true]) ∧ Below w.heap.size w w' := by
  go_enter Try.func32, Try.ntmps32
  go_wp2
  exact bodyPost_ret (v := .agg #[.int .i64 a, .int .i64 b, .bool true]) (by simp [results, Try.results32, go_sem]) rfl ⟨rfl, by repeat (first | exact Below.refl _ _ | assumption | refine Below.setCell ?_ (by first | omega | (simp; done) | (simp; omega)) _ | refine Below.alloc ?_ (by first | omega | (simp; done) | (simp; omega)) _ | refine below_drewN ?_ _ | refine Below.drew ?_ | refine Below.trans ?_ (Below.mono (by assumption) (by first | omega | (simp; done) | (simp; omega))))⟩
set_option maxRecDepth 100000 in
set_option maxHeartbeats 2000000 in
theorem columns_any (m1 m2 m3 m4 m5 m6 m7 m8 m9 : Int) (w : World) :
    Calls Try.prog 43 #[.agg #[.int .i64 m1, .int .i64 m2, .int .i64 m3, .int .i64 m4, .int .i64 m5, .int .i64 m6, .int .i64 m7, .int .i64 m8, .int .i64 m9]] w fun e w' => e = .returned (.agg #[.int .i64 m1, .int .i64 m4, .int .i64 m7, .int .i64 m2, .int .i64 m5, .int .i64 m8, .int .i64 m3, .int .i64 m6, .int .i64 m9]) ∧ Below w.heap.size w w' := by
  go_enter Try.func43, Try.ntmps43
  go_wp2
  exact bodyPost_ret (v := .agg #[.int .i64 m1, .int .i64 m4, .int .i64 m7, .int .i64 m2, .int .i64 m5, .int .i64 m8, .int .i64 m3, .int .i64 m6, .int .i64 m9]) (by simp [results, Try.results43, go_sem]) rfl ⟨rfl, by repeat (first | exact Below.refl _ _ | assumption | refine Below.setCell ?_ (by first | omega | (simp; done) | (simp; omega)) _ | refine Below.alloc ?_ (by first | omega | (simp; done) | (simp; omega)) _ | refine below_drewN ?_ _ | refine Below.drew ?_ | refine Below.trans ?_ (Below.mono (by assumption) (by first | omega | (simp; done) | (simp; omega))))⟩
set_option maxRecDepth 100000 in
set_option maxHeartbeats 4000000 in
theorem combine_any (l : List Tm) (len n b k : Nat) (o : Bool) (w : World) (hlen : l.length = len) (hmax : len ≤ 100) (hin : ∀ (i : Nat) (t : Tm), l[i]? = some t → In64 t.a ∧ In64 t.b) (T : TW w n l) (hne : b ≠ n) (m : MAt w b k o) :
    Calls Try.prog 30 #[.pointer (some ⟨b, k, none⟩), .slice (some ⟨n, 0, none⟩) len len] w fun e w' => e = .returned (.int .i64 (tmsF 0 l)) ∧ FxW w.heap.size w b k (o || tmsO 0 l) w' := by
  have HI := Lib.hid hin
  have HT := Lib.hid T
  have G0 := Lib.hid (Flag.start m (Below.refl w.heap.size w))
  clear hin T m
  go_enter Try.func30, Try.ntmps30
  go_wp2
  go_loopw [5, 11] (fun t i wr => ∃ j : Nat, j ≤ len ∧ i = .int .i64 j ∧ t = .int .i64 (tmsF 0 (l.take j)) ∧ Flag w wr b k (o || tmsO 0 (l.take j)) ∧ TW wr n l) (fun _ i _ => len - (intOf i).toNat)
  case atStart => exact ⟨0, by omega, rfl, rfl, by simp only [List.take_zero, tmsO, Bool.or_false]; exact G0.out, HT.out⟩
  case round =>
    obtain ⟨j, hj, rfl, rfl, hG, hT⟩ := hrel
    have G1 := Lib.hid hG
    have T1 := Lib.hid hT
    clear hG hT
    by_cases hlt : j < len
    · obtain ⟨t, ht⟩ : ∃ t, l[j]? = some t := ⟨l[j]'(by omega), List.getElem?_eq_getElem (by omega)⟩
      have IT := Lib.hid (HI.out j t ht)
      have E1 := Lib.hid (show tmsF 0 (l.take (j + 1)) = tmS (tmsF 0 (l.take j)) t by rw [tms_take ht, tmsF_snoc])
      have E2 := Lib.hid (show (o || tmsO 0 (l.take (j + 1))) = (o || tmsO 0 (l.take j) || tmO (tmsF 0 (l.take j)) t) by rw [tms_take ht, tmsO_snoc, Bool.or_assoc])
      have IS := Lib.hid (tmsF_in (l.take j) 0 ⟨by omega, by omega⟩)
      obtain ⟨c0, c1, c2⟩ := T1.out.c j t ht
      obtain ⟨x, y, s⟩ := t
      dsimp only at c0 c1 c2
      generalize tmsF 0 (l.take j) = S at *
      generalize (o || tmsO 0 (l.take j)) = p at *
      clear ht
      go_wp2_with fail
      refine calls_gen (S := fun W => BW W wr.heap.size [.int .i64 x, .int .i64 y, .bool s] ∧ TW W n l ∧ Flag w W b k p) ⟨BW.new wr _ [_, _, _] _ rfl, T1.out.alloc _, G1.out.more ((Below.refl _ _).alloc (Nat.le_refl _) _)⟩ (fun W0 hS => ?_)
      have A2 := Lib.hid hS.1
      have T2 := Lib.hid hS.2.1
      have G2 := Lib.hid hS.2.2
      have hz : n < wr.heap.size := T1.out.lt
      have hb : b < w.heap.size := G1.out.lt
      have hzz : w.heap.size ≤ wr.heap.size := G1.out.f.size
      clear hS T1 G1 c0 c1 c2
      generalize wr.heap.size = n1 at *
      refine (fxMul_any x y b k _ _ IT.out.1.1 IT.out.1.2 IT.out.2.1 IT.out.2.2 G2.out.m).mono ?_
      rintro e w1 ⟨rfl, h⟩
      have G3 := Lib.hid (G2.out.fx h)
      have T3 := Lib.hid (T2.out.fx h hne)
      have A3 := Lib.hid (A2.out.fx h (by omega))
      clear h G2 T2 A2
      have a2 : w1.cell? ⟨n1, 2, none⟩ = some (.bool s) := A3.out.c 2 _ rfl
      cases s with
      | true =>
        go_wp2_with fail
        refine (fxSub_any S (mulF x y) b k _ _ IS.out.1 IS.out.2 (mulF_in _ _).1 (mulF_in _ _).2 G3.out.m).mono ?_
        rintro e w2 ⟨rfl, h⟩
        have G4 := Lib.hid (G3.out.fx h)
        have T4 := Lib.hid (T3.out.fx h hne)
        clear h G3 T3 A3 a2
        go_wp2
        go_roundw
        case rel => exact ⟨j + 1, by omega, by go_num, by rw [E1.out]; rfl, by rw [E2.out]; show Flag w w2 b k (p || (mulO x y || subO S (mulF x y))); rw [← Bool.or_assoc]; exact G4.out, T4.out⟩
        case measure => simp [intOf]; omega
      | false =>
        go_wp2_with fail
        refine (fxAdd_any S (mulF x y) b k _ _ IS.out.1 IS.out.2 (mulF_in _ _).1 (mulF_in _ _).2 G3.out.m).mono ?_
        rintro e w2 ⟨rfl, h⟩
        have G4 := Lib.hid (G3.out.fx h)
        have T4 := Lib.hid (T3.out.fx h hne)
        clear h G3 T3 A3 a2
        go_wp2
        go_roundw
        case rel => exact ⟨j + 1, by omega, by go_num, by rw [E1.out]; rfl, by rw [E2.out]; show Flag w w2 b k (p || (mulO x y || addO S (mulF x y))); rw [← Bool.or_assoc]; exact G4.out, T4.out⟩
        case measure => simp [intOf]; omega
    · have EK := Lib.hid (show l.take j = l from List.take_of_length_le (by omega))
      go_wp2
      go_ret
      exact ⟨by rw [EK.out]; rfl, by have := G1.out.f; rw [EK.out] at this; exact this⟩
end Go.Proofs.Ytldcmiomfahaoaa

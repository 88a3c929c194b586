/- -/
import Derived.Test.YtmdjnamkbekjkaaGreatDoorB7
import Derived.Test.YtmdjnamkbekjkaaGreatDoorCg
import Derived.Test.YtmdjnamkbekjkaaGreatDoorBk
import Derived.Test.YtmdjnamkbekjkaaGreatDoorBo
namespace Go.Proofs.YtmdjnamkbekjkaaGreatDoor
open Go.RowKit
set_option linter.unusedVariables false
set_option linter.unusedSimpArgs false
structure TD where
 rate : Int
 cell : Int
 cols : Int
 rows : Int
 at_ : Int × Int
 H : List Int
 G : List Int
 K : List (Int × Int × Bool)
 L : List (Int × Int)
 R : List (List (Int × Int))
 T : List ((Int × Int) × (Int × Int) × Bool)
 s : Int × Int
 head : Int
 laps : Int
abbrev TDt : Type := Unit × Int × Int × Int × Int × (Int × Int) × List Int × List Int × List (Int × Int × Bool) × List (Int × Int) × List (List (Int × Int)) × List ((Int × Int) × (Int × Int) × Bool) × (Int × Int) × Int × Int
def chtr : ByteArray := ⟨#[67, 72, 84, 82]⟩
def trackC0 : Cod TDt :=
 (markC chtr).bind fun _ => (cntC 60 1024).bind fun _ => numC.bind fun _ => (cntC 1 64).bind fun cols => (cntC 1 64).bind fun rows => placeC.bind fun _ =>
 (repC ((cols + 1) * (rows + 1)).toNat numC).bind fun _ => (repC (cols * rows).toNat (cntC 0 7)).bind fun _ => (lstC 1 8 kindC).bind fun _ => (lstC 3 64 placeC).bind fun _ =>
 (lstC 0 16 (lstC 2 64 placeC)).bind fun _ => (lstC 1 16 gateC).bind fun _ => placeC.bind fun _ => headC.bind fun _ => cntC 1 100
def trackCod : Cod TD := trackC0.as (fun x => ⟨x.2.1, x.2.2.1, x.2.2.2.1, x.2.2.2.2.1, x.2.2.2.2.2.1, x.2.2.2.2.2.2.1, x.2.2.2.2.2.2.2.1, x.2.2.2.2.2.2.2.2.1, x.2.2.2.2.2.2.2.2.2.1, x.2.2.2.2.2.2.2.2.2.2.1, x.2.2.2.2.2.2.2.2.2.2.2.1, x.2.2.2.2.2.2.2.2.2.2.2.2.1, x.2.2.2.2.2.2.2.2.2.2.2.2.2.1, x.2.2.2.2.2.2.2.2.2.2.2.2.2.2⟩)
 (fun d => ((), d.rate, d.cell, d.cols, d.rows, d.at_, d.H, d.G, d.K, d.L, d.R, d.T, d.s, d.head, d.laps)) (fun _ _ => rfl) (fun _ => rfl)
structure TAd where
 H : Option Addr × Nat
 G : Option Addr × Nat
 K : Option Addr × Nat
 L : Option Addr × Nat
 R : Option Addr × Nat
 T : Option Addr × Nat
 r : Nat → Option Addr × Nat
def dsOf (a : Option Addr × Nat) (l : List (Int × Int)) : Ds := ⟨a.1, l.length, a.2, fun i => (l.getD i (0, 0)).1, fun i => (l.getD i (0, 0)).2⟩
def gtOf (g : (Int × Int) × (Int × Int) × Bool) : Gt := ⟨g.1.1, g.1.2, g.2.1.1, g.2.1.2, g.2.2⟩
def tkA (a : TAd) (d : TD) : Tk :=
 ⟨⟨d.rate, d.cell, d.cols, d.rows, d.at_.1, d.at_.2, ⟨a.H.1, d.H.length, a.H.2, fun i => d.H.getD i 0⟩, ⟨a.G.1, d.G.length, a.G.2, fun i => d.G.getD i 0⟩, a.K.1, d.K.length, a.K.2, fun i => (d.K.getD i (0, 0, false)).1, fun i => (d.K.getD i (0, 0, false)).2.1, fun i => (d.K.getD i (0, 0, false)).2.2,
  a.L.1, d.L.length, a.L.2, a.R.1, d.R.length, a.R.2, a.T.1, d.T.length, a.T.2, d.s.1, d.s.2, d.head, d.laps⟩,
  fun i => d.L.getD i (0, 0), fun i => dsOf (a.r i) (d.R.getD i []), fun i => gtOf (d.T.getD i ((0, 0), (0, 0), false))⟩
def noAd : TAd := ⟨(none, 0), (none, 0), (none, 0), (none, 0), (none, 0), (none, 0), fun _ => (none, 0)⟩
theorem barN_ad (a : TAd) (d : TD) : ∀ n, barN (tkA a d) n = barN (tkA noAd d) n
 | 0 => rfl
 | n + 1 => by
  show barN (tkA a d) n + _ = barN (tkA noAd d) n + _
  rw [barN_ad a d n]; rfl
theorem bJ_ad (a : TAd) (d : TD) : ∀ n j, bJ (tkA a d) n j = bJ (tkA noAd d) n j
 | 0, _ => rfl
 | n + 1, j => by
  show (if j < barN (tkA a d) n then bJ (tkA a d) n j else (n, j - barN (tkA a d) n)) = if j < barN (tkA noAd d) n then bJ (tkA noAd d) n j else (n, j - barN (tkA noAd d) n)
  rw [barN_ad, bJ_ad a d n j]
theorem barG_ad (a : TAd) (d : TD) (j : Nat) : barG (tkA a d) j = barG (tkA noAd d) j := by
 unfold barG
 rw [show (tkA a d).t.rn = (tkA noAd d).t.rn from rfl, bJ_ad]
 rfl
theorem rgt_ad (a : TAd) (d : TD) : rgtK (tkA a d) = rgtK (tkA noAd d) := by
 have e : (∀ j, j < barN (tkA a d) (tkA a d).t.rn → ¬ behP (tkA a d) j) = (∀ j, j < barN (tkA noAd d) (tkA noAd d).t.rn → ¬ behP (tkA noAd d) j) := by
  rw [show (tkA a d).t.rn = (tkA noAd d).t.rn from rfl, barN_ad]
  unfold behP behN
  simp only [barG_ad a d]
  rfl
 unfold rgtK
 simp only [e]
 rfl
def lst {α : Type} (n : Nat) (f : Nat → α) : List α := (List.range n).map f
theorem lst_len {α : Type} (n : Nat) (f : Nat → α) : (lst n f).length = n := by simp [lst]
theorem lst_get {α : Type} {n : Nat} (f : Nat → α) {i : Nat} (z : α) (h : i < n) : (lst n f).getD i z = f i := by
 unfold lst
 rw [List.getD_eq_getElem?_getD, List.getElem?_map, List.getElem?_range h]; rfl
def tdOf (k : Tk) : TD :=
 ⟨k.t.rate, k.t.cell, k.t.cols, k.t.rows, (k.t.cx, k.t.cy), lst k.t.H.n k.t.H.v, lst k.t.G.n k.t.G.v, lst k.t.kn (fun i => (k.t.kg i, k.t.kd i, k.t.ko i)), lst k.t.ln k.L, lst k.t.rn (fun i => lst (k.R i).n (fun j => ((k.R i).x j, (k.R i).y j))), lst k.t.gn (fun i => (((k.G i).ax, (k.G i).ay), ((k.G i).bx, (k.G i).by'), (k.G i).s)), (k.t.sx, k.t.sy), k.t.head, k.t.laps⟩
def adOf (k : Tk) : TAd := ⟨(k.t.H.a, k.t.H.c), (k.t.G.a, k.t.G.c), (k.t.ka, k.t.kc), (k.t.la, k.t.lc), (k.t.ra, k.t.rc), (k.t.ga, k.t.gc), fun i => ((k.R i).a, (k.R i).c)⟩
theorem tk_val (k : Tk) : trkV (tkA (adOf k) (tdOf k)).t = trkV k.t := by
 unfold trkV tkA tdOf adOf
 simp only [lst_len]
theorem tk_can {B : Nat} {w : World} {k : Tk} (h : TkM B w k) : TkM B w (tkA (adOf k) (tdOf k)) := by
 have nm : ∀ {s : Sl}, Nums B w s → Nums B w ⟨s.a, (lst s.n s.v).length, s.c, fun i => (lst s.n s.v).getD i 0⟩ := fun {s} N => by
  have e := lst_len s.n s.v
  refine ⟨N.hm, by show (lst s.n s.v).length ≤ _; rw [e]; exact N.hl, fun i hi => ?_, fun h0 => ?_⟩
  ·have hi : i < s.n := by have : i < (lst s.n s.v).length := hi; omega
   show (Lit.int .i64 ((lst s.n s.v).getD i 0)).wf = true
   rw [lst_get _ _ hi]; exact N.wf i hi
  ·obtain ⟨b, off, ea, hb, hc⟩ := N.at' (by have : 0 < (lst s.n s.v).length := h0; omega)
   refine ⟨b, off, ea, hb, fun i hi => ?_⟩
   have hi : i < s.n := by have : i < (lst s.n s.v).length := hi; omega
   show _ = some (Value.int .i64 ((lst s.n s.v).getD i 0))
   rw [lst_get _ _ hi]; exact hc i hi
 have ds : ∀ {a : Option Addr} {n c : Nat} {x y : Nat → Int} {l : List (Int × Int)}, DsM B w ⟨a, n, c, x, y⟩ → l = lst n (fun j => (x j, y j)) → DsM B w (dsOf (a, c) l) := fun {a n c x y l} D e => by
  subst e
  have e := lst_len n (fun j => (x j, y j))
  refine ⟨D.hm, by show (lst n _).length ≤ _; rw [e]; exact D.hl, fun i hi => ?_, fun h0 => ?_⟩
  ·have hi : i < n := by have : i < (lst n (fun j => (x j, y j))).length := hi; omega
   show In64 ((lst n (fun j => (x j, y j))).getD i (0, 0)).1 ∧ In64 ((lst n (fun j => (x j, y j))).getD i (0, 0)).2
   rw [lst_get _ _ hi]; exact D.wf i hi
  ·obtain ⟨b, off, ea, hb, hc⟩ := D.at' (by have : 0 < (lst n (fun j => (x j, y j))).length := h0; show 0 < n; omega)
   refine ⟨b, off, ea, hb, fun i hi => ?_⟩
   have hi : i < n := by have : i < (lst n (fun j => (x j, y j))).length := hi; omega
   show _ = some (Value.int .i64 ((lst n (fun j => (x j, y j))).getD i (0, 0)).1) ∧ _ = some (Value.int .i64 ((lst n (fun j => (x j, y j))).getD i (0, 0)).2)
   rw [lst_get _ _ hi]; exact hc i hi
 have T := h.T
 refine ⟨⟨nm T.H, nm T.G, T.km, ?_, ?_, ?_, T.n⟩, ?_, h.rm, ?_, ?_, ?_, h.gm, ?_, ?_, ?_, h.n⟩
 ·show (lst k.t.kn _).length ≤ _; rw [lst_len]; exact T.kl
 ·intro i hi
  have hi : i < k.t.kn := by have : i < (lst k.t.kn (fun i => (k.t.kg i, k.t.kd i, k.t.ko i))).length := hi; rw [lst_len] at this; exact this
  show In64 ((lst k.t.kn (fun i => (k.t.kg i, k.t.kd i, k.t.ko i))).getD i (0, 0, false)).1 ∧ In64 ((lst k.t.kn (fun i => (k.t.kg i, k.t.kd i, k.t.ko i))).getD i (0, 0, false)).2.1
  rw [lst_get _ _ hi]; exact T.kw i hi
 ·intro h0
  obtain ⟨b, off, ea, hb, hc⟩ := T.k (by have : 0 < (lst k.t.kn (fun i => (k.t.kg i, k.t.kd i, k.t.ko i))).length := h0; rw [lst_len] at this; exact this)
  refine ⟨b, off, ea, hb, fun i hi => ?_⟩
  have hi : i < k.t.kn := by have : i < (lst k.t.kn (fun i => (k.t.kg i, k.t.kd i, k.t.ko i))).length := hi; rw [lst_len] at this; exact this
  show _ = some (Value.int .i64 ((lst k.t.kn (fun i => (k.t.kg i, k.t.kd i, k.t.ko i))).getD i (0, 0, false)).1) ∧ _ = some (Value.int .i64 ((lst k.t.kn (fun i => (k.t.kg i, k.t.kd i, k.t.ko i))).getD i (0, 0, false)).2.1) ∧ _ = some (Value.bool ((lst k.t.kn (fun i => (k.t.kg i, k.t.kd i, k.t.ko i))).getD i (0, 0, false)).2.2)
  rw [lst_get _ _ hi]; exact hc i hi
 ·exact ds (a := k.t.la) (n := k.t.ln) (c := k.t.lc) (x := fun i => (k.L i).1) (y := fun i => (k.L i).2) h.L rfl
 ·show (lst k.t.rn _).length ≤ _; rw [lst_len]; exact h.rl
 ·intro h0
  obtain ⟨b, off, ea, hb, hc⟩ := h.R (by have : 0 < (lst k.t.rn (fun i => lst (k.R i).n (fun j => ((k.R i).x j, (k.R i).y j)))).length := h0; rw [lst_len] at this; exact this)
  refine ⟨b, off, ea, hb, fun i hi => ?_⟩
  have hi : i < k.t.rn := by have : i < (lst k.t.rn (fun i => lst (k.R i).n (fun j => ((k.R i).x j, (k.R i).y j)))).length := hi; rw [lst_len] at this; exact this
  show _ = some (Value.slice (k.R i).a ((lst k.t.rn (fun i => lst (k.R i).n (fun j => ((k.R i).x j, (k.R i).y j)))).getD i []).length (k.R i).c)
  rw [lst_get _ _ hi, lst_len]; exact hc i hi
 ·intro i hi
  have hi : i < k.t.rn := by have : i < (lst k.t.rn (fun i => lst (k.R i).n (fun j => ((k.R i).x j, (k.R i).y j)))).length := hi; rw [lst_len] at this; exact this
  exact ds (a := (k.R i).a) (n := (k.R i).n) (c := (k.R i).c) (x := (k.R i).x) (y := (k.R i).y) (h.Rs i hi) (lst_get _ _ hi)
 ·show (lst k.t.gn _).length ≤ _; rw [lst_len]; exact h.gl
 ·intro i hi
  have hi : i < k.t.gn := by have : i < (lst k.t.gn (fun i => (((k.G i).ax, (k.G i).ay), ((k.G i).bx, (k.G i).by'), (k.G i).s))).length := hi; rw [lst_len] at this; exact this
  have e : (tkA (adOf k) (tdOf k)).G i = k.G i := by
   show gtOf ((lst k.t.gn (fun i => (((k.G i).ax, (k.G i).ay), ((k.G i).bx, (k.G i).by'), (k.G i).s))).getD i ((0, 0), (0, 0), false)) = _
   rw [lst_get _ _ hi]; rfl
  rw [e]; exact h.gw i hi
 ·intro h0
  obtain ⟨b, off, ea, hb, hc⟩ := h.G (by have : 0 < (lst k.t.gn (fun i => (((k.G i).ax, (k.G i).ay), ((k.G i).bx, (k.G i).by'), (k.G i).s))).length := h0; rw [lst_len] at this; exact this)
  refine ⟨b, off, ea, hb, fun i hi => ?_⟩
  have hi : i < k.t.gn := by have : i < (lst k.t.gn (fun i => (((k.G i).ax, (k.G i).ay), ((k.G i).bx, (k.G i).by'), (k.G i).s))).length := hi; rw [lst_len] at this; exact this
  have e : (tkA (adOf k) (tdOf k)).G i = k.G i := by
   show gtOf ((lst k.t.gn (fun i => (((k.G i).ax, (k.G i).ay), ((k.G i).bx, (k.G i).by'), (k.G i).s))).getD i ((0, 0), (0, 0), false)) = _
   rw [lst_get _ _ hi]; rfl
  rw [e]; exact hc i hi
theorem step_ob {P : Program} {w : World} {ops : Array Oper} {o : Oper} {a : Act} {K : Act → World → Prop} {Q : Exit → Act → World → Prop} {E : Prop} (hgd : o.guard = none) (s x : Operand) (t tx : TypeId)
  (ho : o.op = .call { callee := .builtin .append, args := #[s, x], argTypes := #[t, tx] })
  {base : Nat} {v : Value} {xs : List Value} (T : TypeId) (i : TypeInfo) (z : Value) (ht : P.underlying t = some (.slice T)) (hi : P.info? T = some i) (hz : i.zero = some z)
  (hzs : z.cells.size = 1) (h1 : i.size = 1) (hby : i.bytes ≤ 8) (h : OB base w v xs) (hv : a.eval s = v) (xv : Value) (m : Nat) (news : List Value) (hx : a.eval x = xv) (hs : Src P 1 tx xv m news w) (hf : xs.length + m ≤ 1000000000) (hbase : base ≤ w.heap.size)
  (hK : ∀ v' w', OB base w' v' (xs ++ news) → w.grownBy w' v.ownBlock → (v'.ownBlock = v.ownBlock ∨ v'.ownBlock = some w.heap.size) → K (a.put o.dst v') w') :
  if Region.wanted o (yielded ops a.tmps) = true then Oper.wp P o a w K Q else E := by
 rw [if_pos (by simp [Region.wanted, hgd])]
 obtain ⟨v', w', hrun, r1, r2, r3⟩ := ob_append (P := P) t tx o.type T i z ht hi hz hzs h1 hby h xv m news hs hf hbase
 unfold Oper.wp execOp
 simp only [ho, resolve, invoke, builtin, Sem.run_bind, Sem.run_pure, Result.andThen_ok, List.map_toArray, List.map_cons, List.map_nil, hv, hx, hrun]
 exact hK v' w' r1 r2 r3
theorem wr_place (x y : Int) : placeC.wr (x, y) = numB (tw64 x) 8 ++ numB (tw64 y) 8 := rfl
theorem place_len (p : Int × Int) : (placeC.wr p).length = 16 := by
 obtain ⟨x, y⟩ := p
 rw [wr_place, List.length_append, numB_length, numB_length]
structure PlS (w W : World) (x y : Int) : Prop where
 c : W.cell? ⟨w.heap.size, 0, none⟩ = some (.int .i64 x) ∧ W.cell? ⟨w.heap.size, 1, none⟩ = some (.int .i64 y)
 l : Below w.heap.size w W
 s : w.heap.size + 1 ≤ W.heap.size
theorem PlS.step {w W W' : World} {x y : Int} (S : PlS w W x y) (h : Below W.heap.size W W') : PlS w W' x y :=
 ⟨⟨(h.cell (p := ⟨w.heap.size, 0, none⟩) (by have := S.s; show w.heap.size < _; omega)).trans S.c.1, (h.cell (p := ⟨w.heap.size, 1, none⟩) (by have := S.s; show w.heap.size < _; omega)).trans S.c.2⟩, S.l.trans (h.mono S.l.size), by have := S.s; have := h.size; omega⟩
theorem fm_succ {α : Type} (f : α → List Int) (l : List α) (z : α) {j : Nat} (h : j < l.length) : (l.take (j + 1)).flatMap f = (l.take j).flatMap f ++ f (l.getD j z) := by
 rw [List.take_add_one, List.flatMap_append, List.getD_eq_getElem?_getD, List.getElem?_eq_getElem h]
 simp
theorem fm_len {α : Type} (f : α → List Int) (m : Nat) (h : ∀ x, (f x).length ≤ m) : ∀ (l : List α), (l.flatMap f).length ≤ l.length * m
 | [] => by simp
 | x :: l => by
  rw [List.flatMap_cons, List.length_append, List.length_cons, Nat.add_mul]
  have := h x
  have := fm_len f m h l
  omega
structure LsS (w W : World) (B : Nat) (s : Ds) (v : Value) (L : List Int) : Prop where
 d : DsM B W s
 o : OB w.heap.size W v (byC L)
 l : Below w.heap.size w W
 z : B ≤ w.heap.size
theorem LsS.put {w W W1 W2 : World} {B : Nat} {s : Ds} {v v2 : Value} {L X : List Int} (S : LsS w W B s v L) (h : Below W.heap.size W W1) (o : OB w.heap.size W2 v2 (byC L ++ byC X)) (g : W1.grownBy W2 v.ownBlock) : LsS w W2 B s v2 (L ++ X) := by
 have b := (S.o.below h).up g (by have := S.l.size; have := h.size; omega)
 exact ⟨(S.d.keep h (by have := S.z; have := S.l.size; omega)).keep b S.z, by rw [byC_append]; exact o, (S.l.trans (h.mono S.l.size)).trans b, S.z⟩
structure EnS (w W : World) (B : Nat) (k : Tk) (v : Value) (L : List Int) (b : Nat) : Prop where
 q : PK w W B w.heap.size k
 o : OB (w.heap.size + 1) W v (byC L)
 s : w.heap.size + 1 ≤ W.heap.size
 m : L.length ≤ b
theorem EnS.put {w W W1 W2 : World} {B b c : Nat} {k : Tk} {v v2 : Value} {L X : List Int} (S : EnS w W B k v L b) (h : Below W.heap.size W W1) (o : OB (w.heap.size + 1) W2 v2 (byC L ++ byC X)) (g : W1.grownBy W2 v.ownBlock) (hX : X.length ≤ c) : EnS w W2 B k v2 (L ++ X) (b + c) := by
 have z := S.s
 have z2 := h.size
 have b := (S.o.below h).up g (by omega)
 exact ⟨(S.q.step h).stepB b (by omega) (by omega), by rw [byC_append]; exact o, by have := g.size; omega, by have := S.m; rw [List.length_append]; omega⟩
theorem EnS.as {w W : World} {B b b' : Nat} {k : Tk} {v : Value} {L L' : List Int} (S : EnS w W B k v L b) (e : L = L') (h : b ≤ b') : EnS w W B k v L' b' := by
 subst e; exact ⟨S.q, S.o, S.s, by have := S.m; omega⟩
def wrH (d : TD) (j : Nat) : List Int := (d.H.take j).flatMap numC.wr
def wrG (d : TD) (j : Nat) : List Int := (d.G.take j).flatMap u16B
def wrK (d : TD) (j : Nat) : List Int := (d.K.take j).flatMap kindC.wr
def gnd0 (d : TD) : List Int := ((((markB chtr 4 ++ u16B d.rate) ++ numB (tw64 d.cell) 8) ++ u16B d.cols) ++ u16B d.rows) ++ placeC.wr d.at_
def gnd1 (d : TD) : List Int := gnd0 d ++ d.H.flatMap numC.wr
def gnd2 (d : TD) : List Int := gnd1 d ++ d.G.flatMap u16B ++ u16B d.K.length
def gnd3 (d : TD) : List Int := gnd2 d ++ d.K.flatMap kindC.wr
theorem u16_len (n : Int) : (u16B n).length = 2 := rfl
theorem wr_kind (x y : Int) (b : Bool) : kindC.wr (x, y, b) = (numB (tw64 x) 8 ++ (numB (tw64 y) 8 ++ flagB b)) := rfl
theorem tk_nums {B : Nat} {w : World} {k : Tk} (h : TkM B w k) : (In64 k.t.rate ∧ In64 k.t.cell ∧ In64 k.t.cols ∧ In64 k.t.rows ∧ In64 k.t.cx ∧ In64 k.t.cy) ∧ In64 k.t.sx ∧ In64 k.t.sy ∧ In64 k.t.laps :=
 ⟨⟨h.n.1.1, h.T.n.1, h.T.n.2.1, h.T.n.2.2.1, h.T.n.2.2.2.1, h.T.n.2.2.2.2⟩, h.n.2.1, h.n.2.2, h.n.1.2⟩
end Go.Proofs.YtmdjnamkbekjkaaGreatDoor

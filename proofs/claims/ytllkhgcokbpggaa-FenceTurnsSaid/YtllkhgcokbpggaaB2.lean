/- The program's track: bounds, points that repeat, a rail, a gate. -/
import Derived.Test.YtllkhgcokbpggaaCg
import Derived.Test.YtllkhgcokbpggaaEt
import Derived.Test.YtllkhgcokbpggaaBl
import Derived.Test.YtllkhgcokbpggaaB5
namespace Go.Proofs.Ytllkhgcokbpggaa
open Go.RowKit
set_option linter.unusedVariables false
set_option linter.unusedSimpArgs false

/-- n points lie at a slice's address -/
def Pts (w : World) (a : Option Addr) (n : Nat) (X Y : Nat → Int) : Prop := 0 < n → ∃ b off, a = some ⟨b, off, none⟩ ∧ b < w.heap.size ∧ ∀ i, i < n → w.cell? ⟨b, off + i * 2, none⟩ = some (.int .i64 (X i)) ∧ w.cell? ⟨b, off + i * 2 + 1, none⟩ = some (.int .i64 (Y i))
theorem Pts.step {w w' : World} {a : Option Addr} {n : Nat} {X Y : Nat → Int} (k : Pts w a n X Y) (h : Below w.heap.size w w') : Pts w' a n X Y := fun hn => by
  obtain ⟨b, off, ha, hb, hc⟩ := k hn
  exact ⟨b, off, ha, Nat.lt_of_lt_of_le hb h.size, fun i hi => ⟨(h.cell (p := ⟨b, _, none⟩) hb).trans (hc i hi).1, (h.cell (p := ⟨b, _, none⟩) hb).trans (hc i hi).2⟩⟩
/-- two points in a block -/
def two (x y : Int) (i : Nat) : Int := if i = 0 then x else y
theorem Pts.two {w : World} {b : Nat} {ax ay bx by' : Int} (k : BW w b [.int .i64 ax, .int .i64 ay, .int .i64 bx, .int .i64 by']) : Pts w (some ⟨b, 0, none⟩) 2 (two ax bx) (two ay by') :=
  fun _ => ⟨b, 0, rfl, k.lt, fun i hi => by
    rcases (show i = 0 ∨ i = 1 by omega) with e | e
    · subst e; exact ⟨k.c 0 _ rfl, k.c 1 _ rfl⟩
    · subst e; exact ⟨k.c 2 _ rfl, k.c 3 _ rfl⟩⟩
theorem hlf_two (ax ay bx by' : Int) : decide (hlfN 2 (two ax bx) (two ay by')) = decide (hlfP ax ay ∧ hlfP bx by') := by
  rw [decide_eq_decide]
  refine ⟨fun k => ⟨k 0 (by omega), k 1 (by omega)⟩, fun k i hi => ?_⟩
  rcases (show i = 0 ∨ i = 1 by omega) with e | e
  · subst e; exact k.1
  · subst e; exact k.2
theorem stp_two (ax ay bx by' : Int) : decide (stpN 2 (two ax bx) (two ay by')) = decide (¬ (ax = bx ∧ ay = by')) := by
  rw [decide_eq_decide]
  refine ⟨fun k h => k 0 (by omega) ⟨h.1.symm, h.2.symm⟩, fun k i hi h => ?_⟩
  obtain rfl : i = 0 := by omega
  exact k ⟨h.1.symm, h.2.symm⟩
/-- a gate's copy -/
def GW (w W : World) (m : Nat) (g : Gt) : Prop := BW W m [.int .i64 g.ax, .int .i64 g.ay, .int .i64 g.bx, .int .i64 g.by', .bool g.s] ∧ Below w.heap.size w W ∧ w.heap.size ≤ m
theorem GW.step {w W W' : World} {m : Nat} {g : Gt} (G : GW w W m g) (h : Below W.heap.size W W') : GW w W' m g := ⟨G.1.below h G.1.lt, G.2.1.trans (h.mono G.2.1.size), G.2.2⟩
end Go.Proofs.Ytllkhgcokbpggaa
namespace Go.Proofs.Ytllkhgcokbpggaa
open Go.RowKit
set_option linter.unusedVariables false
set_option linter.unusedSimpArgs false

/-- the cells that a bar is made of -/
def BrT (pb o2 o3 : Nat) (x0 y0 x1 y1 : Int) (W : World) : Prop :=
  (W.cell? ⟨pb, o2, none⟩ = some (.int .i64 x0) ∧ W.cell? ⟨pb, o2 + 1, none⟩ = some (.int .i64 y0)) ∧ W.cell? ⟨pb, o3, none⟩ = some (.int .i64 x1) ∧ W.cell? ⟨pb, o3 + 1, none⟩ = some (.int .i64 y1)
theorem BrT.keep {pb o2 o3 C : Nat} {x0 y0 x1 y1 : Int} {W W' : World} (h : Below C W W') (e : pb < C) (S : BrT pb o2 o3 x0 y0 x1 y1 W) : BrT pb o2 o3 x0 y0 x1 y1 W' :=
  ⟨⟨(h.cell (p := ⟨pb, _, none⟩) e).trans S.1.1, (h.cell (p := ⟨pb, _, none⟩) e).trans S.1.2⟩, (h.cell (p := ⟨pb, _, none⟩) e).trans S.2.1, (h.cell (p := ⟨pb, _, none⟩) e).trans S.2.2⟩
set_option maxRecDepth 100000 in
set_option maxHeartbeats 8000000 in
theorem tkBars2_any (k : Tk) (B : Nat) (w : World) (hB : B ≤ w.heap.size) (few : fewR k) (K : TkM B w k) :
    Calls Try.prog 22 #[trkV k.t] w fun e w' => ∃ a c, e = .returned (.slice a (barN k k.t.rn) c) ∧ Brs w' a (barN k k.t.rn) c (barG k) ∧ Below w.heap.size w w' ∧ ∀ p, a = some p → w.heap.size ≤ p.block := by
  have Q0 := Lib.hid (PK.new 34 K hB)
  have fr := few.2.1
  have FR := Lib.hid few.2.2.2
  have BL := Lib.hid (fun (m : Nat) (hm : m ≤ k.t.rn) => barN_le k (q := 99) (fun i hi => by have := FR.out i hi; omega) hm)
  obtain ⟨i0, hi, hz0, hz1, hz2⟩ := info_parts barInfo
  have U := Try.underlying38
  obtain ⟨ra, hra0⟩ : ∃ ra, k.t.ra = ra := ⟨_, rfl⟩
  have HRA := Lib.hid hra0
  clear K few hra0
  go_enter Try.func22, Try.ntmps22
  go_wp2_with fail
  refine wp_gen (S := fun W => PK w W B w.heap.size k ∧ w.heap.size + 1 ≤ W.heap.size ∧ W.ownsRow (w.heap.size + 1) 54 5 (.slice (some ⟨w.heap.size + 1, 0, none⟩) 0 0) 0 []) ⟨Q0.out.step ((Below.refl _ _).alloc (Nat.le_refl _) _), by simp, by
    have := World.ownsRow_lit (base := w.heap.size + 1) (e := 54) (size := 5) (w.alloc (.cells #[.int .i64 k.t.rate, .int .i64 k.t.cell, .int .i64 k.t.cols, .int .i64 k.t.rows, .int .i64 k.t.cx, .int .i64 k.t.cy, .slice k.t.H.a k.t.H.n k.t.H.c, .slice k.t.G.a k.t.G.n k.t.G.c, .slice k.t.ka k.t.kn k.t.kc, .slice k.t.la k.t.ln k.t.lc, .slice k.t.ra k.t.rn k.t.rc, .slice k.t.ga k.t.gn k.t.gc, .int .i64 k.t.sx, .int .i64 k.t.sy, .int .u32 k.t.head, .int .i64 k.t.laps] 34)) #[] 0 (by simp) (by unfold maxLen; omega) (by simp)
    simpa using this⟩ (fun W1 hS => ?_)
  have Q1 := Lib.hid hS.1
  have Z1 := hS.2.1
  have O1 := Lib.hid hS.2.2
  rw [HRA.out]
  clear hS Q0
  go_loopw [3, 11] (fun v i wr => ∃ j : Nat, j ≤ k.t.rn ∧ i = .int .i64 j ∧ wr.ownsRow (w.heap.size + 1) 54 5 v (barN k j) (fvL (barG k) (barN k j)) ∧ PK w wr B w.heap.size k ∧ w.heap.size + 1 ≤ wr.heap.size) (fun _ i _ => k.t.rn - (intOf i).toNat)
  case atStart => exact ⟨0, by omega, rfl, O1.out, Q1.out, Z1⟩
  case round =>
    obtain ⟨j, hj, rfl, hO, hQ, hZ⟩ := hrel
    have Q2 := Lib.hid hQ
    have O2 := Lib.hid hO
    have cl := Q2.out.c.lt
    clear hO hQ Q1 Z1 O1
    by_cases hlj : j < k.t.rn
    · have bl1 := BL.out (j + 1) (by omega)
      have b1 : barN k (j + 1) = barN k j + ((k.R j).n - 1) := rfl
      have BB := Lib.hid (And.intro bl1 b1)
      have hn := FR.out j hlj
      obtain ⟨rb, ro, hra, hrb, hrc⟩ := Q2.out.t.R (by omega)
      have d0 := hrc j hlj
      have hrb' := Nat.lt_of_lt_of_le hrb Q2.out.bz
      obtain rfl := HRA.out.symm.trans hra
      have z0 : (0 : Int) ≤ (j : Int) := by omega
      have z1 : (j : Int) < (k.t.rn : Int) := by omega
      obtain ⟨pa, hpa0⟩ : ∃ pa, (k.R j).a = pa := ⟨_, rfl⟩
      rw [hpa0] at d0
      have HPA := Lib.hid hpa0
      clear bl1 b1 hra hrb hrc hpa0
      go_wp2
      clear d0
      go_loopw [3, 6] (fun v i wr => ∃ p : Nat, p ≤ (k.R j).n - 1 ∧ i = .int .i64 ((p + 1 : Nat) : Int) ∧ wr.ownsRow (w.heap.size + 1) 54 5 v (barN k j + p) (fvL (barG k) (barN k j + p)) ∧ PK w wr B w.heap.size k ∧ w.heap.size + 1 ≤ wr.heap.size) (fun _ i _ => (k.R j).n - (intOf i).toNat)
      case atStart => exact ⟨0, by omega, rfl, O2.out, Q2.out, hZ⟩
      case round =>
        obtain ⟨p, hp, rfl, hO, hQ, hZ⟩ := hrel
        have Q3 := Lib.hid hQ
        have O3 := Lib.hid hO
        clear hO hQ Q2 O2
        have cl3 := Q3.out.c.lt
        have hBw := Q3.out.z
        obtain ⟨q, hq⟩ : ∃ q, p + 1 = q := ⟨_, rfl⟩
        rw [hq]
        by_cases hlp : q < (k.R j).n
        · obtain ⟨pb, po, hpa, hpb, hpc⟩ := (Q3.out.t.Rs j hlj).at' (by omega)
          obtain ⟨e0, e1⟩ := hpc p (by omega)
          obtain ⟨e2, e3⟩ := hpc q hlp
          have hpb1 : pb < w.heap.size + 1 := by omega
          obtain rfl := HPA.out.symm.trans hpa
          have GA := Lib.hid (barG_at k (i := j) (p := p) (by omega) hlj)
          rw [hq] at GA
          have y0 : (0 : Int) ≤ (p : Int) := by omega
          have y1 : (p : Int) < ((k.R j).n : Int) := by omega
          have y2 : (0 : Int) ≤ (q : Int) := by omega
          have y3 : (q : Int) < ((k.R j).n : Int) := by omega
          have WP := Lib.hid (show IntKind.i64.wrap ((q : Int) - 1) = (p : Int) by rw [show (q : Int) - 1 = (p : Int) by omega]; exact (wrap_in' (by unfold In64; omega)).1)
          have bnd : barN k j + p + 1 ≤ 2000 := by have := BB.out; omega
          have HP := Lib.hid (And.intro hq hp)
          clear hpa hpb hpc hq hp HPA
          generalize (k.R j).x p = x0 at *
          generalize (k.R j).y p = v0 at *
          generalize (k.R j).x q = x1 at *
          generalize (k.R j).y q = v1 at *
          have T0 := Lib.hid (show BrT pb (po + p * 2) (po + q * 2) x0 v0 x1 v1 _ from ⟨⟨e0, e1⟩, e2, e3⟩)
          go_wp2_with fail
          refine wp_region_held_drew (S := BrT pb (po + p * 2) (po + q * 2) x0 v0 x1 v1) (by kernel_rfl) T0.out (fun hHeld => ?_)
          have Q4 := Q3
          have O4 := Lib.hid (World.ownsRow.drew O3.out)
          have hZ4 := hZ
          have T1 := Lib.hid T0.out
          clear Q3 O3 e0 e1 e2 e3 T0 cl3
          unfold BrT at hHeld ⊢
          have u1 := WP.out
          refine tkD 0 22 (v := ?_) ?_ hHeld ?_
          rotate_left 1
          (intro W hSw; (try dsimp only at hSw); go_simp; try with_reducible rfl)
          (try simp only [putA, putB, putC, putD])
          refine tkD 1 23 (v := ?_) ?_ hHeld ?_
          rotate_left 1
          (intro W hSw; (try dsimp only at hSw); go_simp; try with_reducible rfl)
          (try simp only [putA, putB, putC, putD])
          refine tkD 2 24 (v := ?_) ?_ hHeld ?_
          rotate_left 1
          (intro W hSw; (try dsimp only at hSw); go_simp; try with_reducible rfl)
          (try simp only [putA, putB, putC, putD])
          refine tkD 3 25 (v := ?_) ?_ hHeld ?_
          rotate_left 1
          (intro W hSw; (try dsimp only at hSw); go_simp; try with_reducible rfl)
          (try simp only [putA, putB, putC, putD])
          refine tkD 4 26 (v := ?_) ?_ hHeld ?_
          rotate_left 1
          (intro W hSw; (try dsimp only at hSw); go_simp; try with_reducible rfl)
          (try simp only [putA, putB, putC, putD])
          refine tkD 5 27 (v := ?_) ?_ hHeld ?_
          rotate_left 1
          (intro W hSw; (try dsimp only at hSw); go_simp; try with_reducible rfl)
          (try simp only [putA, putB, putC, putD])
          refine tkD 6 28 (v := ?_) ?_ hHeld ?_
          rotate_left 1
          (intro W hSw; (try dsimp only at hSw); go_simp; try with_reducible rfl)
          (try simp only [putA, putB, putC, putD])
          refine tkD 7 29 (v := ?_) ?_ hHeld ?_
          rotate_left 1
          (intro W hSw; (try dsimp only at hSw); go_simp; try with_reducible rfl)
          (try simp only [putA, putB, putC, putD])
          refine tkD 8 30 (v := ?_) ?_ hHeld ?_
          rotate_left 1
          (intro W hSw; (try dsimp only at hSw); go_simp; try with_reducible rfl)
          (try simp only [putA, putB, putC, putD])
          refine tkD 9 31 (v := ?_) ?_ hHeld ?_
          rotate_left 1
          (intro W hSw; (try dsimp only at hSw); go_simp; try with_reducible rfl)
          (try simp only [putA, putB, putC, putD])
          refine tkD 10 32 (v := ?_) ?_ hHeld ?_
          rotate_left 1
          (intro W hSw; (try dsimp only at hSw); go_simp; try with_reducible rfl)
          (try simp only [putA, putB, putC, putD])
          refine tkD 11 33 (v := ?_) ?_ hHeld ?_
          rotate_left 1
          (intro W hSw; (try dsimp only at hSw); go_simp; try with_reducible rfl)
          (try simp only [putA, putB, putC, putD])
          clear u1 WP
          refine onlD 12 (fun K hK => ?_)
          go_simp
          refine hK.out _ _ (BrT.keep ((Below.refl (w.heap.size + 1) _).drew.alloc hZ4 _) hpb1 T1.out) ?_
          clear hK K hHeld
          intro hHeld
          refine wpAnyH_onlyD 13 (by kernel_rfl) (fun o ho K hK => ?_) (by kernel_rfl)
          simp only [List.getElem?_toArray, List.getElem?_cons_succ, List.getElem?_cons_zero, Option.some.injEq] at ho
          subst ho
          refine step_append_lies _ (by rfl) (.tmp 22) (.tmp 34) 38 (by rfl) (w.heap.size + 1) 54 i0 (.agg #[.int .i64 0, .int .i64 0, .int .i64 0, .int .i64 0, .int .i64 0]) 5 40 U hi hz0 hz1 hz2 rfl (by omega) _ (barN k j + p) (fvL (barG k) (barN k j + p)) (by rfl) (O4.out.alloc _) _ 1 1 [.int .i64 x0, .int .i64 v0, .int .i64 x1, .int .i64 v1, .int .i64 j] (by rfl) rfl (World.news_of_block (heap_alloc_new _ _)) (by simp [Value.oneCell']) (by omega) (by unfold maxLen; omega) (by omega) (by simp; omega) _ rfl ?_
          intro g cap w1 hO hG hat hlt2
          have HB := (Below.refl (w.heap.size + 1) _).grown hG (by simp; omega) (fun m e => (O4.out.lt m e).1)
          have HB2 := (((Below.refl (w.heap.size + 1) _).alloc hZ4 _).drew).trans HB
          have Q5 := Lib.hid (Q4.out.stepB HB2 (by omega) (by omega))
          have O5 := Lib.hid (show w1.ownsRow (w.heap.size + 1) 54 5 _ (barN k j + q) (fvL (barG k) (barN k j + q)) from by
            rw [← HP.out.1]
            show w1.ownsRow (w.heap.size + 1) 54 5 _ (barN k j + p + 1) (fvL (barG k) (barN k j + p) ++ [.int .i64 (barG k (barN k j + p)).ax, .int .i64 (barG k (barN k j + p)).ay, .int .i64 (barG k (barN k j + p)).bx, .int .i64 (barG k (barN k j + p)).by', .int .i64 (barG k (barN k j + p)).r])
            rw [GA.out]
            exact hO)
          have hZ5 : w.heap.size + 1 ≤ w1.heap.size := by have := HB2.size; omega
          refine hK.out _ _ (BrT.keep HB2 hpb1 T1.out) ?_
          clear hK K hHeld T1 hO hG HB HB2 hat Q4 O4 GA
          intro hHeld
          refine tkD 14 3 (v := ?_) ?_ hHeld ?_
          rotate_left 1
          (intro W hSw; (try dsimp only at hSw); go_simp; try with_reducible rfl)
          (try simp only [putA, putB, putC, putD])
          refine wpAnyH_done (by kernel_rfl) ?_ _
          clear hHeld
          go_wp2
          go_roundw
          case rel => exact ⟨q, by have := HP.out; omega, by go_num, O5.out, Q5.out, hZ5⟩
          case measure => simp [intOf]; omega
        · have e : p = (k.R j).n - 1 := by omega
          have hc : ¬ (q : Int) < ((k.R j).n : Int) := by omega
          clear hq hp
          go_wp2
          go_roundw
          case rel => exact ⟨j + 1, by omega, by go_num, by rw [BB.out.2, ← e]; exact O3.out, Q3.out, hZ⟩
          case measure => simp [intOf]; omega
    · have e : j = k.t.rn := by omega
      subst e
      obtain ⟨a', c', hv, D', hb⟩ := owned_bars O2.out
      have D2 := Lib.hid D'
      have HB := Lib.hid hb
      subst hv
      clear D' O2 hb
      go_wp2
      go_ret
      exact ⟨a', c', rfl, D2.out, Q2.out.l, fun p e => by have := HB.out p e; omega⟩
theorem tkBars_any (k : Tk) (B : Nat) (w : World) (hB : B ≤ w.heap.size) (few : fewR k) (K : TkM B w k) :
    Calls Try.prog 22 #[trkV k.t] w fun e w' => ∃ a c, e = .returned (.slice a (barN k k.t.rn) c) ∧ Brs w' a (barN k k.t.rn) c (barG k) ∧ Below w.heap.size w w' :=
  (tkBars2_any k B w hB few K).mono fun e w' ⟨a, c, h, d, l, _⟩ => ⟨a, c, h, d, l⟩
end Go.Proofs.Ytllkhgcokbpggaa
namespace Go.Proofs.Ytllkhgcokbpggaa
open Go.RowKit
set_option linter.unusedVariables false
set_option linter.unusedSimpArgs false

/-- what is wrong with the parts -/
def rateE (k : Tk) : Int × Int := if k.t.rate < 60 ∨ 1024 < k.t.rate then (40, 0) else (0, 0)
def linE (k : Tk) : Int := if lineR k.line.n k.line.x k.line.y ≠ 0 then lineR k.line.n k.line.x k.line.y else if hlfN k.line.n k.line.x k.line.y then 0 else 40
def rlsE (k : Tk) : Int × Int := if 16 < k.t.rn then (42, 0) else if fstI (fun i => railE (k.R i)) k.t.rn < k.t.rn then (railE (k.R (fstI (fun i => railE (k.R i)) k.t.rn)), (fstI (fun i => railE (k.R i)) k.t.rn : Int)) else (0, 0)
def gtsE (k : Tk) : Int × Int := if k.t.gn < 1 ∨ 16 < k.t.gn then (42, 0) else if fstI (fun i => gateE (k.G i)) k.t.gn < k.t.gn then (gateE (k.G (fstI (fun i => gateE (k.G i)) k.t.gn)), (fstI (fun i => gateE (k.G i)) k.t.gn : Int)) else (0, 0)
noncomputable def staE (k : Tk) : Int × Int := if ¬ rectP k.t then (40, 0) else if ¬ (∀ j, j < barN k k.t.rn → ¬ behP k j) then (43, 0) else (0, 0)
def lapE (k : Tk) : Int × Int := if k.t.laps < 1 ∨ 100 < k.t.laps then (40, 0) else (0, 0)
theorem rls_at {k : Tk} (h : ¬ 16 < k.t.rn) {j : Nat} (hj : j < k.t.rn) (h0 : ∀ i, i < j → railE (k.R i) = 0) (hn : railE (k.R j) ≠ 0) : rlsE k = (railE (k.R j), (j : Int)) := by
  have e := fstI_at (f := fun i => railE (k.R i)) h0 hn hj
  unfold rlsE
  rw [if_neg h, e, if_pos hj]
theorem rls_no {k : Tk} (h : ¬ 16 < k.t.rn) (h0 : ∀ i, i < k.t.rn → railE (k.R i) = 0) : rlsE k = (0, 0) := by
  have e := fstI_all (f := fun i => railE (k.R i)) h0
  unfold rlsE
  rw [if_neg h, e, if_neg (by omega)]
theorem gts_at {k : Tk} (h : ¬ (k.t.gn < 1 ∨ 16 < k.t.gn)) {j : Nat} (hj : j < k.t.gn) (h0 : ∀ i, i < j → gateE (k.G i) = 0) (hn : gateE (k.G j) ≠ 0) : gtsE k = (gateE (k.G j), (j : Int)) := by
  have e := fstI_at (f := fun i => gateE (k.G i)) h0 hn hj
  unfold gtsE
  rw [if_neg h, e, if_pos hj]
theorem gts_no {k : Tk} (h : ¬ (k.t.gn < 1 ∨ 16 < k.t.gn)) (h0 : ∀ i, i < k.t.gn → gateE (k.G i) = 0) : gtsE k = (0, 0) := by
  have e := fstI_all (f := fun i => gateE (k.G i)) h0
  unfold gtsE
  rw [if_neg h, e, if_neg (by omega)]
end Go.Proofs.Ytllkhgcokbpggaa
namespace Go.Proofs.Ytllkhgcokbpggaa
open Go.RowKit
set_option linter.unusedVariables false
set_option linter.unusedSimpArgs false

/-- a track's copy and a place's -/
def PKp (w W : World) (B : Nat) (k : Tk) : Prop := PK w W B w.heap.size k ∧ BW W (w.heap.size + 1) [.int .i64 k.t.sx, .int .i64 k.t.sy]
theorem PKp.step {w W W' : World} {B : Nat} {k : Tk} (Q : PKp w W B k) (h : Below W.heap.size W W') : PKp w W' B k := ⟨Q.1.step h, Q.2.below h Q.2.lt⟩
end Go.Proofs.Ytllkhgcokbpggaa

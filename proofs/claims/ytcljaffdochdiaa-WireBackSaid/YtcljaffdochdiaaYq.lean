/- The walk of WireOwn. -/
import Derived.Test.YtcljaffdochdiaaYp
namespace Go.Proofs.Ytcljaffdochdiaa
open Go.RowKit
set_option linter.unusedVariables false
set_option linter.unusedSimpArgs false

theorem OB.mid {base0 base top : Nat} {W W' : World} {v : Value} {xs : List Value} (h : OB base0 W v xs) (k : Mid base top W W') (hg : ∀ g, v.ownBlock = some g → g < base) : OB base0 W' v xs := by
  rcases h with h | ⟨g, cap, rfl, hb, hl, hn, hm, hc, hf, hx⟩
  · exact .inl h
  · have B := k.block g hl (Or.inl (hg g rfl))
    have C : ∀ j, W'.cell? ⟨g, j, none⟩ = W.cell? ⟨g, j, none⟩ := fun j => World.cell?_of_block (a := ⟨g, j, none⟩) B
    exact .inr ⟨g, cap, rfl, hb, Nat.lt_of_lt_of_le hl k.size, hn, hm, fun j hj => by rw [C]; exact hc j hj, fun j => (World.frozen?_of_block (a := ⟨g, j, none⟩) B).trans (hf j), fun j u hj => by rw [C]; exact hx j u hj⟩
theorem BL.mid {base top : Nat} {W W' : World} {a : Option Addr} {n : Nat} {l : List Int} (h : BL W a n l) (k : Mid base top W W') (ha : 0 < n → ∀ p, a = some p → p.block < base) : BL W' a n l :=
  ⟨h.hn, h.u, fun h0 => by
    obtain ⟨b, off, e, hb, hc⟩ := h.c h0
    have := ha h0 _ e
    exact ⟨b, off, e, Nat.lt_of_lt_of_le hb k.size, fun i x hx => (World.cell?_of_block (a := ⟨b, off + i, none⟩) (k.block b hb (Or.inl this))).trans (hc i x hx)⟩⟩
theorem conv_bl0 {P : Program} {W : World} {a : Option Addr} {n : Nat} {l : List Int} (h : BL W a n l) (c : Nat) (src e dst : TypeId) (hs : P.underlying src = some (.slice e)) (he : P.underlying e = some (.int .u8)) (hd : P.underlying dst = some .string) : (convert src dst (.slice a n c)).run P W = .ok (.string (txt l)) W := by
  by_cases n0 : 0 < n
  · exact conv_bl h n0 c src e dst hs he hd
  · have hl := h.hn
    have : l = [] := List.eq_nil_of_length_eq_zero (by omega)
    subst this
    have n00 : n = 0 := by omega
    subst n00
    cases a with
    | none => rw [run_convert_bytes_nil (P := P) W src e hs he _ _ dst hd]; rfl
    | some x =>
      rw [run_convert_bytes_string W src dst e _ 0 c hs he hd, run_bytesToString W x 0 c [] (by simp [loadCells, loadCellsFrom])]
      rfl
/-- what WireOwn holds -/
structure OSt (C : OutT) (I : InT) (w W : World) (nb : Nat) (v u : Value) (l lb : List Int) (base top ni : Nat) (s : IS) (a : Option Addr) (m : Nat) : Prop where
  ps : PS C w W nb v (.slice none 0 0) l []
  uo : OB w.heap.size W u (byC lb)
  ip : I.P base top W ni lb s
  bb : BL W a m lb
  wb : w.heap.size ≤ base
  ub : ∀ g, u.ownBlock = some g → g < base
  ab : 0 < m → ∀ p, a = some p → p.block < base
theorem OSt.step {C : OutT} {I : InT} {w W W' : World} {nb : Nat} {v u : Value} {l lb : List Int} {base top ni : Nat} {s : IS} {a : Option Addr} {m : Nat} (h : OSt C I w W nb v u l lb base top ni s a m) (k : Below W.heap.size W W') : OSt C I w W' nb v u l lb base top ni s a m :=
  ⟨h.ps.step k, h.uo.below k, I.keep h.ip k.size (fun j h1 h2 => k.block j (by have := I.top h.ip; omega)), h.bb.below k, h.wb, h.ub, h.ab⟩
theorem set_sizeY (w : World) (a : Addr) (v : Value) : (w.setCell a v).heap.size = w.heap.size := by simp [World.setCell]
theorem own_empty (W : World) (T : TypeId) : OB W.heap.size (W.alloc (.cells #[] T)) (.slice (some ⟨W.heap.size, 0, none⟩) 0 0) [] := OB.new W [] [] #[] T rfl (Nat.le_refl _) (by unfold maxLen; simp)
theorem own_emptyK {W : World} {k : Nat} (e : W.heap.size = k) (T : TypeId) : OB k (W.alloc (.cells #[] T)) (.slice (some ⟨k, 0, none⟩) 0 0) [] := by subst e; exact own_empty W T
theorem below_cell {B : Nat} {w W : World} (h : Below B w W) {g : Nat} (hg : B ≤ g) (j : Nat) (v : Value) : Below B w (W.setCell ⟨g, j, none⟩ v) := h.setCell (p := ⟨g, j, none⟩) hg v
set_option maxRecDepth 100000 in
set_option maxHeartbeats 4000000 in
theorem wown_walk (C : OutT) (X : WireO C) (I : InT) (Z : WireI I) (n : Int) (a : Option Addr) (m c : Nat) (lb : List Int) (w : World) (hn : In64Y n) (HBL : BL w a m lb) (hmc : m ≤ c) (hcm : c ≤ maxLen) :
    Calls Try.prog 5 #[.int .i64 n, .slice a m c] w fun e w' => e = .returned (.bool true) ∧ Below w.heap.size w w' := by
  have HB := Lib.hid HBL
  have n0 := hn.1
  have n1 := hn.2
  by_cases big : 1000 < m
  · have q : (1000 : Int) < (m : Int) := by omega
    clear HBL
    go_enter Try.func5, Try.ntmps5
    go_wp2
    go_ret
    exact ⟨rfl, Below.refl _ _⟩
  · have q : ¬ (1000 : Int) < (m : Int) := by omega
    have hab := Lib.hid (show 0 < m → ∀ p, a = some p → p.block < w.heap.size from fun h0 p e => by
      obtain ⟨b, off, e2, hb, _⟩ := HBL.c h0
      rw [e2] at e; cases e; exact hb)
    obtain ⟨v0, hz, hv0⟩ := X.zero w.heap.size w (Nat.le_refl _)
    have S0 := Lib.hid (show PS C w (w.alloc (.cells #[.slice none 0 0] 27)) w.heap.size v0 (.slice none 0 0) [] [] from ⟨hz, OB.nil _ _, (Below.refl _ _).alloc (Nat.le_refl _) _, (by intro e; cases e), fun _ => rfl⟩)
    have HX := Lib.hid X
    have HZ := Lib.hid Z
    have NI := Lib.hid (numB_in 8 (tw64_in n).1 (tw64_in n).2)
    have NL := Lib.hid (numB_length (tw64 n) 8)
    obtain ⟨l, hl⟩ : ∃ l, numB (tw64 n) 8 = l := ⟨_, rfl⟩
    have XN := Lib.hid (X.num n hn)
    have YN := Lib.hid (fun (W : World) => rwNum_any n W n0 n1)
    rw [hl] at NI NL XN YN
    clear hz hv0 X Z HBL hl
    go_enter Try.func5, Try.ntmps5
    go_wp2_with fail
    refine (XN.out w.heap.size _ _ v0 [] S0.out.p S0.out.b.size (by rw [NL.out]; simp)).mono ?_
    rintro e w1 ⟨rfl, v1, hp, hk, hv⟩
    have S1 := Lib.hid (S0.out.put hp hk hv)
    rw [List.nil_append] at S1
    clear hp hk hv S0 XN
    go_wp2_with fail
    refine (HX.out.bytes w.heap.size _ _ v1 l S1.out.p NI.out).mono ?_
    rintro e w2 ⟨⟨x, rfl, hx⟩, hb⟩
    have hlen : (byC l).length = 8 := by rw [byC_length, NL.out]
    rcases hx with ⟨_, e⟩ | ⟨g, cap, rfl, hg, hgl, hc8, hcx, hcs, hf, hcell⟩
    · rw [e] at hlen; simp at hlen
    rw [hlen] at hc8 ⊢
    obtain ⟨x0, r, hxr⟩ : ∃ x0 r, l = x0 :: r := by
      have := NL.out
      cases l with
      | nil => simp at this
      | cons x0 r => exact ⟨x0, r, rfl⟩
    have c0 := hcell 0 (.int .u8 x0) (by rw [hxr]; rfl)
    have B2 := Lib.hid hb
    have GG := Lib.hid (And.intro hg hgl)
    clear hb hcs hcell hc8 hcx hxr hlen hg
    have sw1 := S1.out.b.size
    have HBW := Lib.hid (fun (v : Value) => (show Below w.heap.size w (w2.setCell ⟨g, 0, none⟩ v) from below_cell (S1.out.b.trans (B2.out.mono sw1)) (by have := GG.out.1; omega) 0 v))
    go_wp2_with (at_builtin; refine wpList_ob rfl (.tmp 31) (.tmp 32) 25 25 rfl 5 _ (.int .u8 0) Try.underlying25 rfl rfl rfl rfl (by decide) (own_emptyK (set_sizeY w2 ⟨g, 0, none⟩ _) _) rfl _ m (byC lb) rfl (src_bl Try.underlying25 ((HB.out.below (HBW.out _)).below ((Below.refl _ _).alloc (Nat.le_refl _) _)) (fun _ => by cases a <;> simp) c) (by simp; omega) (by simp) ?_)
    intro u1 w4 o1 g1 p1
    have B4 := Lib.hid (show Below w1.heap.size w1 w4 from (below_cell B2.out GG.out.1 0 _).trans ((((Below.refl w2.heap.size _).alloc (by rw [set_sizeY]; exact Nat.le_refl _) _).trans ((own_emptyK (set_sizeY w2 ⟨g, 0, none⟩ _) _).up g1 (by simp [set_sizeY]))).mono B2.out.size))
    have O4 := Lib.hid (show OB w.heap.size w4 u1 (byC lb) from o1.mono (Nat.le_trans sw1 B2.out.size))
    have S4 := Lib.hid (S1.out.step B4.out)
    have HB4 := Lib.hid (HB.out.below S4.out.b)
    clear o1 g1 p1 c0 hf HBW B2 GG S1 B4 HB
    go_wp2_with fail
    refine (HZ.out.new a m c lb w4 HB4.out hmc hcm (by omega)).mono ?_
    rintro e w5 ⟨ni, rfl, hp, hb⟩
    have Q5 := Lib.hid (show OSt C I w w5 w.heap.size v1 u1 l lb w4.heap.size w5.heap.size ni ⟨0, 0, 0, 0⟩ a m from ⟨S4.out.step hb, O4.out.below hb, hp, HB4.out.below hb, S4.out.b.size, fun g e => (O4.out.row_lt e).2, fun h0 p e => Nat.lt_of_lt_of_le (hab.out h0 p e) S4.out.b.size⟩)
    obtain ⟨base, hbase⟩ : ∃ base, w4.heap.size = base := ⟨_, rfl⟩
    obtain ⟨top, htop⟩ : ∃ top, w5.heap.size = top := ⟨_, rfl⟩
    rw [hbase, htop] at Q5
    clear hp hb hbase htop HB4 S4 O4 hab
    go_wp2_with fail
    refine (HX.out.nilNum n _ hn).mono ?_
    rintro e w6 ⟨rfl, h⟩
    have Q6 := Lib.hid (Q5.out.step h)
    clear h Q5
    go_wp2_with fail
    refine (HZ.out.nilEnd _).mono ?_
    rintro e w7 ⟨rfl, h⟩
    have Q7 := Lib.hid (Q6.out.step h)
    clear h Q6
    go_wp2_with fail
    have Q8 := Lib.hid (Q7.out.step ((Below.refl _ _).drew))
    refine wp_region_held_drew (S := fun W => True) (by kernel_rfl) trivial (fun hHeld => ?_)
    generalize w7.drew = w8 at *
    clear Q7
    refine wpAnyH_takeD 0 44 (v := ?_) (by kernel_rfl) (by kernel_rfl) (by kernel_rfl) (by kernel_rfl) (by rfl) (fun _ _ _ h => h) ?_ hHeld ?_
    rotate_left 1
    (intro o ho W hSw; simp only [List.getElem?_toArray, List.getElem?_cons_succ, List.getElem?_cons_zero, Option.some.injEq] at ho; subst ho; (try dsimp only at hSw); go_simp; try with_reducible rfl)
    (try simp only [Act.put, List.setIfInBounds_toArray, List.set_cons_zero, List.set_cons_succ])
    refine wpAnyH_takeD 1 45 (v := ?_) (by kernel_rfl) (by kernel_rfl) (by kernel_rfl) (by kernel_rfl) (by rfl) (fun _ _ _ h => h) ?_ hHeld ?_
    rotate_left 1
    (intro o ho W hSw; simp only [List.getElem?_toArray, List.getElem?_cons_succ, List.getElem?_cons_zero, Option.some.injEq] at ho; subst ho; (try dsimp only at hSw); go_simp; try with_reducible rfl)
    (try simp only [Act.put, List.setIfInBounds_toArray, List.set_cons_zero, List.set_cons_succ])
    refine wpAnyH_takeD 2 46 (v := ?_) (by kernel_rfl) (by kernel_rfl) (by kernel_rfl) (by kernel_rfl) (by rfl) (fun _ _ _ h => h) ?_ hHeld ?_
    rotate_left 1
    (intro o ho W hSw; simp only [List.getElem?_toArray, List.getElem?_cons_succ, List.getElem?_cons_zero, Option.some.injEq] at ho; subst ho; (try dsimp only at hSw); go_simp; try with_reducible rfl)
    (try simp only [Act.put, List.setIfInBounds_toArray, List.set_cons_zero, List.set_cons_succ])
    refine wpAnyH_takeD 3 47 (v := ?_) (by kernel_rfl) (by kernel_rfl) (by kernel_rfl) (by kernel_rfl) (by rfl) (fun _ _ _ h => h) ?_ hHeld ?_
    rotate_left 1
    (intro o ho W hSw; simp only [List.getElem?_toArray, List.getElem?_cons_succ, List.getElem?_cons_zero, Option.some.injEq] at ho; subst ho; (try dsimp only at hSw); go_simp; try with_reducible rfl)
    (try simp only [Act.put, List.setIfInBounds_toArray, List.set_cons_zero, List.set_cons_succ])
    refine wpAnyH_takeD 6 50 (v := ?_) (by kernel_rfl) (by kernel_rfl) (by kernel_rfl) (by kernel_rfl) (by rfl) (fun _ _ _ h => h) ?_ hHeld ?_
    rotate_left 1
    (intro o ho W hSw; simp only [List.getElem?_toArray, List.getElem?_cons_succ, List.getElem?_cons_zero, Option.some.injEq] at ho; subst ho; (try dsimp only at hSw); go_simp; try with_reducible rfl)
    (try simp only [Act.put, List.setIfInBounds_toArray, List.set_cons_zero, List.set_cons_succ])
    refine wpAnyH_onlyD 4 (by kernel_rfl) (fun o ho K hK => ?_) (by kernel_rfl)
    simp only [List.getElem?_toArray, List.getElem?_cons_succ, List.getElem?_cons_zero, Option.some.injEq] at ho
    subst ho
    go_simp
    refine (HX.out.bytes w.heap.size _ _ v1 l Q8.out.ps.p NI.out).mono ?_
    rintro e w9 ⟨⟨y, rfl, hy⟩, hb⟩
    have Q9 := Lib.hid (Q8.out.step hb)
    have HY := Lib.hid hy
    go_wp2_with fail
    refine hK.out _ _ (trivial) ?_
    clear hK K hHeld
    intro hHeld
    clear hb Q8 hy
    refine wpAnyH_grow (fun W => (convert 25 9 y).run Try.prog W = .ok (.string (txt l)) W) (fun _ h => trivial) (conv_ob (P := Try.prog) HY.out NI.out 25 5 9 rfl rfl rfl) (fun hHeld => ?_)
    refine wpAnyH_takeD 5 49 (v := ?_) (by kernel_rfl) (by kernel_rfl) (by kernel_rfl) (by kernel_rfl) (by rfl) (fun _ _ _ h => h) ?_ hHeld ?_
    rotate_left 1
    (intro o ho W hSw; simp only [List.getElem?_toArray, List.getElem?_cons_succ, List.getElem?_cons_zero, Option.some.injEq] at ho; subst ho; (try dsimp only at hSw); go_simp; try with_reducible rfl)
    (try simp only [Act.put, List.setIfInBounds_toArray, List.set_cons_zero, List.set_cons_succ])
    refine wpAnyH_onlyD 7 (by kernel_rfl) (fun o ho K hK => ?_) (by kernel_rfl)
    simp only [List.getElem?_toArray, List.getElem?_cons_succ, List.getElem?_cons_zero, Option.some.injEq] at ho
    subst ho
    go_simp
    refine (YN.out _).mono ?_
    rintro e w10 ⟨⟨z, rfl, hz⟩, hb⟩
    have Q10 := Lib.hid (Q9.out.step hb)
    have HY2 := Lib.hid (HY.out.below hb)
    have HZ2 := Lib.hid hz
    go_wp2_with fail
    refine hK.out _ _ (conv_ob (P := Try.prog) HY2.out NI.out 25 5 9 rfl rfl rfl) ?_
    clear hK K hHeld
    intro hHeld
    clear hb Q9 hz HY
    refine wpAnyH_grow (fun W => (convert 25 9 y).run Try.prog W = .ok (.string (txt l)) W ∧ (convert 25 9 z).run Try.prog W = .ok (.string (txt l)) W) (fun _ h => h.1) ⟨hHeld, conv_ob (P := Try.prog) HZ2.out NI.out 25 5 9 rfl rfl rfl⟩ (fun hHeld => ?_)
    refine wpAnyH_takeD 8 52 (v := ?_) (by kernel_rfl) (by kernel_rfl) (by kernel_rfl) (by kernel_rfl) (by rfl) (fun _ _ _ h => h) ?_ hHeld ?_
    rotate_left 1
    (intro o ho W hSw; simp only [List.getElem?_toArray, List.getElem?_cons_succ, List.getElem?_cons_zero, Option.some.injEq] at ho; subst ho; (try dsimp only at hSw); go_simp; try with_reducible rfl)
    (try simp only [Act.put, List.setIfInBounds_toArray, List.set_cons_zero, List.set_cons_succ])
    refine wpAnyH_takeD 9 53 (v := ?_) (by kernel_rfl) (by kernel_rfl) (by kernel_rfl) (by kernel_rfl) (by rfl) (fun _ _ _ h => h) ?_ hHeld ?_
    rotate_left 1
    (intro o ho W hSw; simp only [List.getElem?_toArray, List.getElem?_cons_succ, List.getElem?_cons_zero, Option.some.injEq] at ho; subst ho; (try dsimp only at hSw); go_simp; try with_reducible rfl)
    (try simp only [Act.put, List.setIfInBounds_toArray, List.set_cons_zero, List.set_cons_succ])
    refine wpAnyH_takeD 10 54 (v := ?_) (by kernel_rfl) (by kernel_rfl) (by kernel_rfl) (by kernel_rfl) (by rfl) (fun _ _ _ h => h) ?_ hHeld ?_
    rotate_left 1
    (intro o ho W hSw; simp only [List.getElem?_toArray, List.getElem?_cons_succ, List.getElem?_cons_zero, Option.some.injEq] at ho; subst ho; (try dsimp only at hSw); go_simp; try with_reducible rfl)
    (try simp only [Act.put, List.setIfInBounds_toArray, List.set_cons_zero, List.set_cons_succ])
    refine wpAnyH_takeD 11 55 (v := ?_) (by kernel_rfl) (by kernel_rfl) (by kernel_rfl) (by kernel_rfl) (by rfl) (fun _ _ _ h => h) ?_ hHeld ?_
    rotate_left 1
    (intro o ho W hSw; simp only [List.getElem?_toArray, List.getElem?_cons_succ, List.getElem?_cons_zero, Option.some.injEq] at ho; subst ho; (try dsimp only at hSw); go_simp; try with_reducible rfl)
    (try simp only [Act.put, List.setIfInBounds_toArray, List.set_cons_zero, List.set_cons_succ])
    refine wpAnyH_takeD 12 56 (v := ?_) (by kernel_rfl) (by kernel_rfl) (by kernel_rfl) (by kernel_rfl) (by rfl) (fun _ _ _ h => h) ?_ hHeld ?_
    rotate_left 1
    (intro o ho W hSw; simp only [List.getElem?_toArray, List.getElem?_cons_succ, List.getElem?_cons_zero, Option.some.injEq] at ho; subst ho; (try dsimp only at hSw); go_simp; try with_reducible rfl)
    (try simp only [Act.put, List.setIfInBounds_toArray, List.set_cons_zero, List.set_cons_succ])
    refine wpAnyH_onlyD 13 (by kernel_rfl) (fun o ho K hK => ?_) (by kernel_rfl)
    simp only [List.getElem?_toArray, List.getElem?_cons_succ, List.getElem?_cons_zero, Option.some.injEq] at ho
    subst ho
    go_simp
    refine (HX.out.nilBytes _).mono ?_
    rintro e w11 ⟨⟨a', c', rfl⟩, hb⟩
    have Q11 := Lib.hid (Q10.out.step hb)
    have HY3 := Lib.hid (HY2.out.below hb)
    have HZ3 := Lib.hid (HZ2.out.below hb)
    go_wp2_with fail
    refine hK.out _ _ (⟨conv_ob (P := Try.prog) HY3.out NI.out 25 5 9 rfl rfl rfl, conv_ob (P := Try.prog) HZ3.out NI.out 25 5 9 rfl rfl rfl⟩) ?_
    clear hK K hHeld
    intro hHeld
    clear hb Q10 HY2 HZ2
    refine wpAnyH_takeD 14 58 (v := ?_) (by kernel_rfl) (by kernel_rfl) (by kernel_rfl) (by kernel_rfl) (by rfl) (fun _ _ _ h => h) ?_ hHeld ?_
    rotate_left 1
    (intro o ho W hSw; simp only [List.getElem?_toArray, List.getElem?_cons_succ, List.getElem?_cons_zero, Option.some.injEq] at ho; subst ho; (try dsimp only at hSw); go_simp; try with_reducible rfl)
    (try simp only [Act.put, List.setIfInBounds_toArray, List.set_cons_zero, List.set_cons_succ])
    refine wpAnyH_takeD 15 59 (v := ?_) (by kernel_rfl) (by kernel_rfl) (by kernel_rfl) (by kernel_rfl) (by rfl) (fun _ _ _ h => h) ?_ hHeld ?_
    rotate_left 1
    (intro o ho W hSw; simp only [List.getElem?_toArray, List.getElem?_cons_succ, List.getElem?_cons_zero, Option.some.injEq] at ho; subst ho; (try dsimp only at hSw); go_simp; try with_reducible rfl)
    (try simp only [Act.put, List.setIfInBounds_toArray, List.set_cons_zero, List.set_cons_succ])
    refine wpAnyH_takeD 16 60 (v := ?_) (by kernel_rfl) (by kernel_rfl) (by kernel_rfl) (by kernel_rfl) (by rfl) (fun _ _ _ h => h) ?_ hHeld ?_
    rotate_left 1
    (intro o ho W hSw; simp only [List.getElem?_toArray, List.getElem?_cons_succ, List.getElem?_cons_zero, Option.some.injEq] at ho; subst ho; (try dsimp only at hSw); go_simp; try with_reducible rfl)
    (try simp only [Act.put, List.setIfInBounds_toArray, List.set_cons_zero, List.set_cons_succ])
    refine wpAnyH_takeD 17 61 (v := ?_) (by kernel_rfl) (by kernel_rfl) (by kernel_rfl) (by kernel_rfl) (by rfl) (fun _ _ _ h => h) ?_ hHeld ?_
    rotate_left 1
    (intro o ho W hSw; simp only [List.getElem?_toArray, List.getElem?_cons_succ, List.getElem?_cons_zero, Option.some.injEq] at ho; subst ho; (try dsimp only at hSw); go_simp; try with_reducible rfl)
    (try simp only [Act.put, List.setIfInBounds_toArray, List.set_cons_zero, List.set_cons_succ])
    refine wpAnyH_takeD 18 62 (v := ?_) (by kernel_rfl) (by kernel_rfl) (by kernel_rfl) (by kernel_rfl) (by rfl) (fun _ _ _ h => h) ?_ hHeld ?_
    rotate_left 1
    (intro o ho W hSw; simp only [List.getElem?_toArray, List.getElem?_cons_succ, List.getElem?_cons_zero, Option.some.injEq] at ho; subst ho; (try dsimp only at hSw); go_simp; try with_reducible rfl)
    (try simp only [Act.put, List.setIfInBounds_toArray, List.set_cons_zero, List.set_cons_succ])
    refine wpAnyH_onlyD 19 (by kernel_rfl) (fun o ho K hK => ?_) (by kernel_rfl)
    simp only [List.getElem?_toArray, List.getElem?_cons_succ, List.getElem?_cons_zero, Option.some.injEq] at ho
    subst ho
    go_simp
    refine (HZ.out.nilNum _).mono ?_
    rintro e w12 ⟨rfl, hb⟩
    have Q12 := Lib.hid (Q11.out.step hb)
    go_wp2_with fail
    refine hK.out _ _ (⟨conv_ob (P := Try.prog) (HY3.out.below hb) NI.out 25 5 9 rfl rfl rfl, conv_ob (P := Try.prog) (HZ3.out.below hb) NI.out 25 5 9 rfl rfl rfl⟩) ?_
    clear hK K hHeld
    intro hHeld
    clear hb Q11 HY3 HZ3
    refine wpAnyH_takeD 20 64 (v := ?_) (by kernel_rfl) (by kernel_rfl) (by kernel_rfl) (by kernel_rfl) (by rfl) (fun _ _ _ h => h) ?_ hHeld ?_
    rotate_left 1
    (intro o ho W hSw; simp only [List.getElem?_toArray, List.getElem?_cons_succ, List.getElem?_cons_zero, Option.some.injEq] at ho; subst ho; (try dsimp only at hSw); go_simp; try with_reducible rfl)
    (try simp only [Act.put, List.setIfInBounds_toArray, List.set_cons_zero, List.set_cons_succ])
    refine wpAnyH_takeD 21 65 (v := ?_) (by kernel_rfl) (by kernel_rfl) (by kernel_rfl) (by kernel_rfl) (by rfl) (fun _ _ _ h => h) ?_ hHeld ?_
    rotate_left 1
    (intro o ho W hSw; simp only [List.getElem?_toArray, List.getElem?_cons_succ, List.getElem?_cons_zero, Option.some.injEq] at ho; subst ho; (try dsimp only at hSw); go_simp; try with_reducible rfl)
    (try simp only [Act.put, List.setIfInBounds_toArray, List.set_cons_zero, List.set_cons_succ])
    refine wpAnyH_takeD 22 66 (v := ?_) (by kernel_rfl) (by kernel_rfl) (by kernel_rfl) (by kernel_rfl) (by rfl) (fun _ _ _ h => h) ?_ hHeld ?_
    rotate_left 1
    (intro o ho W hSw; simp only [List.getElem?_toArray, List.getElem?_cons_succ, List.getElem?_cons_zero, Option.some.injEq] at ho; subst ho; (try dsimp only at hSw); go_simp; try with_reducible rfl)
    (try simp only [Act.put, List.setIfInBounds_toArray, List.set_cons_zero, List.set_cons_succ])
    refine wpAnyH_takeD 23 67 (v := ?_) (by kernel_rfl) (by kernel_rfl) (by kernel_rfl) (by kernel_rfl) (by rfl) (fun _ _ _ h => h) ?_ hHeld ?_
    rotate_left 1
    (intro o ho W hSw; simp only [List.getElem?_toArray, List.getElem?_cons_succ, List.getElem?_cons_zero, Option.some.injEq] at ho; subst ho; (try dsimp only at hSw); go_simp; try with_reducible rfl)
    (try simp only [Act.put, List.setIfInBounds_toArray, List.set_cons_zero, List.set_cons_succ])
    refine wpAnyH_takeD 24 68 (v := ?_) (by kernel_rfl) (by kernel_rfl) (by kernel_rfl) (by kernel_rfl) (by rfl) (fun _ _ _ h => h) ?_ hHeld ?_
    rotate_left 1
    (intro o ho W hSw; simp only [List.getElem?_toArray, List.getElem?_cons_succ, List.getElem?_cons_zero, Option.some.injEq] at ho; subst ho; (try dsimp only at hSw); go_simp; try with_reducible rfl)
    (try simp only [Act.put, List.setIfInBounds_toArray, List.set_cons_zero, List.set_cons_succ])
    refine wpAnyH_takeD 25 69 (v := ?_) (by kernel_rfl) (by kernel_rfl) (by kernel_rfl) (by kernel_rfl) (by rfl) (fun _ _ _ h => h) ?_ hHeld ?_
    rotate_left 1
    (intro o ho W hSw; simp only [List.getElem?_toArray, List.getElem?_cons_succ, List.getElem?_cons_zero, Option.some.injEq] at ho; subst ho; (try dsimp only at hSw); go_simp; try with_reducible rfl)
    (try simp only [Act.put, List.setIfInBounds_toArray, List.set_cons_zero, List.set_cons_succ])
    refine wpAnyH_takeD 26 70 (v := ?_) (by kernel_rfl) (by kernel_rfl) (by kernel_rfl) (by kernel_rfl) (by rfl) (fun _ _ _ h => h) ?_ hHeld ?_
    rotate_left 1
    (intro o ho W hSw; simp only [List.getElem?_toArray, List.getElem?_cons_succ, List.getElem?_cons_zero, Option.some.injEq] at ho; subst ho; (try dsimp only at hSw); go_simp; try with_reducible rfl)
    (try simp only [Act.put, List.setIfInBounds_toArray, List.set_cons_zero, List.set_cons_succ])
    refine wpAnyH_takeD 27 71 (v := ?_) (by kernel_rfl) (by kernel_rfl) (by kernel_rfl) (by kernel_rfl) (by rfl) (fun _ _ _ h => h) ?_ hHeld ?_
    rotate_left 1
    (intro o ho W hSw; simp only [List.getElem?_toArray, List.getElem?_cons_succ, List.getElem?_cons_zero, Option.some.injEq] at ho; subst ho; (try dsimp only at hSw); go_simp; try with_reducible rfl)
    (try simp only [Act.put, List.setIfInBounds_toArray, List.set_cons_zero, List.set_cons_succ])
    refine wpAnyH_takeD 28 72 (v := ?_) (by kernel_rfl) (by kernel_rfl) (by kernel_rfl) (by kernel_rfl) (by rfl) (fun _ _ _ h => h) ?_ hHeld ?_
    rotate_left 1
    (intro o ho W hSw; simp only [List.getElem?_toArray, List.getElem?_cons_succ, List.getElem?_cons_zero, Option.some.injEq] at ho; subst ho; (try dsimp only at hSw); go_simp; try with_reducible rfl)
    (try simp only [Act.put, List.setIfInBounds_toArray, List.set_cons_zero, List.set_cons_succ])
    refine wpAnyH_takeD 29 73 (v := ?_) (by kernel_rfl) (by kernel_rfl) (by kernel_rfl) (by kernel_rfl) (by rfl) (fun _ _ _ h => h) ?_ hHeld ?_
    rotate_left 1
    (intro o ho W hSw; simp only [List.getElem?_toArray, List.getElem?_cons_succ, List.getElem?_cons_zero, Option.some.injEq] at ho; subst ho; (try dsimp only at hSw); go_simp; try with_reducible rfl)
    (try simp only [Act.put, List.setIfInBounds_toArray, List.set_cons_zero, List.set_cons_succ])
    refine wpAnyH_done (by kernel_rfl) ?_ _
    clear hHeld
    go_wp2_with fail
    refine (HZ.out.num base top _ ni lb _ Q12.out.ip).mono ?_
    rintro e w13 ⟨rfl, hp, hm⟩
    have CB := conv_bl0 (P := Try.prog) (Q12.out.bb.mid hm Q12.out.ab) c 25 5 9 rfl rfl rfl
    have CU := conv_ob (P := Try.prog) (Q12.out.uo.mid hm Q12.out.ub) Q12.out.bb.u 25 5 9 rfl rfl rfl
    have B13 := Lib.hid (Mid.below Q12.out.ps.b hm Q12.out.wb)
    clear hp hm Q12
    go_wp2_with fail
    refine (HX.out.awake _).mono ?_
    rintro e w14 ⟨rfl, hb⟩
    have B14 := Lib.hid (B13.out.trans (hb.mono B13.out.size))
    clear hb B13 CB CU
    go_wp2
    go_ret
    exact ⟨rfl, B14.out⟩
end Go.Proofs.Ytcljaffdochdiaa

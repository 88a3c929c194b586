/- The program's fence: a list of numbers sorted. -/
import Derived.Test.YtllkhgcokbpggaaU2
import Derived.Sort.Grow
import Derived.Test.YtllkhgcokbpggaaU4
namespace Go.Proofs.Ytllkhgcokbpggaa
open Go.RowKit Go.Sort
set_option linter.unusedVariables false
set_option linter.unusedSimpArgs false

theorem arr_bang (M : List Int) (j : Nat) (h : j < M.length) : M.toArray[j]! = M.getD j 0 := by
  rw [getElem!_pos M.toArray j (by simpa using h), List.getD_eq_getElem?_getD, List.getElem?_eq_getElem h]
  simp
theorem inVs_at {M : List Int} {j : Nat} (h : j < M.length) : (inVs M)[j]? = some (.int .i64 (M.getD j 0)) := by
  unfold inVs
  rw [List.getElem?_map, List.getD_eq_getElem?_getD, List.getElem?_eq_getElem h]
  rfl
theorem fSort_any {base : Nat} {W : World} {v : Value} {M : List Int} (o : OB base W v (inVs M)) (hM : M.length ≤ 100000) :
    Calls Try.prog 49 #[v] W fun e w' => e = .returned (.tuple #[]) ∧ OB base w' v (inVs (M.mergeSort fun x y => decide (x ≤ y))) ∧ W.grownBy w' v.ownBlock := by
  rcases o with ⟨rfl, e⟩ | ⟨g, cap, rfl, hb, hg, hl, hm, hc, hf, hx⟩
  · have : M = [] := List.map_eq_nil_iff.1 e
    subst this
    exact (Try.slices_Sort_int_none none 0 W).mono fun e w' ⟨h, k⟩ => ⟨h, by rw [k, show ([] : List Int).mergeSort (fun x y => decide (x ≤ y)) = [] by simp]; exact OB.nil _ _, by rw [k]; exact World.grownBy.refl W _⟩
  · rw [inVs_len] at hl ⊢
    have H0 : Holds (Value.int .i64) W g 0 M.toArray := fun j hj => by
      have hj : j < M.length := by simpa using hj
      rw [Nat.zero_add, arr_bang M j hj]
      exact ⟨hx j _ (inVs_at hj), hf j⟩
    have hs : (M.mergeSort fun x y => decide (x ≤ y)).length = M.length := List.length_mergeSort _
    refine (Try.slices_Sort_int g 0 cap M W H0 hg (by omega)).mono fun e w' ⟨h, n, os, k⟩ => ⟨h, ?_, ?_⟩
    · subst k
      have H1 : Holds (Value.int .i64) (Sort.ahead W n) g 0 M.toArray := holds_ahead _ _ _ _ _ _ H0
      have sz : (putRow (Value.int .i64) (Sort.ahead W n) g 0 (M.mergeSort fun x y => decide (x ≤ y)).toArray).heap.size = W.heap.size := by simp [putRow, mapBlock, Sort.ahead]
      have lt : g < (putRow (Value.int .i64) (Sort.ahead W n) g 0 (M.mergeSort fun x y => decide (x ≤ y)).toArray).heap.size := by rw [sz]; exact hg
      have cin : ∀ j, j < M.length → (Sort.grow (putRow (Value.int .i64) (Sort.ahead W n) g 0 (M.mergeSort fun x y => decide (x ≤ y)).toArray) os).cell? ⟨g, j, none⟩ = some (.int .i64 ((M.mergeSort fun x y => decide (x ≤ y)).getD j 0)) := fun j hj => by
        rw [cell?_grow _ _ _ lt]
        have := cell?_putRow (Value.int .i64) (Sort.ahead W n) g 0 M.toArray (M.mergeSort fun x y => decide (x ≤ y)).toArray H1 (by simp) j (by simp; exact hj)
        rw [Nat.zero_add, arr_bang _ j (by rw [hs]; exact hj)] at this
        exact this
      refine .inr ⟨g, cap, by rw [inVs_len, hs], hb, ?_, by rw [inVs_len, hs]; exact hl, hm, fun j hj => ?_, fun j => ?_, fun j u hu => ?_⟩
      · show g < (Sort.grow _ os).heap.size
        unfold Sort.grow
        rw [Array.size_append]
        omega
      · rcases Nat.lt_or_ge j M.length with l | l
        · rw [cin j l]; rfl
        · rw [cell?_grow _ _ _ lt, cell?_putRow_other _ _ _ _ _ _ (Or.inr (Or.inr (by simp; exact l)))]
          exact hc j hj
      · rw [frozen?_grow _ _ _ lt]
        unfold putRow
        rw [frozen?_mapBlock]
        exact hf j
      · have hj : j < M.length := by
          rcases Nat.lt_or_ge j (inVs (M.mergeSort fun x y => decide (x ≤ y))).length with l | l
          · rw [inVs_len, hs] at l; exact l
          · rw [List.getElem?_eq_none l] at hu; cases hu
        rw [cin j hj, ← hu, inVs_at (by rw [hs]; exact hj)]
    · subst k
      refine ⟨rfl, rfl, rfl, ?_, fun i hi hne => ?_⟩
      · show W.heap.size ≤ (Sort.grow _ os).heap.size
        unfold Sort.grow putRow mapBlock Sort.ahead
        rw [Array.size_append]
        simp
      · have ne : i ≠ g := fun e => hne (by rw [e]; rfl)
        rw [heap_grow_old _ _ (by simp [putRow, mapBlock, Sort.ahead]; exact hi)]
        unfold putRow mapBlock Sort.ahead
        dsimp only
        rw [Array.getElem?_modify, if_neg (fun e => ne e.symm)]
end Go.Proofs.Ytllkhgcokbpggaa
namespace Go.Proofs.Ytllkhgcokbpggaa
open Go.RowKit
set_option linter.unusedVariables false
set_option linter.unusedSimpArgs false
attribute [local go_sem] Oper.semAt_some

/-- what meeting has of its own -/
structure MtS (w W : World) (f : Nat) (b : Bx) (v : Value) (M : List Int) : Prop where
  p : BW W w.heap.size [.pointer (some ⟨f, 0, none⟩)]
  q : BW W (w.heap.size + 1) [.int .i64 b.lx, .int .i64 b.ly, .int .i64 b.hx, .int .i64 b.hy]
  m : BW W (w.heap.size + 1 + 1) [v]
  o : OB (w.heap.size + 3) W v (inVs M)
  z : M = [] → v = .slice none 0 0
  l : Below w.heap.size w W
theorem MtS.step {w W W' : World} {f : Nat} {b : Bx} {v : Value} {M : List Int} (S : MtS w W f b v M) (h : Below W.heap.size W W') : MtS w W' f b v M :=
  ⟨S.p.below h S.p.lt, S.q.below h S.q.lt, S.m.below h S.m.lt, S.o.below h, S.z, S.l.trans (h.mono S.l.size)⟩
theorem ob_cells {base : Nat} {W : World} {v : Value} {xs : List Value} (h : OB base W v xs) (hn : xs ≠ []) {g : Nat} (e : v.ownBlock = some g) : ∃ o, W.heap[g]? = some o ∧ o.isCells = true := by
  rcases h with ⟨_, h0⟩ | ⟨g', cap, rfl, _, _, hl, _, hc, _, _⟩
  · exact absurd h0 hn
  · cases e
    obtain ⟨u, hu⟩ := Option.isSome_iff_exists.1 (hc 0 (Nat.lt_of_lt_of_le (List.length_pos_iff.2 hn) hl))
    exact cell_lt hu
theorem putL_size (W : World) (L : Nat) (o : Obj) : (W.putObj L o).heap.size = W.heap.size := by simp [World.putObj]
theorem BW.putL {W : World} {n L : Nat} {u : Value} {l : List Value} (B : BW W n (u :: l)) {o o' : Obj} (h : W.heap[L]? = some o) (hc : o.isCells = false) : BW (W.putObj L o') n (u :: l) := by
  obtain ⟨ob, e, ec⟩ := cell_lt (B.c 0 _ rfl)
  have ne : n ≠ L := fun e2 => by
    subst e2
    rw [h] at e; cases e
    rw [hc] at ec; cases ec
  have k := World.putObj_heap_other (w := W) (o := o') ne
  exact ⟨fun i v hv => by rw [← B.c i v hv]; unfold World.cell?; dsimp only; rw [k], fun j => by rw [← B.f j]; unfold World.frozen?; dsimp only; rw [k], by rw [putL_size]; exact B.lt⟩
theorem MtS.putL {w W : World} {f L : Nat} {b : Bx} {v : Value} {M : List Int} (S : MtS w W f b v M) {o o' : Obj} (h : W.heap[L]? = some o) (hc : o.isCells = false) (hL : w.heap.size ≤ L) : MtS w (W.putObj L o') f b v M := by
  have g := grownBy_putObj' W L o'
  refine ⟨S.p.putL h hc, S.q.putL h hc, S.m.putL h hc, ?_, S.z, ?_⟩
  · by_cases hM : M = []
    · have := S.z hM
      subst this hM
      exact OB.nil _ _
    · refine S.o.grown g (fun e2 => ?_)
      obtain ⟨ob, e, ec⟩ := ob_cells S.o (inVs_nil hM) e2
      rw [h] at e; cases e
      rw [hc] at ec; cases ec
  · exact S.l.trans (((Below.refl L W).grown g (by have := (Array.getElem?_eq_some_iff.1 h).1; omega) (fun k e => by cases e; omega)).mono (by omega))
theorem cell_kW {b : Bx} {Ls : List Int} (hb : (-281749854617600 ≤ b.lx ∧ b.lx ≤ 281749854617600) ∧ (-281749854617600 ≤ b.ly ∧ b.ly ≤ 281749854617600) ∧ (-281749854617600 ≤ b.hx ∧ b.hx ≤ 281749854617600) ∧ -281749854617600 ≤ b.hy ∧ b.hy ≤ 281749854617600) (hL : ∀ l ∈ Ls, ∃ n : Nat, l = n ∧ n ≤ 60) {c : Int × Int × Int} (h : c ∈ cellL b Ls) : kW c := by
  obtain ⟨l, hl, h⟩ := List.mem_flatMap.1 h
  obtain ⟨n, rfl, hn⟩ := hL l hl
  obtain ⟨x, hx, h⟩ := List.mem_flatMap.1 h
  obtain ⟨r, hr, rfl⟩ := List.mem_map.1 h
  have hx := mem_upI.1 hx
  have hr := mem_upI.1 hr
  unfold loN wdN at hx hr
  rw [Int.toNat_natCast] at hx hr
  have a := div_in n hb.1 (by omega)
  have b1 := div_in n hb.2.1 (by omega)
  have c := div_in n hb.2.2.1 (by omega)
  have d := div_in n hb.2.2.2 (by omega)
  exact ⟨WalkArith.wf_i64 (by omega), WalkArith.wf_i64 (by dsimp only; omega), WalkArith.wf_i64 (by dsimp only; omega)⟩
/-- an element looked up, in every world in which the map is as it was -/
theorem CeB.look2 {base : Nat} {W : World} {mb : Nat} {M : (Int × Int × Int) → List Int} {L : List MapEntry} {ck : Nat} (C : CeB base W mb M L ck) {c : Int × Int × Int} (hc : kW c) :
    ∃ v, (∀ W' : World, W'.heap[mb]? = W.heap[mb]? → (Instr.lookup 55 (.map (some mb)) (kV c) false).run Try.prog W' = .ok v W') ∧ OB base W v (inVs (M c)) := by
  obtain ⟨kl, hk⟩ := fcKey hc
  have K := fcLaw
  by_cases hx : ∃ x ∈ L, x.key = kV c
  · obtain ⟨x, hx, e⟩ := hx
    obtain ⟨d, a, _, _, o⟩ := C.e x hx
    have ed : d = c := kV_inj (a.symm.trans e)
    subst ed
    have nk := ((MapKept.stamped_iff _ _).1 C.st).2.2
    refine ⟨x.val, fun W' hW => ?_, o⟩
    have hb := hW.trans C.hb
    rcases K.find W' hk L C.keys with ⟨h1, h2⟩ | ⟨j, e0, h1, h2, h3⟩
    · exact absurd e (h2 x hx)
    · have : e0 = x := by
        obtain ⟨i, hi⟩ := List.mem_iff_getElem?.1 hx
        by_cases ij : i = j
        · subst ij; rw [h2] at hi; exact Option.some.inj hi
        · exact absurd (by rw [e, h3]) (pw_at (fun _ _ h => h.symm) nk i j x e0 ij hi h2)
      rw [this] at h1
      simp [Instr.lookup, run_underlying Try.underlying55, MapKept.run_getObj_map hb, K.check W' _ hk, h1, Result.andThen]
  · refine ⟨.slice none 0 0, fun W' hW => ?_, ?_⟩
    · have hb := hW.trans C.hb
      rcases K.find W' hk L C.keys with ⟨h1, h2⟩ | ⟨j, e0, h1, h2, h3⟩
      · simp [Instr.lookup, run_underlying Try.underlying55, MapKept.run_getObj_map hb, K.check W' _ hk, h1, fcZero, Result.andThen]
      · exact absurd ⟨e0, List.mem_of_getElem? h2, h3⟩ hx
    · have e : M c = [] := by
        apply Classical.byContradiction; intro n
        obtain ⟨x, h, e⟩ := C.f c hc n
        exact hx ⟨x, h, e⟩
      rw [e]
      exact OB.nil _ _
theorem flt_val {l : List Int} {Q : Int → Bool} {j : Nat} {x : Int} {o : Bool} (h : j < l.length) (hx : l.getD j 0 = x) (ho : Q x = o) : (l.take (j + 1)).filter Q = (l.take j).filter Q ++ (if o = true then [x] else []) := by
  subst hx ho
  exact flt_succ h
/-- the loop's variable lies in block m -/
def MtA (T : Value → Value → Act) (cs : List (Int × Int × Int)) (k : Nat) (_ : Unit) (a : Act) (W : World) : Prop :=
  ∃ m, a = T (kV (cs.getD k (0, 0, 0))) (.pointer (some ⟨m, 0, none⟩)) ∧ BW W m [.int .i64 (cs.getD k (0, 0, 0)).1, .int .i64 (cs.getD k (0, 0, 0)).2.1, .int .i64 (cs.getD k (0, 0, 0)).2.2]
set_option maxRecDepth 100000 in
set_option maxHeartbeats 8000000 in
theorem fMeeting_any (b : Bx) (n : Nat) (g : Nat → Fv) (lo top f : Nat) (w : World) (hn : n ≤ 2000) (F : FnP lo top w f n g)
    (hb : (-281749854617600 ≤ b.lx ∧ b.lx ≤ 281749854617600) ∧ (-281749854617600 ≤ b.ly ∧ b.ly ≤ 281749854617600) ∧ (-281749854617600 ≤ b.hx ∧ b.hx ≤ 281749854617600) ∧ -281749854617600 ≤ b.hy ∧ b.hy ≤ 281749854617600) :
    Calls Try.prog 28 #[.pointer (some ⟨f, 0, none⟩), .agg #[.int .i64 b.lx, .int .i64 b.ly, .int .i64 b.hx, .int .i64 b.hy]] w fun e w' => (∃ v, e = .returned v ∧ OB w.heap.size w' v (inVs (selI (fun i => decide (ovP b (boxG (g i)))) n))) ∧ Below w.heap.size w w' := by
  obtain ⟨base, mb, fa, fc, lv, L, Ls, ck, F1, H, D, h1, h2, h3, h4, h5⟩ := F.ex
  have ft := F.top
  have MS := Lib.hid (met_sorted (g := g) (n := n) (b := b) H.1 (fun i hi => (H.2.1 _).2 ⟨i, hi, rfl⟩) ⟨⟨hb.2.2.1.1, hb.1.2⟩, hb.2.2.2.1, hb.2.1.2⟩)
  have ND := Lib.hid (cell_nodup b H.1)
  have HL := Lib.hid (show ∀ l ∈ Ls, ∃ k : Nat, l = k ∧ k ≤ 60 from fun l hl => by
    obtain ⟨i, hi, e⟩ := (H.2.1 l).1 hl
    exact ⟨lvG (g i), e.symm, by have := (lv_in (g i)).2; omega⟩)
  have HB := Lib.hid hb
  have FF := Lib.hid (fun (W : World) (h : Below w.heap.size w W) => F1.below h)
  have DD := Lib.hid (fun (W : World) (h : Below w.heap.size w W) => D.step h)
  have FV := Lib.hid F.fv
  have LL := Lib.hid H.2.2
  have fl : f < w.heap.size := F1.c.lt
  clear h1 h2 h3 h4 h5 H D hb F
  refine (callsIn_wide (n := 3)).1 (callsIn_of_wp_marks Try.func28 rfl trivial ?_ rfl)
  simp only [Try.ntmps28, List.size_toArray, List.length_cons, List.length_nil, Nat.reduceAdd, Nat.reduceSub, Array.replicate_succ, Array.replicate_zero, List.push_toArray, List.append_toArray, List.nil_append, List.cons_append]
  refine wpIn_wide.2 ?_
  go_wp2_with fail
  refine calls_gen (S := fun W => MtS w W f b (.slice none 0 0) [] ∧ W.heap.size = w.heap.size + 3) ⟨⟨((BW.new w _ [.pointer (some ⟨f, 0, none⟩)] _ rfl).alloc _).alloc _, (BW.new _ _ [.int .i64 b.lx, .int .i64 b.ly, .int .i64 b.hx, .int .i64 b.hy] _ (by simp)).alloc _, BW.new _ _ [.slice none 0 0] _ (by simp), OB.nil _ _, fun _ => rfl, by repeat (first | exact Below.refl _ _ | assumption | refine Below.setCell ?_ (by first | omega | (simp; done) | (simp; omega)) _ | refine Below.alloc ?_ (by first | omega | (simp; done) | (simp; omega)) _ | refine below_drewN ?_ _ | refine Below.drew ?_ | refine Below.trans ?_ (Below.mono (by assumption) (by first | omega | (simp; done) | (simp; omega))))⟩, by simp⟩ (fun Wp hS => ?_)
  have Sp := Lib.hid hS.1
  have zp := hS.2
  clear hS
  refine (fNeigh_any f b _).mono ?_
  rintro e w2 ⟨rfl, rfl⟩
  rw [zp]
  have bp := ((Below.refl Wp.heap.size Wp).alloc (Nat.le_refl _) (.cells #[.pointer (some ⟨f, 0, none⟩)] 36)).alloc (by simp) (.cells #[.int .i64 b.lx, .int .i64 b.ly, .int .i64 b.hx, .int .i64 b.hy] 67)
  have S1 := Sp.out.step bp
  have of : ∀ k, k ≠ w.heap.size + 1 + 1 → OfM (w.heap.size + 1 + 1) ((Wp.alloc (.cells #[.pointer (some ⟨f, 0, none⟩)] 36)).alloc (.cells #[.int .i64 b.lx, .int .i64 b.ly, .int .i64 b.hx, .int .i64 b.hy] 67)) k := fun k hk => ⟨_, S1.m.c 0 _ rfl, (fun q e => by cases e), hk⟩
  have NG := Lib.hid (show NgW (w.heap.size + 1 + 1) (w.heap.size + 3) f base (.slice fa n fc) (.map (some mb)) lv b Ls _ from ⟨(BW.new Wp _ [.pointer (some ⟨f, 0, none⟩)] _ zp.symm).alloc _, BW.new _ _ [.int .i64 b.lx, .int .i64 b.ly, .int .i64 b.hx, .int .i64 b.hy] _ (by simp; omega), (FF.out _ S1.l).c, (FF.out _ S1.l).l, of _ (by omega), of _ (by omega), of _ (by omega), fun q e => of _ (by have := (ob_lt F1.l e).2; omega)⟩)
  have S2 := Lib.hid S1
  clear of S1 bp Sp
  go_wp2_with fail
  refine wp_gen (S := fun W => MtS w W f b (.slice none 0 0) [] ∧ NgW (w.heap.size + 1 + 1) (w.heap.size + 3) f base (.slice fa n fc) (.map (some mb)) lv b Ls W ∧ w.heap.size + 5 ≤ W.heap.size) ⟨S2.out, NG.out, by have := NG.out.b1.lt; omega⟩ (fun W1 hS => ?_)
  have S3 := Lib.hid hS.1
  have N3 := Lib.hid hS.2.1
  have Z3 := hS.2.2
  clear hS S2 NG
  have SQ := Lib.hid (fNeigh_seq (w.heap.size + 1 + 1) (w.heap.size + 3) f base (.slice fa n fc) (.map (some mb)) lv b Ls W1 HB.out HL.out (by have := LL.out; omega) N3.out)
  refine wp_rangeH (α := Unit) (encs := encC (cellL b Ls)) (N := (cellL b Ls).length) (Kp := KpM (w.heap.size + 1 + 1)) rfl (fun _ _ => rfl) SQ.out (Below.refl _ _) (fun _ _ => rfl) (fun h k => KpM.trans h k) (fun A o o' h hc => KpM.put h hc)
    (fun k W => ∃ v, MtS w W f b v (metL g n b ((cellL b Ls).take k)))
    (fun k A B h hb => by
      obtain ⟨v, S⟩ := h
      exact ⟨v, S.step hb⟩)
    (fun k A o o' h hL hc => by
      obtain ⟨v, S⟩ := h
      exact ⟨v, S.putL hL hc (by omega)⟩)
    ⟨_, S3.out⟩
    (MtA (fun c m => ⟨#[.pointer (some ⟨f, 0, none⟩), .agg #[.int .i64 b.lx, .int .i64 b.ly, .int .i64 b.hx, .int .i64 b.hy], .pointer (some ⟨w.heap.size, 0, none⟩), .pointer (some ⟨w.heap.size + 1, 0, none⟩), .slice none 0 0, .pointer (some ⟨w.heap.size + 1 + 1, 0, none⟩), m, undef, undef, .pointer (some ⟨f, 0, none⟩), .bool false, .pointer (some ⟨f, 0, none⟩), .agg #[.int .i64 b.lx, .int .i64 b.ly, .int .i64 b.hx, .int .i64 b.hy], .func (.func 70) #[] #[.pointer (some ⟨w.heap.size + 3, 0, none⟩), .pointer (some ⟨w.heap.size + 3 + 1, 0, none⟩)], c, undef, undef, undef, undef, undef, undef, undef, undef, undef, undef, undef, undef, undef, undef, undef, undef, undef, undef, undef, undef, undef, undef, undef, undef, undef, undef, undef, undef, undef, undef, undef, undef, undef, undef, undef, undef, undef, undef], []⟩) (cellL b Ls))
    (fun k x a' A o o' h hL hc => by
      obtain ⟨m, e, B⟩ := h
      exact ⟨m, e, B.putL hL hc⟩)
    (fun h => KpM.below h) ?assign ?body ?done
  case assign =>
    intro l k x W K hk hI hK
    unfold encC
    unfold MtA at hK
    generalize (cellL b Ls).getD k (0, 0, 0) = c at *
    obtain ⟨kl, kc, kr⟩ := c
    unfold kV at *
    dsimp only at *
    gi_wp2
    exact hK _ _ ((Below.refl W.heap.size W).alloc (Nat.le_refl _) _) ⟨W.heap.size, rfl, BW.new _ _ [_, _, _] _ rfl⟩
  case body =>
    rintro l k x a' W hk ⟨v, hS⟩ ⟨m, rfl, hm⟩
    have hck : (cellL b Ls)[k]? = some ((cellL b Ls).getD k (0, 0, 0)) := by rw [List.getD_eq_getElem?_getD, List.getElem?_eq_getElem hk]; first | done | rfl
    have KW := Lib.hid (cell_kW HB.out HL.out (List.mem_of_getElem? hck))
    have MA := Lib.hid (show metL g n b ((cellL b Ls).take (k + 1)) = metL g n b ((cellL b Ls).take k) ++ (selI (fun i => decide (hmG (g i) = (cellL b Ls).getD k (0, 0, 0))) n).filter fun i => decide (ovP b (boxG (g i.toNat))) from by
      rw [List.take_add_one, hck]
      exact met_app g n b ((cellL b Ls).take k) ((cellL b Ls).getD k (0, 0, 0)))
    have ML := Lib.hid (met_len (g := g) (n := n) (b := b) (cs := (cellL b Ls).take (k + 1)) (List.Nodup.sublist (List.take_sublist _ _) ND.out))
    obtain ⟨u, hu, ho⟩ := F1.e.look2 KW.out
    have HU := Lib.hid hu
    have HO := Lib.hid ho
    obtain ⟨ci, hci⟩ : ∃ ci, celI g n ((cellL b Ls).getD k (0, 0, 0)) = ci := ⟨_, rfl⟩
    have CI := Lib.hid (show selI (fun i => decide (hmG (g i) = (cellL b Ls).getD k (0, 0, 0))) n = ci from hci)
    rw [hci] at HO
    rw [CI.out] at MA
    have CM := Lib.hid (show ∀ j, j < ci.length → ∃ i0 : Nat, ci.getD j 0 = i0 ∧ i0 < n from fun j hj => by
      have : ci.getD j 0 ∈ ci := by rw [List.getD_eq_getElem?_getD, List.getElem?_eq_getElem hj]; exact List.getElem_mem hj
      rw [← CI.out] at this
      obtain ⟨i0, e, l, _⟩ := selI_mem this
      exact ⟨i0, by rw [CI.out] at e; exact e, l⟩)
    have CL := Lib.hid (show ci.length ≤ n from by rw [← CI.out]; exact selI_len _ _)
    clear hck hu ho hci CI S3 N3
    generalize (cellL b Ls).getD k (0, 0, 0) = c at *
    obtain ⟨kl, kc, kr⟩ := c
    unfold kV at *
    dsimp only at *
    obtain ⟨ua, uc, rfl⟩ := HO.out.form
    rw [inVs_len] at *
    have S4 := Lib.hid hS
    have M4 := Lib.hid hm
    clear hS hm
    have HM := Lib.hid (show Try.prog.follows .mixedOrders = true by kernel_rfl)
    generalize metL g n b ((cellL b Ls).take k) = P0 at *
    have FM := FF.out W S4.out.l
    have hmb : W.heap[mb]? = w.heap[mb]? := S4.out.l.block mb F1.e.lt
    gi_wp2_with fail
    refine wpIn_region_heldR (S := fun W' => (W'.cell? ⟨w.heap.size, 0, none⟩ = some (.pointer (some ⟨f, 0, none⟩)) ∧ W'.cell? ⟨f, 1, none⟩ = some (.map (some mb))) ∧ (W'.cell? ⟨m, 0, none⟩ = some (.int .i64 kl) ∧ W'.cell? ⟨m, 1, none⟩ = some (.int .i64 kc) ∧ W'.cell? ⟨m, 2, none⟩ = some (.int .i64 kr)) ∧ (Instr.lookup 55 (.map (some mb)) (.agg #[.int .i64 kl, .int .i64 kc, .int .i64 kr]) false).run Try.prog W' = .ok (.slice ua ci.length uc) W') HM.out (nb_noDefer_of (by kernel_rfl)) (fun a w h => (by exact h))
      ⟨⟨S4.out.p.c 0 _ rfl, FM.c.c 1 _ rfl⟩, ⟨M4.out.c 0 _ rfl, M4.out.c 1 _ rfl, M4.out.c 2 _ rfl⟩, HU.out W.drew hmb⟩ (fun hHeld => ?_)
    have S5 := Lib.hid (S4.out.step (Below.refl W.heap.size W).drew)
    have KO := Lib.hid (KeepsOthers.drew W)
    have KP := Lib.hid (KpM.below (mx := w.heap.size + 1 + 1) (Below.refl W.heap.size W).drew)
    clear S4 FM hmb
    generalize W.drew = W5 at *
    refine tkD 0 15 (v := ?_) ?_ hHeld ?_
    rotate_left 1
    (intro W hSw; (try dsimp only at hSw); go_simp; try with_reducible rfl)
    (try simp only [putA, putB, putC, putD])
    refine tkD 1 16 (v := ?_) ?_ hHeld ?_
    rotate_left 1
    (intro W hSw; (try dsimp only at hSw); go_simp; try with_reducible rfl)
    (try simp only [putA, putB, putC, putD])
    refine tkD 2 17 (v := ?_) ?_ hHeld ?_
    rotate_left 1
    (intro W hSw; (try dsimp only at hSw); go_simp; try with_reducible rfl)
    (try simp only [putA, putB, putC, putD])
    refine tkD 3 18 (v := ?_) ?_ hHeld ?_
    rotate_left 1
    (intro W hSw; (try dsimp only at hSw); go_simp; try with_reducible rfl)
    (try simp only [putA, putB, putC, putD])
    refine tkD 4 19 (v := ?_) ?_ hHeld ?_
    rotate_left 1
    (intro W hSw; (try dsimp only at hSw); go_simp; try with_reducible rfl)
    (try simp only [putA, putB, putC, putD])
    refine tkD 5 20 (v := ?_) ?_ hHeld ?_
    rotate_left 1
    (intro W hSw; (try dsimp only at hSw); go_simp; try with_reducible rfl)
    (try simp only [putA, putB, putC, putD])
    refine tkD 6 21 (v := ?_) ?_ hHeld ?_
    rotate_left 1
    (intro W hSw; (try dsimp only at hSw); go_simp; try with_reducible rfl)
    (try simp only [putA, putB, putC, putD])
    refine tkD 7 22 (v := ?_) ?_ hHeld ?_
    rotate_left 1
    (intro W hSw; (try dsimp only at hSw); go_simp; try with_reducible rfl)
    (try simp only [putA, putB, putC, putD])
    refine wpAnyH_done (by kernel_rfl) ?_ _
    clear hHeld HU M4
    gi_wp2
    gi_loopw [22] (fun i wr => ∃ (j : Nat) (v : Value), j ≤ ci.length ∧ i = .int .i64 j ∧ MtS w wr f b v (P0 ++ (ci.take j).filter fun i => decide (ovP b (boxG (g i.toNat)))) ∧ KeepsOthers W wr ∧ KpM (w.heap.size + 1 + 1) W wr) (fun i _ => ci.length - (intOf i).toNat)
    case atStart => exact ⟨0, v, by omega, rfl, by rw [List.take_zero, List.filter_nil, List.append_nil]; exact S5.out, KO.out, KP.out⟩
    case round =>
      obtain ⟨j, v5, hj, rfl, hS, hKO, hKP⟩ := hrel
      have S6 := Lib.hid hS
      have KO6 := Lib.hid hKO
      have KP6 := Lib.hid hKP
      clear hS hKO hKP S5 KO KP
      by_cases hlt : j < ci.length
      rotate_left
      · have z1 : ¬ (j : Int) < (ci.length : Int) := by omega
        have e : j = ci.length := by omega
        subst e
        gi_wp2
        exact ⟨KO6.out, KP6.out, v5, by rw [MA.out]; rw [List.take_length] at S6; exact S6.out⟩
      obtain ⟨i0, hi0, li0⟩ := CM.out j hlt
      have z0 : (0 : Int) ≤ (j : Int) := by omega
      have z1 : (j : Int) < (ci.length : Int) := by omega
      have y0 : (0 : Int) ≤ (i0 : Int) := by omega
      have y1 : (i0 : Int) < (n : Int) := by omega
      obtain ⟨gr, rfl, hrow⟩ : ∃ gr, ua = some ⟨gr, 0, none⟩ ∧ ∀ W', Below w.heap.size w W' → W'.cell? ⟨gr, j, none⟩ = some (.int .i64 i0) := by
        rcases HO.out with ⟨e, h0⟩ | ⟨q, cap, e, -, hq, -, -, -, -, hx⟩
        · have : ci.length = 0 := by
            have := congrArg List.length h0
            rw [inVs_len] at this
            exact this
          omega
        · injection e with e1 e2 e3
          refine ⟨q, e1, fun W' h => (h.cell (p := ⟨q, j, none⟩) hq).trans (hx j _ ?_)⟩
          unfold inVs
          rw [List.getElem?_map, List.getElem?_eq_getElem hlt, ← hi0, List.getD_eq_getElem?_getD, List.getElem?_eq_getElem hlt]
          rfl
      have e0 := hrow _ S6.out.l
      obtain ⟨bb, bo, rfl, -, -⟩ := (DD.out _ S6.out.l).at' (by omega)
      have CS := Lib.hid (fun (W' : World) (v' : Value) (M' : List Int) (Q : MtS w W' f b v' M') => show ((W'.cell? ⟨w.heap.size, 0, none⟩ = some (.pointer (some ⟨f, 0, none⟩)) ∧ W'.cell? ⟨f, 0, none⟩ = some (.slice (some ⟨bb, bo, none⟩) n fc)) ∧ ((W'.cell? ⟨w.heap.size + 1, 0, none⟩ = some (.int .i64 b.lx) ∧ W'.cell? ⟨w.heap.size + 1, 1, none⟩ = some (.int .i64 b.ly)) ∧ W'.cell? ⟨w.heap.size + 1, 2, none⟩ = some (.int .i64 b.hx) ∧ W'.cell? ⟨w.heap.size + 1, 3, none⟩ = some (.int .i64 b.hy))) ∧ ((W'.cell? ⟨bb, bo + i0 * 5, none⟩ = some (.int .i64 (g i0).ax) ∧ W'.cell? ⟨bb, bo + i0 * 5 + 1, none⟩ = some (.int .i64 (g i0).ay)) ∧ W'.cell? ⟨bb, bo + i0 * 5 + 2, none⟩ = some (.int .i64 (g i0).bx) ∧ W'.cell? ⟨bb, bo + i0 * 5 + 3, none⟩ = some (.int .i64 (g i0).by')) from by
        obtain ⟨b3, o3, e3, -, hc⟩ := (DD.out _ Q.l).at' (by omega)
        cases e3
        exact ⟨⟨⟨Q.p.c 0 _ rfl, (FF.out _ Q.l).c.c 0 _ rfl⟩, ⟨Q.q.c 0 _ rfl, Q.q.c 1 _ rfl⟩, Q.q.c 2 _ rfl, Q.q.c 3 _ rfl⟩, (hc i0 li0).1, (hc i0 li0).2.1⟩)
      have VB := Lib.hid (fun (W' : World) => fBetween_any (g i0).ax (g i0).ay (g i0).bx (g i0).by' W')
      have VO := Lib.hid (fun (W' : World) => show Calls Try.prog 48 #[.agg #[.int .i64 b.lx, .int .i64 b.ly, .int .i64 b.hx, .int .i64 b.hy], .agg #[.int .i64 (min (g i0).ax (g i0).bx), .int .i64 (min (g i0).ay (g i0).by'), .int .i64 (max (g i0).ax (g i0).bx), .int .i64 (max (g i0).ay (g i0).by')]] W' fun e w' => e = .returned (.bool (decide (ovP b (boxG (g i0))))) ∧ Below W'.heap.size W' w' from fOverlap_any b (boxG (g i0)) W')
      obtain ⟨o, hov⟩ : ∃ o, decide (ovP b (boxG (g i0))) = o := ⟨_, rfl⟩
      have FS := Lib.hid (flt_val (Q := fun i => decide (ovP b (boxG (g i.toNat)))) hlt hi0 (show decide (ovP b (boxG (g ((i0 : Int)).toNat))) = o from hov))
      rw [hov] at VO
      clear hov
      gi_wp2_with fail
      refine wpIn_region_heldR (S := fun W' => ((W'.cell? ⟨w.heap.size, 0, none⟩ = some (.pointer (some ⟨f, 0, none⟩)) ∧ W'.cell? ⟨f, 0, none⟩ = some (.slice (some ⟨bb, bo, none⟩) n fc)) ∧ ((W'.cell? ⟨w.heap.size + 1, 0, none⟩ = some (.int .i64 b.lx) ∧ W'.cell? ⟨w.heap.size + 1, 1, none⟩ = some (.int .i64 b.ly)) ∧ W'.cell? ⟨w.heap.size + 1, 2, none⟩ = some (.int .i64 b.hx) ∧ W'.cell? ⟨w.heap.size + 1, 3, none⟩ = some (.int .i64 b.hy))) ∧ ((W'.cell? ⟨bb, bo + i0 * 5, none⟩ = some (.int .i64 (g i0).ax) ∧ W'.cell? ⟨bb, bo + i0 * 5 + 1, none⟩ = some (.int .i64 (g i0).ay)) ∧ W'.cell? ⟨bb, bo + i0 * 5 + 2, none⟩ = some (.int .i64 (g i0).bx) ∧ W'.cell? ⟨bb, bo + i0 * 5 + 3, none⟩ = some (.int .i64 (g i0).by'))) HM.out (nb_noDefer_of (by kernel_rfl)) (fun a w h => (by exact h)) (CS.out _ _ _ (S6.out.step (Below.refl _ _).drew)) (fun hHeld => ?_)
      have S7 := Lib.hid (S6.out.step (Below.refl _ _).drew)
      have KO7 := Lib.hid (KO6.out.trans (KeepsOthers.drew _))
      have KP7 := Lib.hid (KP6.out.trans (KpM.below (Below.refl _ _).drew))
      clear S6 KO6 KP6 e0
      generalize World.drew _ = w7 at *
      refine tkD 0 26 (v := ?_) ?_ hHeld ?_
      rotate_left 1
      (intro W hSw; (try dsimp only at hSw); go_simp; try with_reducible rfl)
      (try simp only [putA, putB, putC, putD])
      refine tkD 1 27 (v := ?_) ?_ hHeld ?_
      rotate_left 1
      (intro W hSw; (try dsimp only at hSw); go_simp; try with_reducible rfl)
      (try simp only [putA, putB, putC, putD])
      refine tkD 2 28 (v := ?_) ?_ hHeld ?_
      rotate_left 1
      (intro W hSw; (try dsimp only at hSw); go_simp; try with_reducible rfl)
      (try simp only [putA, putB, putC, putD])
      refine tkD 3 29 (v := ?_) ?_ hHeld ?_
      rotate_left 1
      (intro W hSw; (try dsimp only at hSw); go_simp; try with_reducible rfl)
      (try simp only [putA, putB, putC, putD])
      refine tkD 4 30 (v := ?_) ?_ hHeld ?_
      rotate_left 1
      (intro W hSw; (try dsimp only at hSw); go_simp; try with_reducible rfl)
      (try simp only [putA, putB, putC, putD])
      refine tkD 5 31 (v := ?_) ?_ hHeld ?_
      rotate_left 1
      (intro W hSw; (try dsimp only at hSw); go_simp; try with_reducible rfl)
      (try simp only [putA, putB, putC, putD])
      refine tkD 6 32 (v := ?_) ?_ hHeld ?_
      rotate_left 1
      (intro W hSw; (try dsimp only at hSw); go_simp; try with_reducible rfl)
      (try simp only [putA, putB, putC, putD])
      refine tkD 7 33 (v := ?_) ?_ hHeld ?_
      rotate_left 1
      (intro W hSw; (try dsimp only at hSw); go_simp; try with_reducible rfl)
      (try simp only [putA, putB, putC, putD])
      refine tkD 8 34 (v := ?_) ?_ hHeld ?_
      rotate_left 1
      (intro W hSw; (try dsimp only at hSw); go_simp; try with_reducible rfl)
      (try simp only [putA, putB, putC, putD])
      refine tkD 9 35 (v := ?_) ?_ hHeld ?_
      rotate_left 1
      (intro W hSw; (try dsimp only at hSw); go_simp; try with_reducible rfl)
      (try simp only [putA, putB, putC, putD])
      refine tkD 10 36 (v := ?_) ?_ hHeld ?_
      rotate_left 1
      (intro W hSw; (try dsimp only at hSw); go_simp; try with_reducible rfl)
      (try simp only [putA, putB, putC, putD])
      refine tkD 11 37 (v := ?_) ?_ hHeld ?_
      rotate_left 1
      (intro W hSw; (try dsimp only at hSw); go_simp; try with_reducible rfl)
      (try simp only [putA, putB, putC, putD])
      refine tkD 12 38 (v := ?_) ?_ hHeld ?_
      rotate_left 1
      (intro W hSw; (try dsimp only at hSw); go_simp; try with_reducible rfl)
      (try simp only [putA, putB, putC, putD])
      refine tkD 13 39 (v := ?_) ?_ hHeld ?_
      rotate_left 1
      (intro W hSw; (try dsimp only at hSw); go_simp; try with_reducible rfl)
      (try simp only [putA, putB, putC, putD])
      refine tkD 14 40 (v := ?_) ?_ hHeld ?_
      rotate_left 1
      (intro W hSw; (try dsimp only at hSw); go_simp; try with_reducible rfl)
      (try simp only [putA, putB, putC, putD])
      refine tkD 15 41 (v := ?_) ?_ hHeld ?_
      rotate_left 1
      (intro W hSw; (try dsimp only at hSw); go_simp; try with_reducible rfl)
      (try simp only [putA, putB, putC, putD])
      refine tkD 16 42 (v := ?_) ?_ hHeld ?_
      rotate_left 1
      (intro W hSw; (try dsimp only at hSw); go_simp; try with_reducible rfl)
      (try simp only [putA, putB, putC, putD])
      refine onlD 17 (fun K hK => ?_)
      go_simp
      refine (VB.out _).mono ?_
      rintro e w8 ⟨rfl, h⟩
      have S8 := Lib.hid (S7.out.step h)
      have KO8 := Lib.hid (KO7.out.trans (ko_below h (Nat.le_refl _)))
      have KP8 := Lib.hid (KP7.out.trans (KpM.below h))
      go_wp2_with fail
      refine hK.out _ _ (CS.out _ _ _ S8.out) ?_
      clear hK K hHeld
      intro hHeld
      clear h S7 KO7 KP7 VB
      refine onlD 18 (fun K hK => ?_)
      go_simp
      refine (VO.out _).mono ?_
      rintro e w9 ⟨rfl, h⟩
      have S9 := Lib.hid (S8.out.step h)
      have KO9 := Lib.hid (KO8.out.trans (ko_below h (Nat.le_refl _)))
      have KP9 := Lib.hid (KP8.out.trans (KpM.below h))
      go_wp2_with fail
      refine hK.out _ _ (CS.out _ _ _ S9.out) ?_
      clear hK K hHeld
      intro hHeld
      clear h S8 KO8 KP8 VO
      refine wpAnyH_done (by kernel_rfl) ?_ _
      clear hHeld
      have cl := CL.out
      cases o
      · have S10 := Lib.hid (show MtS w w9 f b v5 (P0 ++ (ci.take (j + 1)).filter fun i => decide (ovP b (boxG (g i.toNat)))) from by rw [FS.out]; simpa using S9.out)
        clear S9 FS
        gi_wp2
        go_roundw
        case rel => exact ⟨j + 1, v5, by omega, by go_num, S10.out, KO9.out, KP9.out⟩
        case measure => simp [intOf]; omega
      · have c0 := S9.out.m.c 0 _ rfl
        have cf := S9.out.m.f
        have b10 := (Below.refl w9.heap.size w9).alloc (Nat.le_refl _) (.cells #[.int .i64 i0] 3)
        have S10 := Lib.hid (S9.out.step b10)
        have KO10 := Lib.hid (KO9.out.trans (ko_below b10 (Nat.le_refl _)))
        have KP10 := Lib.hid (KP9.out.trans (KpM.below b10))
        have pl : (P0 ++ (ci.take j).filter fun i => decide (ovP b (boxG (g i.toNat)))).length ≤ 1000000 := by
          have q := ML.out
          rw [MA.out, List.length_append] at q
          have r := (List.take_sublist j ci).filter (fun i => decide (ovP b (boxG (g i.toNat)))) |>.length_le
          rw [List.length_append]
          omega
        have l10 : w.heap.size + 3 ≤ (w9.alloc (.cells #[.int .i64 i0] 3)).heap.size := by have := S9.out.m.lt; rw [World.size_alloc]; omega
        clear b10 KO9 KP9
        gi_wp2_with (gi_at_builtin; refine wpListIn_ob rfl (.tmp 45) (.tmp 47) 26 26 rfl 3 _ (.int .i64 0) Try.underlying26 rfl rfl rfl rfl (by decide) S10.out.o rfl _ 1 [.int .i64 i0] rfl (src_new Try.underlying26 w9 [.int .i64 i0] 3 1 rfl (by simp [Value.oneCell'])) (by rw [inVs_len]; omega) l10 ?_)
        intro v6 w11 o1 g1 p1
        rw [← inVs_add] at o1
        have x10 := S10.out.o
        have c11 := S10.out.m.grow g1 (fun e => ob_off x10 (by omega) e.symm)
        have d11 := S10.out.p.grow g1 (fun e => ob_off x10 (by omega) e.symm)
        have q11 := S10.out.q.grow g1 (fun e => ob_off x10 (by omega) e.symm)
        obtain ⟨vn, va, vc, rfl⟩ : ∃ n a c, v6 = .slice a n c := by
          obtain ⟨a, c, h⟩ := o1.form
          exact ⟨_, a, c, h⟩
        have gc := grown_cel w11 (w.heap.size + 1 + 1) 0 (.slice va vn vc)
        have S12 := Lib.hid (show MtS w (w11.setCell ⟨w.heap.size + 1 + 1, 0, none⟩ (.slice va vn vc)) f b (.slice va vn vc) (P0 ++ (ci.take (j + 1)).filter fun i => decide (ovP b (boxG (g i.toNat)))) from by
          refine ⟨d11.far (by omega) 0 _, q11.far (by omega) 0 _, c11.put (i := 0) _ v5 rfl, ?_, fun e => ?_, (S10.out.l.grown g1 S10.out.l.size (fun q e => by have := (ob_lt x10 e).1; omega)).setCell (p := ⟨w.heap.size + 1 + 1, 0, none⟩) (show w.heap.size ≤ w.heap.size + 1 + 1 by omega) _⟩
          · rw [FS.out]
            simp only [↓reduceIte]
            rw [← List.append_assoc]
            exact o1.grown gc (fun e => absurd e (ob_off o1 (by omega)))
          · rw [FS.out] at e
            simp at e)
        have KO12 := Lib.hid ((KO10.out.trans (KeepsOthers.of_grownBy g1 (fun q ob e h => by
          by_cases hM : (P0 ++ (ci.take j).filter fun i => decide (ovP b (boxG (g i.toNat)))) = []
          · have := S10.out.z hM
            rw [this] at e
            cases e
          · obtain ⟨o', h', hc⟩ := ob_cells x10 (inVs_nil hM) e
            rw [h'] at h; cases h
            exact hc))).trans (KeepsOthers.setCell _ ⟨w.heap.size + 1 + 1, 0, none⟩ (.slice va vn vc)))
        have KP12 := Lib.hid (KP10.out.trans (KpM.app (S10.out.m.c 0 _ rfl) g1 (c11.c 0 _ rfl) (by rw [World.size_alloc]; exact p1) (fun q e => (ob_lt o1 e).2)))
        have e0 := c11.c 0 _ rfl
        have ef := c11.f
        clear S9 S10 KO10 KP10 o1 g1 p1 x10 d11 q11 gc pl l10 FS c0 cf
        gi_wp2
        clear e0 ef c11
        go_roundw
        case rel => exact ⟨j + 1, _, by omega, by go_num, S12.out, KO12.out, KP12.out⟩
        case measure => simp [intOf]; omega
  case done =>
    rintro Dn W hD ⟨v, hS⟩ hK
    rw [List.take_length] at hS
    have c0 := hS.m.c 0 _ rfl
    have VS := Lib.hid (fSort_any hS.o (by have := met_len (g := g) (n := n) (b := b) ND.out; omega))
    rw [MS.out] at VS
    have S4 := Lib.hid hS
    have KD := Lib.hid hK
    have NM := Lib.hid (fun (h : metL g n b (cellL b Ls) ≠ []) => inVs_nil h)
    clear hS hK S3 N3 SQ
    go_wp2_with fail
    refine VS.out.mono ?_
    rintro e w5 ⟨rfl, o5, g5⟩
    have c5 := S4.out.m.grow g5 (fun e => ob_off S4.out.o (by omega) e.symm)
    have l5 := S4.out.l.grown g5 S4.out.l.size (fun q e => by have := (ob_lt S4.out.o e).1; omega)
    have vn : v.ownBlock ≠ some Dn := fun e => by
      by_cases hM : metL g n b (cellL b Ls) = []
      · have := S4.out.z hM
        rw [this] at e; cases e
      · obtain ⟨ob, h', hc⟩ := ob_cells S4.out.o (NM.out hM) e
        rw [KD.out] at h'; cases h'
        cases hc
    have k5 : w5.heap[Dn]? = some (.deferred (some [])) := (g5.block Dn (Array.getElem?_eq_some_iff.1 KD.out).1 (fun e => vn e.symm)).trans KD.out
    have O5 := Lib.hid o5
    have L5 := Lib.hid l5
    have K5 := Lib.hid k5
    have e0 := c5.c 0 _ rfl
    clear c0 S4 KD VS o5 g5 l5 k5 NM c5
    go_wp2
    refine ⟨by simp, .inl ⟨_, _, rfl, run_takeDeferred K5.out, ?_⟩⟩
    refine ⟨_, results_tmp rfl _ _ _, ⟨v, rfl, ?_⟩, ?_⟩
    · exact OB.grown (OB.mono O5.out (by omega)) (grownBy_putObj' w5 Dn _) (fun e => absurd e vn)
    · exact L5.out.grown (grownBy_putObj' w5 Dn _) L5.out.size (fun q e => by cases e; omega)
theorem fMeeting_nil (b : Bx) (w : World) : Calls Try.prog 28 #[.pointer none, .agg #[.int .i64 b.lx, .int .i64 b.ly, .int .i64 b.hx, .int .i64 b.hy]] w fun e w' => e = .returned (.slice none 0 0) ∧ Below w.heap.size w w' := by
  go_enter Try.func28, Try.ntmps28
  go_wp2
  go_ret
  exact ⟨rfl, by repeat (first | exact Below.refl _ _ | assumption | refine Below.setCell ?_ (by first | omega | (simp; done) | (simp; omega)) _ | refine Below.alloc ?_ (by first | omega | (simp; done) | (simp; omega)) _ | refine below_drewN ?_ _ | refine Below.drew ?_ | refine Below.trans ?_ (Below.mono (by assumption) (by first | omega | (simp; done) | (simp; omega))))⟩
end Go.Proofs.Ytllkhgcokbpggaa

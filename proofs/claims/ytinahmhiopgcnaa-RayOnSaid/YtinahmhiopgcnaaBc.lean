/- Straight down, as numbers. -/
import Derived.Test.YtinahmhiopgcnaaBb
namespace Go.Proofs.Ytinahmhiopgcnaa
open Go.RowKit
set_option linter.unusedVariables false

theorem mul_z1 (c : Int) : mulF c 0 = 0 ∧ mulO c 0 = false := by
  have e1 : mulF 0 0 = 0 ∧ mulO 0 0 = false := by decide +kernel
  unfold mulF mulO at *
  rw [Int.mul_zero]
  rw [Int.mul_zero] at e1
  exact e1
theorem mul_z2 (c : Int) : mulF 0 c = 0 ∧ mulO 0 c = false := by
  have e1 : mulF 0 0 = 0 ∧ mulO 0 0 = false := by decide +kernel
  unfold mulF mulO at *
  rw [Int.zero_mul]
  rw [Int.mul_zero] at e1
  exact e1
theorem div_one {n : Int} (h : In64 n) : divF n 4294967296 = n := by
  have k := rq_near (a := n * 4294967296) (b := 4294967296) (by omega)
  have e : rq (n * 4294967296) 4294967296 = n := by omega
  unfold divF quoF
  rw [if_neg (by omega), e]
  exact (clip64_of h).1
/-- straight down from a place -/
def dnR (px py pz : Int) : Ry := ⟨px, py, pz, 0, 0, -4294967296, 274877906944⟩
theorem dn_ins {px py pz : Int} (h : (dnR px py pz).may) : (dnR px py pz).ins := by
  obtain ⟨h1, h2, h3, -⟩ := h
  unfold Rg at h1 h2
  unfold dnR at *
  dsimp only at *
  exact ⟨⟨by show _ ≤ px; omega, by show px ≤ _; omega, by show _ ≤ py; omega, by show py ≤ _; omega, by show _ ≤ pz; omega, by show pz ≤ _; omega⟩, ⟨by show _ ≤ (0 : Int); omega, by show (0 : Int) ≤ _; omega, by show _ ≤ (0 : Int); omega, by show (0 : Int) ≤ _; omega, by show _ ≤ (-4294967296 : Int); omega, by show (-4294967296 : Int) ≤ _; omega⟩, ⟨by show _ ≤ (274877906944 : Int); omega, by show (274877906944 : Int) ≤ _; omega⟩⟩
theorem dn_stp (t : Trk) (c r : Int) (up : Bool) (px py pz : Int) : stpF t c r up (dnR px py pz) = -4294967296 := by
  unfold stpF dnR
  dsimp only
  rw [(mul_z1 _).1, (mul_z1 _).1]
  decide +kernel
theorem dn_pnt {x s : Int} (h : Rg x) : pntF x 0 s = x := by
  unfold pntF
  rw [(mul_z2 s).1]
  unfold addF
  rw [Int.add_zero]
  unfold Rg at h
  exact (clip64_of (by unfold In64; omega)).1
theorem ovr_in (t : Trk) (c r : Int) (up : Bool) (a : Ry) : In64 (ovrF t c r up a) := subF_in _ _
theorem dn_dst (t : Trk) (c r : Int) (up : Bool) (px py pz : Int) : dstF t c r up (dnR px py pz) = if 0 < ovrF t c r up (dnR px py pz) then ovrF t c r up (dnR px py pz) else 0 := by
  unfold dstF
  rw [dn_stp, show subF 0 (-4294967296) = 4294967296 by decide +kernel, div_one (ovr_in _ _ _ _ _)]
/-- which triangle a place is in -/
def trU (t : Trk) (x y : Int) : Bool := decide (whX t x < whY t y)
theorem dn_ovr {t : Trk} (hc : cntP t) {px py pz : Int} (hx : Rg px) (hy : Rg py) : ovrF t (whK t px) (whR t py) (trU t px py) (dnR px py pz) = subF pz (heightF t px py) := by
  have ok := wh_ok hc px py
  have e1 : rofX t (whK t px) (dnR px py pz) = whX t px := by
    unfold rofX whX axD whK dnR axF clampF
    unfold Rg at hx
    dsimp only
    rw [if_neg (by omega), if_neg (by omega)]
  have e2 : rofY t (whR t py) (dnR px py pz) = whY t py := by
    unfold rofY whY axD whR dnR axF clampF
    unfold Rg at hy
    dsimp only
    rw [if_neg (by omega), if_neg (by omega)]
  unfold ovrF
  rw [e1, e2]
  unfold heightF hgF slaF slbF baseFd trU
  rw [if_pos ok, if_pos ok, if_pos ok]
  rfl
theorem dn_met {t : Trk} {px py pz : Int} (hx : Rg px) (hy : Rg py) (c r : Int) (up : Bool) : metF t c r up (dnR px py pz) = (decide (dstF t c r up (dnR px py pz) ≤ 274877906944) && inTri t c r up px py) := by
  unfold metF
  rw [dn_stp]
  have e1 : pntF (dnR px py pz).ox (dnR px py pz).dx (dstF t c r up (dnR px py pz)) = px := dn_pnt hx
  have e2 : pntF (dnR px py pz).oy (dnR px py pz).dy (dstF t c r up (dnR px py pz)) = py := dn_pnt hy
  rw [e1, e2]
  congr 1
  rw [decide_eq_decide]
  exact ⟨fun h => h.2, fun h => ⟨by omega, h⟩⟩
theorem tri_is {t : Trk} {c r : Int} {up : Bool} {x y : Int} (h : inTri t c r up x y = true) : c = (whK t x : Int) ∧ r = (whR t y : Int) ∧ up = trU t x y := by
  unfold inTri at h
  rw [Bool.and_eq_true, Bool.and_eq_true] at h
  exact ⟨(of_decide_eq_true h.1.1).symm, (of_decide_eq_true h.1.2).symm, (beq_iff_eq.mp h.2).symm⟩
theorem tri_self (t : Trk) (x y : Int) : inTri t (whK t x) (whR t y) (trU t x y) x y = true := by
  unfold inTri trU
  simp
/-- the number of a place's triangle -/
def trI (t : Trk) (x y : Int) : Nat := (whR t y * t.cols.toNat + whK t x) * 2 + (if trU t x y then 1 else 0)
theorem trI_is {t : Trk} (hc : cntP t) (x y : Int) : trI t x y < casN t ∧ rcC t (trI t x y) = whK t x ∧ rcR t (trI t x y) = whR t y ∧ rcU (trI t x y) = trU t x y := by
  obtain ⟨⟨k1, k2⟩, k3, k4⟩ := wh_ok hc x y
  obtain ⟨⟨m1, m2⟩, -⟩ := hc
  have c0 : 0 < t.cols.toNat := by omega
  have lk : whK t x < t.cols.toNat := by omega
  have lr : whR t y < t.rows.toNat := by omega
  unfold trI casN rcC rcR rcU
  generalize whK t x = K at *
  generalize whR t y = R at *
  generalize t.cols.toNat = C at *
  generalize t.rows.toNat = S at *
  have e1 : ∀ z : Bool, ((R * C + K) * 2 + (if z then 1 else 0)) / 2 = R * C + K := fun z => by cases z <;> simp <;> omega
  rw [e1]
  refine ⟨?_, ?_, ?_, ?_⟩
  · have p : R * C + C ≤ S * C := by
      have := Nat.mul_le_mul_right C (show R + 1 ≤ S by omega)
      rw [Nat.add_mul, Nat.one_mul] at this
      exact this
    rw [Nat.mul_comm C S]
    cases trU t x y <;> simp <;> omega
  · rw [Nat.mul_comm, Nat.mul_add_mod, Nat.mod_eq_of_lt lk]
  · rw [Nat.mul_comm, Nat.mul_add_div c0, Nat.div_eq_of_lt lk, Nat.add_zero]
  · cases trU t x y <;> simp
/-- above by more than asked: nothing is met -/
theorem dn_far {t : Trk} (hc : cntP t) {px py pz : Int} (h : (dnR px py pz).may) (hf : 274877906944 < subF pz (heightF t px py)) : casI t (dnR px py pz) < 0 := by
  have hx : Rg px := h.1
  have hy : Rg py := h.2.1
  unfold casI
  rw [if_pos h]
  apply Classical.byContradiction; intro n
  obtain ⟨hm, -⟩ := casU_yes t (dnR px py pz) (casN t) (by omega)
  unfold mtI at hm
  rw [dn_met hx hy, Bool.and_eq_true] at hm
  obtain ⟨e1, e2, e3⟩ := tri_is hm.2
  have d := of_decide_eq_true hm.1
  rw [e1, e2, e3, dn_dst, dn_ovr hc hx hy, if_pos (by omega)] at d
  omega
/-- else what is met is the place's own triangle -/
theorem dn_near {t : Trk} (hc : cntP t) {px py pz : Int} (h : (dnR px py pz).may) (hf : subF pz (heightF t px py) ≤ 274877906944) :
    0 ≤ casI t (dnR px py pz) ∧ tcS t (dnR px py pz) (casI t (dnR px py pz)) = (if 0 < subF pz (heightF t px py) then subF pz (heightF t px py) else 0) ∧ tcA t (casI t (dnR px py pz)) = slpA t px py ∧ tcB t (casI t (dnR px py pz)) = slpB t px py ∧ tcK t (casI t (dnR px py pz)) = kindFd t px py := by
  have hx : Rg px := h.1
  have hy : Rg py := h.2.1
  obtain ⟨i1, i2, i3, i4⟩ := trI_is hc px py
  have M : mtI t (dnR px py pz) (trI t px py) = true := by
    unfold mtI
    rw [i2, i3, i4, dn_met hx hy, tri_self, Bool.and_true]
    apply decide_eq_true
    rw [dn_dst, dn_ovr hc hx hy]
    split <;> omega
  have n : 0 ≤ casU t (dnR px py pz) (casN t) := by
    apply Classical.byContradiction; intro n
    rw [casU_no t (dnR px py pz) (casN t) (by omega) _ i1] at M
    cases M
  have E : casI t (dnR px py pz) = casU t (dnR px py pz) (casN t) := by unfold casI; rw [if_pos h]
  rw [E]
  obtain ⟨hm, -⟩ := casU_yes t (dnR px py pz) (casN t) n
  generalize casU t (dnR px py pz) (casN t) = j at *
  have nj : ¬ j < 0 := by omega
  unfold mtI at hm
  rw [dn_met hx hy, Bool.and_eq_true] at hm
  obtain ⟨e1, e2, e3⟩ := tri_is hm.2
  unfold tcS tcA tcB tcK dsI slpA slpB kindFd
  rw [if_neg nj, if_neg nj, e1, e2, e3, dn_dst, dn_ovr hc hx hy]
  exact ⟨n, rfl, rfl, rfl, rfl⟩
theorem dn_fit {t : Trk} (hc : cntP t) (hf : frP t) {px py pz : Int} (h : (dnR px py pz).may) : subO pz (heightF t px py) = false ∧ In64 (heightF t px py) := by
  obtain ⟨-, -, h3, -⟩ := h
  have h3' : -4398046511104 ≤ pz ∧ pz ≤ 4398046511104 := h3
  have b := (hg_near (cell_right hc hf (wh_ok hc px py)) (wh_offX hf px) (wh_offY hf py))
  obtain ⟨_, _, -, -, -, -, -, -, -, b0, b1⟩ := b
  have b0' : -2251799813685248 ≤ heightF t px py := b0
  have b1' : heightF t px py ≤ 2251799813685248 := b1
  exact ⟨(clip64_of (n := pz - heightF t px py) (by unfold In64; omega)).2, by unfold In64; omega⟩
end Go.Proofs.Ytinahmhiopgcnaa
namespace Go.Proofs.Ytinahmhiopgcnaa
open Go.RowKit
set_option linter.unusedVariables false

/-- the height that a meeting misses: some seventy parts at the most -/
theorem on_near {a b base X Y oz dx dy dz s U V Mx My mx my mz P Q D ovr : Int} (ha : -4294967296 ≤ a ∧ a ≤ 4294967296) (hb : -4294967296 ≤ b ∧ b ≤ 4294967296)
    (hU : -4294967296 ≤ 2 * (U * 4294967296 - a * X) ∧ 2 * (U * 4294967296 - a * X) ≤ 4294967296) (hV : -4294967296 ≤ 2 * (V * 4294967296 - b * Y) ∧ 2 * (V * 4294967296 - b * Y) ≤ 4294967296)
    (hMx : -4294967296 ≤ 2 * (Mx * 4294967296 - a * dx) ∧ 2 * (Mx * 4294967296 - a * dx) ≤ 4294967296) (hMy : -4294967296 ≤ 2 * (My * 4294967296 - b * dy) ∧ 2 * (My * 4294967296 - b * dy) ≤ 4294967296)
    (hmx : -4294967296 ≤ 2 * (mx * 4294967296 - dx * s) ∧ 2 * (mx * 4294967296 - dx * s) ≤ 4294967296) (hmy : -4294967296 ≤ 2 * (my * 4294967296 - dy * s) ∧ 2 * (my * 4294967296 - dy * s) ≤ 4294967296)
    (hmz : -4294967296 ≤ 2 * (mz * 4294967296 - dz * s) ∧ 2 * (mz * 4294967296 - dz * s) ≤ 4294967296)
    (hP : -4294967296 ≤ 2 * (P * 4294967296 - a * (X + mx)) ∧ 2 * (P * 4294967296 - a * (X + mx)) ≤ 4294967296) (hQ : -4294967296 ≤ 2 * (Q * 4294967296 - b * (Y + my)) ∧ 2 * (Q * 4294967296 - b * (Y + my)) ≤ 4294967296)
    (ho : ovr = oz - (base + U + V)) (hD : D = -(dz - Mx - My)) (d0 : 0 < D) (d1 : D ≤ 8589934592) (hd : -D ≤ 2 * (s * D - ovr * 4294967296) ∧ 2 * (s * D - ovr * 4294967296) ≤ D) (s0 : 0 ≤ s) (s1 : s ≤ 274877906944) :
    -4194304 ≤ oz + mz - (base + P + Q) ∧ oz + mz - (base + P + Q) ≤ 4194304 := by
  have e1 := Int.mul_le_mul_of_nonneg_right hMx.1 s0
  have e2 := Int.mul_le_mul_of_nonneg_right hMx.2 s0
  have e3 := Int.mul_le_mul_of_nonneg_right hMy.1 s0
  have e4 := Int.mul_le_mul_of_nonneg_right hMy.2 s0
  have g1 : 2 * (Mx * 4294967296 - a * dx) * s = 8589934592 * (Mx * s) - 2 * (a * dx * s) := by grind
  have g2 : 2 * (My * 4294967296 - b * dy) * s = 8589934592 * (My * s) - 2 * (b * dy * s) := by grind
  rw [g1] at e1 e2
  rw [g2] at e3 e4
  have f1 := eabs_le ha.1 ha.2 hmx.1 hmx.2
  have f2 := eabs_le hb.1 hb.2 hmy.1 hmy.2
  have g3 : a * (2 * (mx * 4294967296 - dx * s)) = 8589934592 * (a * mx) - 2 * (a * dx * s) := by grind
  have g4 : b * (2 * (my * 4294967296 - dy * s)) = 8589934592 * (b * my) - 2 * (b * dy * s) := by grind
  rw [g3] at f1
  rw [g4] at f2
  have g5 : a * (X + mx) = a * X + a * mx := Int.mul_add _ _ _
  have g6 : b * (Y + my) = b * Y + b * my := Int.mul_add _ _ _
  rw [g5] at hP
  rw [g6] at hQ
  have g7 : s * D = Mx * s + My * s - dz * s := by rw [hD]; grind
  rw [g7] at hd
  clear g1 g2 g3 g4 g5 g6 g7 hMx hMy hmx hmy hD ha hb
  generalize a * dx * s = T1 at *
  generalize b * dy * s = T2 at *
  generalize Mx * s = u1 at *
  generalize My * s = u2 at *
  generalize dz * s = u3 at *
  generalize a * mx = u4 at *
  generalize b * my = u5 at *
  generalize a * X = u6 at *
  generalize b * Y = u7 at *
  omega
theorem abs_in {d : Int} (h0 : -4194304 ≤ d) (h1 : d ≤ 4194304) : absF d ≤ 4194304 := by
  unfold absF
  split
  · unfold subF
    rw [(clip64_of (n := 0 - d) (by unfold In64; omega)).1]; omega
  · exact h1
/-- a ray that goes down, from within the ground's middle -/
def Ry.down (a : Ry) : Prop := a.dz ≤ -2147483648 ∧ (-536870912 ≤ a.dx ∧ a.dx ≤ 536870912) ∧ (-536870912 ≤ a.dy ∧ a.dy ≤ 536870912) ∧ (-35184372088832 ≤ a.ox ∧ a.ox ≤ 35184372088832) ∧ (-35184372088832 ≤ a.oy ∧ a.oy ≤ 35184372088832)
set_option maxHeartbeats 4000000 in
theorem on_met {t : Trk} (hc : cntP t) (hf : frP t) {a : Ry} (hm : a.may) (hd : a.down) {j : Nat} (hj : j < casN t) (hmt : mtI t a j = true) (h0 : dsI t a j ≠ 0) :
    0 < dsI t a j ∧ dsI t a j ≤ a.long ∧ absF (subF (pntF a.oz a.dz (dsI t a j)) (heightF t (pntF a.ox a.dx (dsI t a j)) (pntF a.oy a.dy (dsI t a j)))) ≤ 4194304 := by
  obtain ⟨ok, -⟩ := tri_num hc hj
  have SB := sl_bd hc hf ok (rcU j)
  have CR := cell_right hc hf ok
  have k1 : 0 ≤ (rcC t j : Int) ∧ (rcC t j : Int) < 64 := by have := ok.1; have := hc.1.1; omega
  have k2 : 0 ≤ (rcR t j : Int) ∧ (rcR t j : Int) < 64 := by have := ok.2; have := hc.1.2; omega
  obtain ⟨-, -, -, -, x1, x2⟩ := rof_fit hm.1 hf.2.1 k1 hf.1
  obtain ⟨-, -, -, -, y1, y2⟩ := rof_fit hm.2.1 hf.2.2.1 k2 hf.1
  unfold mtI metF at hmt
  rw [Bool.and_eq_true] at hmt
  obtain ⟨hs, ht⟩ := hmt
  have hs := of_decide_eq_true hs
  obtain ⟨t1, t2, t3⟩ := tri_is ht
  have eb : baseFd t (rcC t j) (rcR t j) = h00 t (rcC t j) (rcR t j) := by unfold baseFd h00; rw [if_pos ok]
  have hb := CR.h.1
  have ea : slaF t (rcC t j) (rcR t j) (rcU j) = slA t.cell (h00 t (rcC t j) (rcR t j)) (h10 t (rcC t j) (rcR t j)) (h01 t (rcC t j) (rcR t j)) (h11 t (rcC t j) (rcR t j)) (rcU j) := by unfold slaF; rw [if_pos ok]
  have ec : slbF t (rcC t j) (rcR t j) (rcU j) = slB t.cell (h00 t (rcC t j) (rcR t j)) (h10 t (rcC t j) (rcR t j)) (h01 t (rcC t j) (rcR t j)) (h11 t (rcC t j) (rcR t j)) (rcU j) := by unfold slbF; rw [if_pos ok]
  unfold dsI at *
  have DS : dstF t (rcC t j) (rcR t j) (rcU j) a = if 0 < ovrF t (rcC t j) (rcR t j) (rcU j) a then divF (ovrF t (rcC t j) (rcR t j) (rcU j) a) (subF 0 (stpF t (rcC t j) (rcR t j) (rcU j) a)) else 0 := rfl
  generalize dstF t (rcC t j) (rcR t j) (rcU j) a = s at *
  unfold ovrF stpF rofX rofY at DS
  unfold stpF at hs
  rw [eb] at DS
  have t3' : decide (whX t (pntF a.ox a.dx s) < whY t (pntF a.oy a.dy s)) = rcU j := t3.symm
  have HG : heightF t (pntF a.ox a.dx s) (pntF a.oy a.dy s) = addF (addF (h00 t (rcC t j) (rcR t j)) (mulF (slaF t (rcC t j) (rcR t j) (rcU j)) (whX t (pntF a.ox a.dx s)))) (mulF (slbF t (rcC t j) (rcR t j) (rcU j)) (whY t (pntF a.oy a.dy s))) := by
    unfold heightF hgF
    rw [← t1, ← t2, t3', ← ea, ← ec]
  have WX : whX t (pntF a.ox a.dx s) = axF (pntF a.ox a.dx s) t.cx - (rcC t j : Int) * t.cell := by rw [t1]; rfl
  have WY : whY t (pntF a.oy a.dy s) = axF (pntF a.oy a.dy s) t.cy - (rcR t j : Int) * t.cell := by rw [t2]; rfl
  clear t1 t2 t3 t3' ht CR ea ec eb
  generalize slaF t (rcC t j) (rcR t j) (rcU j) = p at *
  generalize slbF t (rcC t j) (rcR t j) (rcU j) = q at *
  generalize h00 t (rcC t j) (rcR t j) = base at *
  rw [HG, WX, WY]
  obtain ⟨-, -, z1, z2, z3, z4, z5, z6⟩ := hm
  obtain ⟨v1, v2, v3, v4, v5⟩ := hd
  obtain ⟨SA, SB⟩ := SB
  clear HG WX WY ok hc hj
  have hcx := hf.2.1
  have hcy := hf.2.2.1
  generalize (rcC t j : Int) * t.cell = zc at *
  generalize (rcR t j : Int) * t.cell = zr at *
  clear hf k1 k2
  -- the slope along the ray
  obtain ⟨-, m1, m2⟩ := fmul_gen SA.1 SA.2 (d := a.dx) (by omega) (by omega)
  obtain ⟨-, n1, n2⟩ := fmul_gen SB.1 SB.2 (d := a.dy) (by omega) (by omega)
  have M1 := eabs_le SA.1 SA.2 v2.1 v2.2
  have N1 := eabs_le SB.1 SB.2 v3.1 v3.2
  have Mb : -536870913 ≤ mulF p a.dx ∧ mulF p a.dx ≤ 536870913 := by generalize p * a.dx = z at *; omega
  have Nb : -536870913 ≤ mulF q a.dy ∧ mulF q a.dy ≤ 536870913 := by generalize q * a.dy = z at *; omega
  have e1 : subF a.dz (mulF p a.dx) = a.dz - mulF p a.dx := (clip64_of (by unfold In64; omega)).1
  have e2 : subF (a.dz - mulF p a.dx) (mulF q a.dy) = a.dz - mulF p a.dx - mulF q a.dy := (clip64_of (by unfold In64; omega)).1
  have e3 : subF 0 (a.dz - mulF p a.dx - mulF q a.dy) = -(a.dz - mulF p a.dx - mulF q a.dy) := by
    have := (clip64_of (n := 0 - (a.dz - mulF p a.dx - mulF q a.dy)) (by unfold In64; omega)).1
    unfold subF; rw [this]; omega
  -- how far above
  obtain ⟨-, u1, u2⟩ := fmul_gen SA.1 SA.2 (d := a.ox - t.cx - zc) (by omega) (by omega)
  obtain ⟨-, w1, w2⟩ := fmul_gen SB.1 SB.2 (d := a.oy - t.cy - zr) (by omega) (by omega)
  have e4 : addF base (mulF p (a.ox - t.cx - zc)) = base + mulF p (a.ox - t.cx - zc) := (clip64_of (by unfold In64; omega)).1
  have e5 : addF (base + mulF p (a.ox - t.cx - zc)) (mulF q (a.oy - t.cy - zr)) = base + mulF p (a.ox - t.cx - zc) + mulF q (a.oy - t.cy - zr) := (clip64_of (by unfold In64; omega)).1
  have e6 : subF a.oz (base + mulF p (a.ox - t.cx - zc) + mulF q (a.oy - t.cy - zr)) = a.oz - (base + mulF p (a.ox - t.cx - zc) + mulF q (a.oy - t.cy - zr)) := (clip64_of (by unfold In64; omega)).1
  rw [e1, e2, e3, e4, e5, e6] at DS
  have hD : 0 < -(a.dz - mulF p a.dx - mulF q a.dy) ∧ -(a.dz - mulF p a.dx - mulF q a.dy) ≤ 8589934592 := by omega
  have ho : 0 < a.oz - (base + mulF p (a.ox - t.cx - zc) + mulF q (a.oy - t.cy - zr)) := by
    apply Classical.byContradiction; intro k
    rw [if_neg k] at DS
    exact h0 DS
  rw [if_pos ho] at DS
  have k := rq_near (a := (a.oz - (base + mulF p (a.ox - t.cx - zc) + mulF q (a.oy - t.cy - zr))) * 4294967296) (b := -(a.dz - mulF p a.dx - mulF q a.dy)) hD.1
  have hs2 := hs.2
  have r0 : s = rq ((a.oz - (base + mulF p (a.ox - t.cx - zc) + mulF q (a.oy - t.cy - zr))) * 4294967296) (-(a.dz - mulF p a.dx - mulF q a.dy)) := by
    unfold divF quoF at DS
    rw [if_neg (by omega)] at DS
    have n0 : 0 ≤ rq ((a.oz - (base + mulF p (a.ox - t.cx - zc) + mulF q (a.oy - t.cy - zr))) * 4294967296) (-(a.dz - mulF p a.dx - mulF q a.dy)) := by
      apply Classical.byContradiction; intro c
      have := Int.mul_le_mul_of_nonneg_right (show rq ((a.oz - (base + mulF p (a.ox - t.cx - zc) + mulF q (a.oy - t.cy - zr))) * 4294967296) (-(a.dz - mulF p a.dx - mulF q a.dy)) ≤ -1 by omega) (show 0 ≤ -(a.dz - mulF p a.dx - mulF q a.dy) by omega)
      omega
    generalize rq ((a.oz - (base + mulF p (a.ox - t.cx - zc) + mulF q (a.oy - t.cy - zr))) * 4294967296) (-(a.dz - mulF p a.dx - mulF q a.dy)) = z at *
    unfold clip64 at DS
    rw [if_neg (by omega)] at DS
    split at DS <;> omega
  rw [← r0] at k
  have s0 : 0 < s := by
    apply Classical.byContradiction; intro c
    have c1 : s ≤ -1 := by omega
    have := Int.mul_le_mul_of_nonneg_right c1 (show 0 ≤ -(a.dz - mulF p a.dx - mulF q a.dy) by omega)
    omega
  have s1 : s ≤ 274877906944 := by omega
  refine ⟨s0, hs2, ?_⟩
  clear DS hs e1 e2 e3 e4 e5 e6 r0 h0
  -- the place
  obtain ⟨-, x3, x4⟩ := fmul_gen (a := a.dx) (d := s) (by omega) (by omega) (by omega) (by omega)
  obtain ⟨-, y3, y4⟩ := fmul_gen (a := a.dy) (d := s) (by omega) (by omega) (by omega) (by omega)
  obtain ⟨-, z7, z8⟩ := fmul_gen (a := a.dz) (d := s) (by omega) (by omega) (by omega) (by omega)
  have X1 := eabs_le (a := a.dx) (d := s) (u := 274877906944) (by omega) (by omega) (by omega) (by omega)
  have Y1 := eabs_le (a := a.dy) (d := s) (u := 274877906944) (by omega) (by omega) (by omega) (by omega)
  have xb : -274877906945 ≤ mulF a.dx s ∧ mulF a.dx s ≤ 274877906945 := by generalize a.dx * s = z at *; omega
  have yb : -274877906945 ≤ mulF a.dy s ∧ mulF a.dy s ≤ 274877906945 := by generalize a.dy * s = z at *; omega
  have f1 : pntF a.ox a.dx s = a.ox + mulF a.dx s := (clip64_of (by unfold In64; omega)).1
  have f2 : pntF a.oy a.dy s = a.oy + mulF a.dy s := (clip64_of (by unfold In64; omega)).1
  have f3 : pntF a.oz a.dz s = a.oz + mulF a.dz s := (clip64_of (by unfold In64; omega)).1
  rw [f1, f2, f3]
  have g1 : axF (a.ox + mulF a.dx s) t.cx - zc = (a.ox - t.cx - zc) + mulF a.dx s := by unfold axF clampF; rw [if_neg (by omega), if_neg (by omega)]; omega
  have g2 : axF (a.oy + mulF a.dy s) t.cy - zr = (a.oy - t.cy - zr) + mulF a.dy s := by unfold axF clampF; rw [if_neg (by omega), if_neg (by omega)]; omega
  rw [g1, g2]
  obtain ⟨-, p1, p2⟩ := fmul_gen SA.1 SA.2 (d := a.ox - t.cx - zc + mulF a.dx s) (by omega) (by omega)
  obtain ⟨-, q1, q2⟩ := fmul_gen SB.1 SB.2 (d := a.oy - t.cy - zr + mulF a.dy s) (by omega) (by omega)
  have ON := on_near (base := base) (oz := a.oz) SA SB u2 w2 m2 n2 x4 y4 z8 p2 q2 rfl rfl hD.1 hD.2 k (by omega) s1
  have e4 : addF base (mulF p (a.ox - t.cx - zc + mulF a.dx s)) = base + mulF p (a.ox - t.cx - zc + mulF a.dx s) := (clip64_of (by unfold In64; omega)).1
  have e5 : addF (base + mulF p (a.ox - t.cx - zc + mulF a.dx s)) (mulF q (a.oy - t.cy - zr + mulF a.dy s)) = base + mulF p (a.ox - t.cx - zc + mulF a.dx s) + mulF q (a.oy - t.cy - zr + mulF a.dy s) := (clip64_of (by unfold In64; omega)).1
  rw [e4, e5]
  have e6 : subF (a.oz + mulF a.dz s) (base + mulF p (a.ox - t.cx - zc + mulF a.dx s) + mulF q (a.oy - t.cy - zr + mulF a.dy s)) = a.oz + mulF a.dz s - (base + mulF p (a.ox - t.cx - zc + mulF a.dx s) + mulF q (a.oy - t.cy - zr + mulF a.dy s)) := (clip64_of (by unfold In64; omega)).1
  rw [e6]
  exact abs_in ON.1 ON.2
end Go.Proofs.Ytinahmhiopgcnaa

/- The program's track: errors.As for both of its targets: an error's number, a fault. -/
import Derived.Test.YtjbalpmcnihhpaaDoorB2
import Derived.Test.YtjbalpmcnihhpaaDoorCh
import Derived.LaidEql
import Derived.Stop.Asserts
import Derived.RowKitTokens
namespace Go.Proofs.YtjbalpmcnihhpaaDoor
open Go.RowKit Go.Extern.Stop Go.Stop Go.Extern
set_option linter.unusedVariables false
set_option linter.unusedSimpArgs false

theorem rlM (z : Sem Value) (f : TypeId → Addr → Nat → Nat → Sem Value) (v : Value) :
    ReflectliteValue.method z f #[v] = (do match ← ReflectliteValue.parts v with | none => z | some (t, a, fl) => f t a fl (fl % 32)) := rfl
theorem rlS (v x : Value) : ReflectliteValue.set #[v, x] = (do
    let (some (dst, a, fl), some (src, b, _)) := (← ReflectliteValue.parts v, ← ReflectliteValue.parts x)
      | unsupported (.noEntry "extern/(internal/reflectlite.Value).Set.zeroValue")
    if fl / ReflectliteValue.flagAddr % 2 == 0 then unsupported (.noEntry "extern/(internal/reflectlite.Value).Set.unaddressable")
    let val ← loadVar src b
    if ← Rtype.directlyAssignable dst src then storeVar dst a val
    else if ← Rtype.implements dst src then
      if (← Rtype.kind src) == 20 then
        match val with
        | .nilIface => unsupported (.noEntry "extern/reflectlite: a nil value of one interface type handed on as a value of another")
        | _ => storeVar dst a val
      else storeVar dst a (.iface src val)
    else panicString ("reflectlite.Set: value of type " ++ (← Rtype.spelt src) ++ " is not assignable to type " ++ (← Rtype.spelt dst))
    pure (.tuple #[])) := rfl
/-- the descriptor of a type -/
def rlH (t : Nat) : Value := .pointer (some ⟨3, t, none⟩)
/-- a reflected value's three cells -/
def rlV (t : Nat) (a : Addr) (f : Int) : Value := .agg #[rlH t, .pointer (some a), .int .u64 f]
def rlC (t : Nat) (a : Addr) (f : Int) : Obj := .cells #[rlH t, .pointer (some a), .int .u64 f] 75
theorem erN_of (t : Addr) (w : World) : (ReflectliteValue.unpack (.iface 54 (.pointer (some t)))).run Tryd.prog w = .ok (rlV 54 ⟨w.heap.size, 0, none⟩ 150) (w.alloc (.cells #[.pointer (some t)] 54)) := by kernel_rfl
theorem erN_type (a : Addr) (w : World) : (ReflectliteValue.methodAny (ReflectliteValue.valueError "reflectlite.Value.Type" 0) (fun t _ _ _ => ReflectliteType.toType t) #[rlV 54 a 150]).run Tryd.prog w = .ok (.iface 105 (.agg #[rlH 54])) w := by kernel_rfl
theorem erN_kindP (w : World) : ((ReflectliteType.abiMethod fun t => (fun a : Nat => Value.int IntKind.u8 (a : Int)) <$> Rtype.kind t) #[rlH 54]).run Tryd.prog w = .ok (.int .u8 22) w := by kernel_rfl
theorem erN_kindE (w : World) : ((ReflectliteType.abiMethod fun t => (fun a : Nat => Value.int IntKind.u8 (a : Int)) <$> Rtype.kind t) #[rlH 41]).run Tryd.prog w = .ok (.int .u8 2) w := by kernel_rfl
theorem erN_partsP (a : Addr) (w : World) : (ReflectliteValue.parts (rlV 54 a 150)).run Tryd.prog w = .ok (some (54, a, 150)) w := by kernel_rfl
theorem erN_isNil (a p : Addr) (W : World) (ha : W.cell? a = some (.pointer (some p))) :
    (ReflectliteValue.method (ReflectliteValue.valueError "reflectlite.Value.IsNil" 0) ReflectliteValue.isNil #[rlV 54 a 150]).run Tryd.prog W = .ok (.bool false) W := by
  rw [rlM]
  simp only [Sem.run_bind, erN_partsP, Result.andThen]
  simp [ReflectliteValue.isNil, loadVar, isAgg, underlying, Tryd.underlying54, ha, Result.andThen]
theorem erN_elem (w : World) : (ReflectliteType.method ReflectliteType.elem #[.agg #[rlH 54]]).run Tryd.prog w = .ok (.iface 105 (.agg #[rlH 41])) w := by kernel_rfl
theorem erN_impl (w : World) : (ReflectliteType.relation "Implements" ReflectliteType.implements_ #[.agg #[rlH 41], .iface 105 (.agg #[rlH 51])]).run Tryd.prog w = .ok (.bool true) w := by kernel_rfl
theorem erN_typeOf (v : Value) (w : World) : (ReflectliteType.typeOf #[.iface 41 v]).run Tryd.prog w = .ok (.iface 105 (.agg #[rlH 41])) w := by kernel_rfl
theorem erN_asg (w : World) : (ReflectliteType.relation "AssignableTo" ReflectliteType.assignableTo #[.agg #[rlH 41], .iface 105 (.agg #[rlH 41])]).run Tryd.prog w = .ok (.bool true) w := by kernel_rfl
theorem erN_elemOf (w : World) : (Rtype.elem? 54).run Tryd.prog w = .ok (some 41) w := by kernel_rfl
theorem erN_mk (p : Addr) (w : World) : (ReflectliteValue.mk 41 p ReflectliteValue.flagAddr).run Tryd.prog w = .ok (rlV 41 p 386) w := by kernel_rfl
theorem erN_elemV (a p : Addr) (W : World) (ha : W.cell? a = some (.pointer (some p))) :
    (ReflectliteValue.method (ReflectliteValue.valueError "reflectlite.Value.Elem" 0) ReflectliteValue.elem #[rlV 54 a 150]).run Tryd.prog W = .ok (rlV 41 p 386) W := by
  rw [rlM]
  simp only [Sem.run_bind, erN_partsP, Result.andThen]
  simp [ReflectliteValue.elem, loadVar, isAgg, underlying, Tryd.underlying54, ha, Result.andThen, erN_elemOf, erN_mk]
theorem erN_partsA (a : Addr) (w : World) : (ReflectliteValue.parts (rlV 41 a 386)).run Tryd.prog w = .ok (some (41, a, 386)) w := by kernel_rfl
theorem erN_partsV (a : Addr) (w : World) : (ReflectliteValue.parts (rlV 41 a 130)).run Tryd.prog w = .ok (some (41, a, 130)) w := by kernel_rfl
theorem erN_direct (w : World) : (Rtype.directlyAssignable 41 41).run Tryd.prog w = .ok true w := by kernel_rfl
theorem erN_size (w : World) : (sizeOf 41).run Tryd.prog w = .ok 1 w := by kernel_rfl
theorem erF_of (t : Addr) (w : World) : (ReflectliteValue.unpack (.iface 55 (.pointer (some t)))).run Tryd.prog w = .ok (rlV 55 ⟨w.heap.size, 0, none⟩ 150) (w.alloc (.cells #[.pointer (some t)] 55)) := by kernel_rfl
theorem erF_type (a : Addr) (w : World) : (ReflectliteValue.methodAny (ReflectliteValue.valueError "reflectlite.Value.Type" 0) (fun t _ _ _ => ReflectliteType.toType t) #[rlV 55 a 150]).run Tryd.prog w = .ok (.iface 105 (.agg #[rlH 55])) w := by kernel_rfl
theorem erF_kindP (w : World) : ((ReflectliteType.abiMethod fun t => (fun a : Nat => Value.int IntKind.u8 (a : Int)) <$> Rtype.kind t) #[rlH 55]).run Tryd.prog w = .ok (.int .u8 22) w := by kernel_rfl
theorem erF_kindE (w : World) : ((ReflectliteType.abiMethod fun t => (fun a : Nat => Value.int IntKind.u8 (a : Int)) <$> Rtype.kind t) #[rlH 49]).run Tryd.prog w = .ok (.int .u8 25) w := by kernel_rfl
theorem erF_partsP (a : Addr) (w : World) : (ReflectliteValue.parts (rlV 55 a 150)).run Tryd.prog w = .ok (some (55, a, 150)) w := by kernel_rfl
theorem erF_isNil (a p : Addr) (W : World) (ha : W.cell? a = some (.pointer (some p))) :
    (ReflectliteValue.method (ReflectliteValue.valueError "reflectlite.Value.IsNil" 0) ReflectliteValue.isNil #[rlV 55 a 150]).run Tryd.prog W = .ok (.bool false) W := by
  rw [rlM]
  simp only [Sem.run_bind, erF_partsP, Result.andThen]
  simp [ReflectliteValue.isNil, loadVar, isAgg, underlying, Tryd.underlying55, ha, Result.andThen]
theorem erF_elem (w : World) : (ReflectliteType.method ReflectliteType.elem #[.agg #[rlH 55]]).run Tryd.prog w = .ok (.iface 105 (.agg #[rlH 49])) w := by kernel_rfl
theorem erF_impl (w : World) : (ReflectliteType.relation "Implements" ReflectliteType.implements_ #[.agg #[rlH 49], .iface 105 (.agg #[rlH 51])]).run Tryd.prog w = .ok (.bool true) w := by kernel_rfl
theorem erF_typeOf (v : Value) (w : World) : (ReflectliteType.typeOf #[.iface 49 v]).run Tryd.prog w = .ok (.iface 105 (.agg #[rlH 49])) w := by kernel_rfl
theorem erF_asg (w : World) : (ReflectliteType.relation "AssignableTo" ReflectliteType.assignableTo #[.agg #[rlH 49], .iface 105 (.agg #[rlH 49])]).run Tryd.prog w = .ok (.bool true) w := by kernel_rfl
theorem erF_elemOf (w : World) : (Rtype.elem? 55).run Tryd.prog w = .ok (some 49) w := by kernel_rfl
theorem erF_mk (p : Addr) (w : World) : (ReflectliteValue.mk 49 p ReflectliteValue.flagAddr).run Tryd.prog w = .ok (rlV 49 p 409) w := by kernel_rfl
theorem erF_elemV (a p : Addr) (W : World) (ha : W.cell? a = some (.pointer (some p))) :
    (ReflectliteValue.method (ReflectliteValue.valueError "reflectlite.Value.Elem" 0) ReflectliteValue.elem #[rlV 55 a 150]).run Tryd.prog W = .ok (rlV 49 p 409) W := by
  rw [rlM]
  simp only [Sem.run_bind, erF_partsP, Result.andThen]
  simp [ReflectliteValue.elem, loadVar, isAgg, underlying, Tryd.underlying55, ha, Result.andThen, erF_elemOf, erF_mk]
theorem erF_partsA (a : Addr) (w : World) : (ReflectliteValue.parts (rlV 49 a 409)).run Tryd.prog w = .ok (some (49, a, 409)) w := by kernel_rfl
theorem erF_partsV (a : Addr) (w : World) : (ReflectliteValue.parts (rlV 49 a 153)).run Tryd.prog w = .ok (some (49, a, 153)) w := by kernel_rfl
theorem erF_direct (w : World) : (Rtype.directlyAssignable 49 49).run Tryd.prog w = .ok true w := by kernel_rfl
theorem erF_size (w : World) : (sizeOf 49).run Tryd.prog w = .ok 2 w := by kernel_rfl
theorem erN_val (n : Int) (w : World) : (ReflectliteValue.unpack (.iface 41 (.int .i64 n))).run Tryd.prog w = .ok (rlV 41 ⟨w.heap.size, 0, none⟩ 130) (w.alloc (.cells #[.int .i64 n] 41)) := by kernel_rfl
theorem erF_val (n p : Int) (w : World) : (ReflectliteValue.unpack (.iface 49 (.agg #[.int .i64 n, .int .i64 p]))).run Tryd.prog w = .ok (rlV 49 ⟨w.heap.size, 0, none⟩ 153) (w.alloc (.cells #[.int .i64 n, .int .i64 p] 49)) := by kernel_rfl
theorem erN_set (ta b : Addr) (n : Int) (old : Value) (W : World) (hb : W.cell? b = some (.int .i64 n)) (ht : W.cell? ta = some old) (hf : W.frozen? ta = false) :
    (ReflectliteValue.set #[rlV 41 ta 386, rlV 41 b 130]).run Tryd.prog W = .ok (.tuple #[]) (W.setCell ta (.int .i64 n)) := by
  rw [rlS]
  simp only [Sem.run_bind, erN_partsA, erN_partsV, Result.andThen]
  simp [ReflectliteValue.flagAddr, loadVar, isAgg, underlying, Tryd.underlying41, hb, Result.andThen, erN_direct, erN_size, storeVar, Value.cells, storeCells, Addr.add]
  rw [run_store Tryd.prog W ta _ _ (by rfl)]
  simp [ht, hf]
theorem erF_set (ta b : Nat) (n p : Int) (o0 o1 : Value) (W : World) (hb : W.cell? ⟨b, 0, none⟩ = some (.int .i64 n)) (hb1 : W.cell? ⟨b, 1, none⟩ = some (.int .i64 p)) (ht : W.cell? ⟨ta, 0, none⟩ = some o0) (ht1 : W.cell? ⟨ta, 1, none⟩ = some o1) (hf : ∀ j, W.frozen? ⟨ta, j, none⟩ = false) :
    (ReflectliteValue.set #[rlV 49 ⟨ta, 0, none⟩ 409, rlV 49 ⟨b, 0, none⟩ 153]).run Tryd.prog W = .ok (.tuple #[]) ((W.setCell ⟨ta, 0, none⟩ (.int .i64 n)).setCell ⟨ta, 1, none⟩ (.int .i64 p)) := by
  rw [rlS]
  simp only [Sem.run_bind, erF_partsA, erF_partsV, Result.andThen]
  have hl : (loadVar 49 ⟨b, 0, none⟩).run Tryd.prog W = .ok (.agg #[.int .i64 n, .int .i64 p]) W := by
    simp [loadVar, isAgg, underlying, Tryd.underlying49, Result.andThen, erF_size, loadCells, loadCellsFrom, Addr.add, hb, hb1]
  simp [ReflectliteValue.flagAddr, hl, Result.andThen, erF_direct, erF_size, storeVar, Value.cells, storeCells, Addr.add]
  rw [run_store Tryd.prog W ⟨ta, 0, none⟩ _ _ (by rfl)]
  simp [ht, hf, Result.andThen]
  rw [run_store Tryd.prog _ ⟨ta, 1, none⟩ _ _ (by rfl)]
  have h2 : (W.setCell ⟨ta, 0, none⟩ (.int .i64 n)).cell? ⟨ta, 1, none⟩ = some o1 := (World.cell?_setCell_other _ _ _ _ (by simp)).trans ht1
  simp [h2, hf]
end Go.Proofs.YtjbalpmcnihhpaaDoor
namespace Go.Proofs.YtjbalpmcnihhpaaDoor
open Go.RowKit Go.Extern.Stop Go.Stop Go.Extern
set_option linter.unusedVariables false
set_option linter.unusedSimpArgs false

theorem erAs_nil (t : Value) (w : World) :
    Calls Tryd.prog 15 #[.nilIface, t] w fun e w' => e = .returned (.bool false) ∧ w' = w := by
  go_enter Tryd.func15, Tryd.ntmps15
  go_wp2
  go_ret
  exact ⟨rfl, rfl⟩
theorem erUnwrap (n p : Int) (w : World) :
    Calls Tryd.prog 99 #[.agg #[.int .i64 n, .int .i64 p]] w fun e w' => e = .returned (.iface 41 (.int .i64 n)) ∧ w' = w.alloc (.cells #[.int .i64 n, .int .i64 p] 49) := by
  go_enter Tryd.func99, Tryd.ntmps99
  go_wp2
  go_ret
  exact ⟨rfl, rfl⟩
/-- of the number: a fault is none, and what it wraps is -/
theorem erN_no (w : World) : (ReflectliteType.relation "AssignableTo" ReflectliteType.assignableTo #[.agg #[rlH 49], .iface 105 (.agg #[rlH 41])]).run Tryd.prog w = .ok (.bool false) w := by kernel_rfl
theorem rlKind (h : Value) (w : World) : (Go.method 270 105 (.agg #[h]) "Kind").run Tryd.prog w = .ok (94, h) w := by kernel_rfl
theorem rlElem (h : Value) (w : World) : (Go.method 270 105 (.agg #[h]) "Elem").run Tryd.prog w = .ok (111, .agg #[h]) w := by kernel_rfl
theorem rlImpl (h : Value) (w : World) : (Go.method 270 105 (.agg #[h]) "Implements").run Tryd.prog w = .ok (112, .agg #[h]) w := by kernel_rfl
theorem rlAsg (h : Value) (w : World) : (Go.method 270 105 (.agg #[h]) "AssignableTo").run Tryd.prog w = .ok (109, .agg #[h]) w := by kernel_rfl
theorem rlUnw (n p : Int) (w : World) : (Go.method 270 49 (.agg #[.int .i64 n, .int .i64 p]) "Unwrap").run Tryd.prog w = .ok (99, .agg #[.int .i64 n, .int .i64 p]) w := by kernel_rfl
theorem rlNoAs (v : Value) (xT : TypeId) (w : World) : (Instr.typeAssert (.iface 49 v) xT 110 true).run Tryd.prog w = .ok (.tuple #[.nilIface, .bool false]) w :=
  run_typeAssert_lacksB Tryd.underlying110 (by kernel_rfl) (by kernel_rfl) v xT w
theorem rlIsUn (v : Value) (xT : TypeId) (w : World) : (Instr.typeAssert (.iface 49 v) xT 113 true).run Tryd.prog w = .ok (.tuple #[.iface 49 v, .bool true]) w :=
  run_typeAssert_hasB Tryd.underlying113 (by kernel_rfl) v xT w
set_option maxRecDepth 100000 in
set_option maxHeartbeats 8000000 in
theorem erIn_fault (n p : Int) (t b : Nat) (o0 o1 : Value) (w : World) (hb : w.cell? ⟨b, 0, none⟩ = some (.pointer (some ⟨t, 0, none⟩))) (ht0 : w.cell? ⟨t, 0, none⟩ = some o0) (ht1 : w.cell? ⟨t, 1, none⟩ = some o1) (hf : ∀ j, w.frozen? ⟨t, j, none⟩ = false) :
    Calls Tryd.prog 36 #[.iface 49 (.agg #[.int .i64 n, .int .i64 p]), .iface 55 (.pointer (some ⟨t, 0, none⟩)), .agg #[.pointer (some ⟨3, 55, none⟩), .pointer (some ⟨b, 0, none⟩), .int .u64 150], .iface 105 (.agg #[.pointer (some ⟨3, 49, none⟩)])] w fun ev w' => ev = .returned (.bool true) ∧ ∃ w1, Below w.heap.size w w1 ∧ w' = (w1.setCell ⟨t, 0, none⟩ (.int .i64 n)).setCell ⟨t, 1, none⟩ (.int .i64 p) := by
  have x1 := @run_callFunc_extern Tryd.prog 33 _ (fun args => ReflectliteValue.unpack (args.getD 0 (.tuple #[]))) Tryd.func33 (by kernel_rfl) (by kernel_rfl) (by kernel_rfl) (by kernel_rfl)
  have x7 := @run_callFunc_extern Tryd.prog 57 _ ReflectliteType.typeOf Tryd.func57 (by kernel_rfl) (by kernel_rfl) (by kernel_rfl) (by kernel_rfl)
  have x8 := @run_callFunc_extern Tryd.prog 109 _ (ReflectliteType.relation "AssignableTo" ReflectliteType.assignableTo) Tryd.func109 (by kernel_rfl) (by kernel_rfl) (by kernel_rfl) (by kernel_rfl)
  have x9 := @run_callFunc_extern Tryd.prog 58 _ (ReflectliteValue.method (ReflectliteValue.valueError "reflectlite.Value.Elem" 0) ReflectliteValue.elem) Tryd.func58 (by kernel_rfl) (by kernel_rfl) (by kernel_rfl) (by kernel_rfl)
  have x10 := @run_callFunc_extern Tryd.prog 59 _ ReflectliteValue.set Tryd.func59 (by kernel_rfl) (by kernel_rfl) (by kernel_rfl) (by kernel_rfl)
  have m4 := rlAsg
  have y7 := erF_typeOf
  have y8 := erF_asg
  simp only [rlV, rlH] at y7 y8
  have htl : t < w.heap.size := by
    rcases Nat.lt_or_ge t w.heap.size with h | h
    · exact h
    · simp [World.cell?, Array.getElem?_eq_none h] at ht0
  have hbl : b < w.heap.size := by
    rcases Nat.lt_or_ge b w.heap.size with h | h
    · exact h
    · simp [World.cell?, Array.getElem?_eq_none h] at hb
  obtain ⟨wC, hC⟩ : ∃ wC, w.alloc (.cells #[.pointer (some ⟨3, 55, none⟩), .pointer (some ⟨b, 0, none⟩), .int .u64 150] 75) = wC := ⟨_, rfl⟩
  have zC : wC.heap.size = w.heap.size + 1 := by rw [← hC]; simp
  have bC : Below w.heap.size w wC := by rw [← hC]; exact (Below.refl _ _).alloc (Nat.le_refl _) _
  have v0 : wC.cell? ⟨w.heap.size, 0, none⟩ = some (.pointer (some ⟨3, 55, none⟩)) := by rw [← hC]; simp
  have v1 : wC.cell? ⟨w.heap.size, 1, none⟩ = some (.pointer (some ⟨b, 0, none⟩)) := by rw [← hC]; simp
  have v2 : wC.cell? ⟨w.heap.size, 2, none⟩ = some (.int .u64 150) := by rw [← hC]; simp
  have y9 := erF_val n p wC
  have el := erF_elemV ⟨b, 0, none⟩ ⟨t, 0, none⟩ wC ((bC.cell (p := ⟨b, _, none⟩) hbl).trans hb)
  obtain ⟨wD, hD⟩ : ∃ wD, wC.alloc (.cells #[.int .i64 n, .int .i64 p] 49) = wD := ⟨_, rfl⟩
  have bD : Below wC.heap.size wC wD := by rw [← hD]; exact (Below.refl _ _).alloc (Nat.le_refl _) _
  have bW := bC.trans (bD.mono (by omega))
  have st := erF_set t wC.heap.size n p o0 o1 wD (by rw [← hD]; simp) (by rw [← hD]; simp) ((bW.cell (p := ⟨t, _, none⟩) htl).trans ht0) ((bW.cell (p := ⟨t, _, none⟩) htl).trans ht1) (fun j => (bW.frozen (p := ⟨t, j, none⟩) htl).trans (hf j))
  rw [hD] at y9
  simp only [rlV, rlH] at y9 el st
  rw [zC] at st
  go_enter Tryd.func36, Tryd.ntmps36
  go_wp2
  refine wp_loop_rounds 1 ?_
  rw [rounds_succ]
  go_wp2
  go_ret
  exact ⟨rfl, wD, bW, rfl⟩
set_option maxRecDepth 100000 in
set_option maxHeartbeats 8000000 in
theorem erIn_num (n p : Int) (t b : Nat) (o0 : Value) (w : World) (hb : w.cell? ⟨b, 0, none⟩ = some (.pointer (some ⟨t, 0, none⟩))) (ht0 : w.cell? ⟨t, 0, none⟩ = some o0) (hf : ∀ j, w.frozen? ⟨t, j, none⟩ = false) :
    Calls Tryd.prog 36 #[.iface 49 (.agg #[.int .i64 n, .int .i64 p]), .iface 54 (.pointer (some ⟨t, 0, none⟩)), .agg #[.pointer (some ⟨3, 54, none⟩), .pointer (some ⟨b, 0, none⟩), .int .u64 150], .iface 105 (.agg #[.pointer (some ⟨3, 41, none⟩)])] w fun ev w' => ev = .returned (.bool true) ∧ ∃ w1, Below w.heap.size w w1 ∧ w' = w1.setCell ⟨t, 0, none⟩ (.int .i64 n) := by
  have x1 := @run_callFunc_extern Tryd.prog 33 _ (fun args => ReflectliteValue.unpack (args.getD 0 (.tuple #[]))) Tryd.func33 (by kernel_rfl) (by kernel_rfl) (by kernel_rfl) (by kernel_rfl)
  have x7 := @run_callFunc_extern Tryd.prog 57 _ ReflectliteType.typeOf Tryd.func57 (by kernel_rfl) (by kernel_rfl) (by kernel_rfl) (by kernel_rfl)
  have x8 := @run_callFunc_extern Tryd.prog 109 _ (ReflectliteType.relation "AssignableTo" ReflectliteType.assignableTo) Tryd.func109 (by kernel_rfl) (by kernel_rfl) (by kernel_rfl) (by kernel_rfl)
  have x9 := @run_callFunc_extern Tryd.prog 58 _ (ReflectliteValue.method (ReflectliteValue.valueError "reflectlite.Value.Elem" 0) ReflectliteValue.elem) Tryd.func58 (by kernel_rfl) (by kernel_rfl) (by kernel_rfl) (by kernel_rfl)
  have x10 := @run_callFunc_extern Tryd.prog 59 _ ReflectliteValue.set Tryd.func59 (by kernel_rfl) (by kernel_rfl) (by kernel_rfl) (by kernel_rfl)
  have m4 := rlAsg
  have y7 := erN_typeOf
  have y8 := erN_asg
  simp only [rlV, rlH] at y7 y8
  have htl : t < w.heap.size := by
    rcases Nat.lt_or_ge t w.heap.size with h | h
    · exact h
    · simp [World.cell?, Array.getElem?_eq_none h] at ht0
  have hbl : b < w.heap.size := by
    rcases Nat.lt_or_ge b w.heap.size with h | h
    · exact h
    · simp [World.cell?, Array.getElem?_eq_none h] at hb
  obtain ⟨wC, hC⟩ : ∃ wC, w.alloc (.cells #[.pointer (some ⟨3, 54, none⟩), .pointer (some ⟨b, 0, none⟩), .int .u64 150] 75) = wC := ⟨_, rfl⟩
  have zC : wC.heap.size = w.heap.size + 1 := by rw [← hC]; simp
  have bC : Below w.heap.size w wC := by rw [← hC]; exact (Below.refl _ _).alloc (Nat.le_refl _) _
  have v0 : wC.cell? ⟨w.heap.size, 0, none⟩ = some (.pointer (some ⟨3, 54, none⟩)) := by rw [← hC]; simp
  have v1 : wC.cell? ⟨w.heap.size, 1, none⟩ = some (.pointer (some ⟨b, 0, none⟩)) := by rw [← hC]; simp
  have v2 : wC.cell? ⟨w.heap.size, 2, none⟩ = some (.int .u64 150) := by rw [← hC]; simp
  have y0 := erF_typeOf
  have yn := erN_no
  have mU := rlUnw
  have t1 := rlNoAs
  have t2 := rlIsUn
  obtain ⟨wD, hD⟩ : ∃ wD, wC.alloc (.cells #[.int .i64 n, .int .i64 p] 49) = wD := ⟨_, rfl⟩
  have bD : Below wC.heap.size wC wD := by rw [← hD]; exact (Below.refl _ _).alloc (Nat.le_refl _) _
  have bW := bC.trans (bD.mono (by omega))
  have y9 := erN_val n wD
  have el := erN_elemV ⟨b, 0, none⟩ ⟨t, 0, none⟩ wD ((bW.cell (p := ⟨b, _, none⟩) hbl).trans hb)
  obtain ⟨wE, hE⟩ : ∃ wE, wD.alloc (.cells #[.int .i64 n] 41) = wE := ⟨_, rfl⟩
  have bE : Below wD.heap.size wD wE := by rw [← hE]; exact (Below.refl _ _).alloc (Nat.le_refl _) _
  have bX := bW.trans (bE.mono bW.size)
  have st := erN_set ⟨t, 0, none⟩ ⟨wD.heap.size, 0, none⟩ n o0 wE (by rw [← hE]; simp) ((bX.cell (p := ⟨t, _, none⟩) htl).trans ht0) ((bX.frozen (p := ⟨t, 0, none⟩) htl).trans (hf 0))
  rw [hE] at y9
  simp only [rlV, rlH] at y9 el st y0 yn
  have d0 : wD.cell? ⟨w.heap.size, 0, none⟩ = some (.pointer (some ⟨3, 54, none⟩)) := (bD.cell (p := ⟨_, _, none⟩) (by show w.heap.size < _; omega)).trans v0
  have d1 : wD.cell? ⟨w.heap.size, 1, none⟩ = some (.pointer (some ⟨b, 0, none⟩)) := (bD.cell (p := ⟨_, _, none⟩) (by show w.heap.size < _; omega)).trans v1
  have d2 : wD.cell? ⟨w.heap.size, 2, none⟩ = some (.int .u64 150) := (bD.cell (p := ⟨_, _, none⟩) (by show w.heap.size < _; omega)).trans v2
  go_enter Tryd.func36, Tryd.ntmps36
  go_wp2
  refine wp_loop_rounds 2 ?_
  rw [rounds_succ]
  go_wp2_with (go_at_call 99; refine (erUnwrap n p _).mono ?_; rintro e w' ⟨rfl, rfl⟩)
  rw [rounds_succ]
  go_wp2
  go_ret
  exact ⟨rfl, wE, bX, rfl⟩
set_option maxRecDepth 100000 in
set_option maxHeartbeats 8000000 in
/-- a fault, where a fault is wanted -/
theorem erAs_fault (n p : Int) (t : Nat) (o0 o1 : Value) (w : World) (hg : ErT w) (ht0 : w.cell? ⟨t, 0, none⟩ = some o0) (ht1 : w.cell? ⟨t, 1, none⟩ = some o1) (hf : ∀ j, w.frozen? ⟨t, j, none⟩ = false) :
    Calls Tryd.prog 15 #[.iface 49 (.agg #[.int .i64 n, .int .i64 p]), .iface 55 (.pointer (some ⟨t, 0, none⟩))] w fun ev w' => ev = .returned (.bool true) ∧ ∃ w1, Below w.heap.size w w1 ∧ w' = (w1.setCell ⟨t, 0, none⟩ (.int .i64 n)).setCell ⟨t, 1, none⟩ (.int .i64 p) := by
  have x1 := @run_callFunc_extern Tryd.prog 33 _ (fun args => ReflectliteValue.unpack (args.getD 0 (.tuple #[]))) Tryd.func33 (by kernel_rfl) (by kernel_rfl) (by kernel_rfl) (by kernel_rfl)
  have x2 := @run_callFunc_extern Tryd.prog 34 _ (ReflectliteValue.methodAny (ReflectliteValue.valueError "reflectlite.Value.Type" 0) (fun t _ _ _ => ReflectliteType.toType t)) Tryd.func34 (by kernel_rfl) (by kernel_rfl) (by kernel_rfl) (by kernel_rfl)
  have x3 := @run_callFunc_extern Tryd.prog 35 _ (ReflectliteValue.method (ReflectliteValue.valueError "reflectlite.Value.IsNil" 0) ReflectliteValue.isNil) Tryd.func35 (by kernel_rfl) (by kernel_rfl) (by kernel_rfl) (by kernel_rfl)
  have x4 := @run_callFunc_extern Tryd.prog 94 _ (ReflectliteType.abiMethod fun t => do pure (.int .u8 (← Rtype.kind t))) Tryd.func94 (by kernel_rfl) (by kernel_rfl) (by kernel_rfl) (by kernel_rfl)
  have x5 := @run_callFunc_extern Tryd.prog 111 _ (ReflectliteType.method ReflectliteType.elem) Tryd.func111 (by kernel_rfl) (by kernel_rfl) (by kernel_rfl) (by kernel_rfl)
  have x6 := @run_callFunc_extern Tryd.prog 112 _ (ReflectliteType.relation "Implements" ReflectliteType.implements_) Tryd.func112 (by kernel_rfl) (by kernel_rfl) (by kernel_rfl) (by kernel_rfl)
  have x7 := @run_callFunc_extern Tryd.prog 57 _ ReflectliteType.typeOf Tryd.func57 (by kernel_rfl) (by kernel_rfl) (by kernel_rfl) (by kernel_rfl)
  have x8 := @run_callFunc_extern Tryd.prog 109 _ (ReflectliteType.relation "AssignableTo" ReflectliteType.assignableTo) Tryd.func109 (by kernel_rfl) (by kernel_rfl) (by kernel_rfl) (by kernel_rfl)
  have x9 := @run_callFunc_extern Tryd.prog 58 _ (ReflectliteValue.method (ReflectliteValue.valueError "reflectlite.Value.Elem" 0) ReflectliteValue.elem) Tryd.func58 (by kernel_rfl) (by kernel_rfl) (by kernel_rfl) (by kernel_rfl)
  have x10 := @run_callFunc_extern Tryd.prog 59 _ ReflectliteValue.set Tryd.func59 (by kernel_rfl) (by kernel_rfl) (by kernel_rfl) (by kernel_rfl)
  have m1 := rlKind
  have m2 := rlElem
  have m3 := rlImpl
  have m4 := rlAsg
  have y1 := erF_of
  have y2 := erF_type
  have y3 := erF_kindP
  have y4 := erF_kindE
  have y5 := erF_elem
  have y6 := erF_impl
  have y7 := erF_typeOf
  have y8 := erF_asg
  have y9 := erF_val
  simp only [rlV, rlH] at y1 y2 y3 y4 y5 y6 y7 y8 y9
  unfold ErT at hg
  have hlt : 0 < w.heap.size := by
    rcases Nat.lt_or_ge 0 w.heap.size with h | h
    · exact h
    · simp [World.cell?, Array.getElem?_eq_none h] at hg
  have htl : t < w.heap.size := by
    rcases Nat.lt_or_ge t w.heap.size with h | h
    · exact h
    · simp [World.cell?, Array.getElem?_eq_none h] at ht0
  obtain ⟨wA, hA⟩ : ∃ wA, w.alloc (.cells #[.pointer (some ⟨t, 0, none⟩)] 55) = wA := ⟨_, rfl⟩
  obtain ⟨wB, hBB⟩ : ∃ wB, wA.alloc (.cells #[.pointer (some ⟨3, 55, none⟩), .pointer (some ⟨w.heap.size, 0, none⟩), .int .u64 150] 75) = wB := ⟨_, rfl⟩
  have zA : wA.heap.size = w.heap.size + 1 := by rw [← hA]; simp
  have zB : wB.heap.size = w.heap.size + 1 + 1 := by rw [← hBB]; simp [zA]
  have bA : Below w.heap.size w wA := by rw [← hA]; exact (Below.refl _ _).alloc (Nat.le_refl _) _
  have bB : Below wA.heap.size wA wB := by rw [← hBB]; exact (Below.refl _ _).alloc (Nat.le_refl _) _
  have bAB := bA.trans (bB.mono (by omega))
  have hgB : wB.cell? ⟨0, 0, none⟩ = some (.iface 105 (.agg #[.pointer (some ⟨3, 51, none⟩)])) := (bAB.cell (p := ⟨_, _, none⟩) hlt).trans hg
  have kA : wA.cell? ⟨w.heap.size, 0, none⟩ = some (.pointer (some ⟨t, 0, none⟩)) := by rw [← hA]; simp
  have kB : wB.cell? ⟨w.heap.size, 0, none⟩ = some (.pointer (some ⟨t, 0, none⟩)) := (bB.cell (p := ⟨_, _, none⟩) (by show w.heap.size < wA.heap.size; omega)).trans kA
  have n3 := erF_isNil ⟨w.heap.size, 0, none⟩ ⟨t, 0, none⟩ wB kB
  simp only [rlV, rlH] at n3
  have v0 : wB.cell? ⟨w.heap.size + 1, 0, none⟩ = some (.pointer (some ⟨3, 55, none⟩)) := by rw [← hBB, ← zA]; simp
  have v1 : wB.cell? ⟨w.heap.size + 1, 1, none⟩ = some (.pointer (some ⟨w.heap.size, 0, none⟩)) := by rw [← hBB, ← zA]; simp
  have v2 : wB.cell? ⟨w.heap.size + 1, 2, none⟩ = some (.int .u64 150) := by rw [← hBB, ← zA]; simp
  go_enter Tryd.func15, Tryd.ntmps15
  go_wp2_with fail
  refine (erIn_fault n p t w.heap.size o0 o1 wB kB ((bAB.cell (p := ⟨t, _, none⟩) htl).trans ht0) ((bAB.cell (p := ⟨t, _, none⟩) htl).trans ht1) (fun j => (bAB.frozen (p := ⟨t, j, none⟩) htl).trans (hf j))).mono ?_
  rintro e w2 ⟨rfl, w1, h, rfl⟩
  have H := Lib.hid (bAB.trans (h.mono bAB.size))
  clear h
  go_wp2
  go_ret
  exact ⟨rfl, w1, H.out, rfl⟩
set_option maxRecDepth 100000 in
set_option maxHeartbeats 8000000 in
/-- a fault, where a number is wanted -/
theorem erAs_num (n p : Int) (t : Nat) (o0 : Value) (w : World) (hg : ErT w) (ht0 : w.cell? ⟨t, 0, none⟩ = some o0) (hf : ∀ j, w.frozen? ⟨t, j, none⟩ = false) :
    Calls Tryd.prog 15 #[.iface 49 (.agg #[.int .i64 n, .int .i64 p]), .iface 54 (.pointer (some ⟨t, 0, none⟩))] w fun ev w' => ev = .returned (.bool true) ∧ ∃ w1, Below w.heap.size w w1 ∧ w' = w1.setCell ⟨t, 0, none⟩ (.int .i64 n) := by
  have x1 := @run_callFunc_extern Tryd.prog 33 _ (fun args => ReflectliteValue.unpack (args.getD 0 (.tuple #[]))) Tryd.func33 (by kernel_rfl) (by kernel_rfl) (by kernel_rfl) (by kernel_rfl)
  have x2 := @run_callFunc_extern Tryd.prog 34 _ (ReflectliteValue.methodAny (ReflectliteValue.valueError "reflectlite.Value.Type" 0) (fun t _ _ _ => ReflectliteType.toType t)) Tryd.func34 (by kernel_rfl) (by kernel_rfl) (by kernel_rfl) (by kernel_rfl)
  have x3 := @run_callFunc_extern Tryd.prog 35 _ (ReflectliteValue.method (ReflectliteValue.valueError "reflectlite.Value.IsNil" 0) ReflectliteValue.isNil) Tryd.func35 (by kernel_rfl) (by kernel_rfl) (by kernel_rfl) (by kernel_rfl)
  have x4 := @run_callFunc_extern Tryd.prog 94 _ (ReflectliteType.abiMethod fun t => do pure (.int .u8 (← Rtype.kind t))) Tryd.func94 (by kernel_rfl) (by kernel_rfl) (by kernel_rfl) (by kernel_rfl)
  have x5 := @run_callFunc_extern Tryd.prog 111 _ (ReflectliteType.method ReflectliteType.elem) Tryd.func111 (by kernel_rfl) (by kernel_rfl) (by kernel_rfl) (by kernel_rfl)
  have x6 := @run_callFunc_extern Tryd.prog 112 _ (ReflectliteType.relation "Implements" ReflectliteType.implements_) Tryd.func112 (by kernel_rfl) (by kernel_rfl) (by kernel_rfl) (by kernel_rfl)
  have x7 := @run_callFunc_extern Tryd.prog 57 _ ReflectliteType.typeOf Tryd.func57 (by kernel_rfl) (by kernel_rfl) (by kernel_rfl) (by kernel_rfl)
  have x8 := @run_callFunc_extern Tryd.prog 109 _ (ReflectliteType.relation "AssignableTo" ReflectliteType.assignableTo) Tryd.func109 (by kernel_rfl) (by kernel_rfl) (by kernel_rfl) (by kernel_rfl)
  have x9 := @run_callFunc_extern Tryd.prog 58 _ (ReflectliteValue.method (ReflectliteValue.valueError "reflectlite.Value.Elem" 0) ReflectliteValue.elem) Tryd.func58 (by kernel_rfl) (by kernel_rfl) (by kernel_rfl) (by kernel_rfl)
  have x10 := @run_callFunc_extern Tryd.prog 59 _ ReflectliteValue.set Tryd.func59 (by kernel_rfl) (by kernel_rfl) (by kernel_rfl) (by kernel_rfl)
  have m1 := rlKind
  have m2 := rlElem
  have m3 := rlImpl
  have m4 := rlAsg
  have y1 := erN_of
  have y2 := erN_type
  have y3 := erN_kindP
  have y4 := erN_kindE
  have y5 := erN_elem
  have y6 := erN_impl
  have y7 := erN_typeOf
  have y8 := erN_asg
  have y9 := erN_val
  simp only [rlV, rlH] at y1 y2 y3 y4 y5 y6 y7 y8 y9
  unfold ErT at hg
  have hlt : 0 < w.heap.size := by
    rcases Nat.lt_or_ge 0 w.heap.size with h | h
    · exact h
    · simp [World.cell?, Array.getElem?_eq_none h] at hg
  have htl : t < w.heap.size := by
    rcases Nat.lt_or_ge t w.heap.size with h | h
    · exact h
    · simp [World.cell?, Array.getElem?_eq_none h] at ht0
  obtain ⟨wA, hA⟩ : ∃ wA, w.alloc (.cells #[.pointer (some ⟨t, 0, none⟩)] 54) = wA := ⟨_, rfl⟩
  obtain ⟨wB, hBB⟩ : ∃ wB, wA.alloc (.cells #[.pointer (some ⟨3, 54, none⟩), .pointer (some ⟨w.heap.size, 0, none⟩), .int .u64 150] 75) = wB := ⟨_, rfl⟩
  have zA : wA.heap.size = w.heap.size + 1 := by rw [← hA]; simp
  have zB : wB.heap.size = w.heap.size + 1 + 1 := by rw [← hBB]; simp [zA]
  have bA : Below w.heap.size w wA := by rw [← hA]; exact (Below.refl _ _).alloc (Nat.le_refl _) _
  have bB : Below wA.heap.size wA wB := by rw [← hBB]; exact (Below.refl _ _).alloc (Nat.le_refl _) _
  have bAB := bA.trans (bB.mono (by omega))
  have hgB : wB.cell? ⟨0, 0, none⟩ = some (.iface 105 (.agg #[.pointer (some ⟨3, 51, none⟩)])) := (bAB.cell (p := ⟨_, _, none⟩) hlt).trans hg
  have kA : wA.cell? ⟨w.heap.size, 0, none⟩ = some (.pointer (some ⟨t, 0, none⟩)) := by rw [← hA]; simp
  have kB : wB.cell? ⟨w.heap.size, 0, none⟩ = some (.pointer (some ⟨t, 0, none⟩)) := (bB.cell (p := ⟨_, _, none⟩) (by show w.heap.size < wA.heap.size; omega)).trans kA
  have n3 := erN_isNil ⟨w.heap.size, 0, none⟩ ⟨t, 0, none⟩ wB kB
  simp only [rlV, rlH] at n3
  have v0 : wB.cell? ⟨w.heap.size + 1, 0, none⟩ = some (.pointer (some ⟨3, 54, none⟩)) := by rw [← hBB, ← zA]; simp
  have v1 : wB.cell? ⟨w.heap.size + 1, 1, none⟩ = some (.pointer (some ⟨w.heap.size, 0, none⟩)) := by rw [← hBB, ← zA]; simp
  have v2 : wB.cell? ⟨w.heap.size + 1, 2, none⟩ = some (.int .u64 150) := by rw [← hBB, ← zA]; simp
  go_enter Tryd.func15, Tryd.ntmps15
  go_wp2_with fail
  refine (erIn_num n p t w.heap.size o0 wB kB ((bAB.cell (p := ⟨t, _, none⟩) htl).trans ht0) (fun j => (bAB.frozen (p := ⟨t, j, none⟩) htl).trans (hf j))).mono ?_
  rintro e w2 ⟨rfl, w1, h, rfl⟩
  have H := Lib.hid (bAB.trans (h.mono bAB.size))
  clear h
  go_wp2
  go_ret
  exact ⟨rfl, w1, H.out, rfl⟩
end Go.Proofs.YtjbalpmcnihhpaaDoor

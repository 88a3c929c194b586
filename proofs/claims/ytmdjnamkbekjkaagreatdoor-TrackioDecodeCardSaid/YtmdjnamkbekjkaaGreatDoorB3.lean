/- -/
import Derived.Test.YtmdjnamkbekjkaaGreatDoorB2
import Derived.Test.YtmdjnamkbekjkaaGreatDoorCh
import Derived.LaidEql
import Derived.Stop.Asserts
import Derived.RowKitTokens
namespace Go.Proofs.YtmdjnamkbekjkaaGreatDoor
open Go.RowKit
set_option linter.unusedVariables false
set_option linter.unusedSimpArgs false
section
open Go.RowKit Go.Extern.Stop Go.Stop Go.Extern
theorem rlM (z : Sem Value) (f : TypeId → Addr → Nat → Nat → Sem Value) (v : Value) :
  ReflectliteValue.method z f #[v] = (do match ← ReflectliteValue.parts v with | none => z | some (t, a, fl) => f t a fl (fl % 32)) := rfl
theorem rlS (v x : Value) : ReflectliteValue.set #[v, x] = (do
  let (some (dst, a, fl), some (src, b, _)) := (← ReflectliteValue.parts v, ← ReflectliteValue.parts x)
   | unsupported (.noEntry "extern/(internal/reflectlite.Value).Set.zeroValue")
  if fl / ReflectliteValue.flagAddr % 2 == 0 then unsupported (.noEntry "extern/(internal/reflectlite.Value).Set.unaddressable")
  let val ← loadVar src b
  if ← Rtype.directlyAssignable dst src then storeVar dst a val
  else if ← Rtype.implements dst src then
   if (← Rtype.kind src) == 20 then
    match val with
    | .nilIface => unsupported (.noEntry "extern/reflectlite: a nil value of one interface type handed on as a value of another")
    | _ => storeVar dst a val
   else storeVar dst a (.iface src val)
  else panicString ("reflectlite.Set: value of type " ++ (← Rtype.spelt src) ++ " is not assignable to type " ++ (← Rtype.spelt dst))
  pure (.tuple #[])) := rfl
def rlH (t : Nat) : Value := .pointer (some ⟨3, t, none⟩)
def rlV (t : Nat) (a : Addr) (f : Int) : Value := .agg #[rlH t, .pointer (some a), .int .u64 f]
theorem erN_of (t : Addr) (w : World) : (ReflectliteValue.unpack (.iface 84 (.pointer (some t)))).run Tryz.prog w = .ok (rlV 84 ⟨w.heap.size, 0, none⟩ 150) (w.alloc (.cells #[.pointer (some t)] 84)) := by kernel_rfl
theorem erN_type (a : Addr) (w : World) : (ReflectliteValue.methodAny (ReflectliteValue.valueError "reflectlite.Value.Type" 0) (fun t _ _ _ => ReflectliteType.toType t) #[rlV 84 a 150]).run Tryz.prog w = .ok (.iface 184 (.agg #[rlH 84])) w := by kernel_rfl
theorem erN_kindP (w : World) : ((ReflectliteType.abiMethod fun t => (fun a : Nat => Value.int IntKind.u8 (a : Int)) <$> Rtype.kind t) #[rlH 84]).run Tryz.prog w = .ok (.int .u8 22) w := by kernel_rfl
theorem erN_kindE (w : World) : ((ReflectliteType.abiMethod fun t => (fun a : Nat => Value.int IntKind.u8 (a : Int)) <$> Rtype.kind t) #[rlH 37]).run Tryz.prog w = .ok (.int .u8 2) w := by kernel_rfl
theorem erN_partsP (a : Addr) (w : World) : (ReflectliteValue.parts (rlV 84 a 150)).run Tryz.prog w = .ok (some (84, a, 150)) w := by kernel_rfl
theorem erN_isNil (a p : Addr) (W : World) (ha : W.cell? a = some (.pointer (some p))) :
  (ReflectliteValue.method (ReflectliteValue.valueError "reflectlite.Value.IsNil" 0) ReflectliteValue.isNil #[rlV 84 a 150]).run Tryz.prog W = .ok (.bool false) W := by
 rw [rlM]
 simp only [Sem.run_bind, erN_partsP, Result.andThen]
 simp [ReflectliteValue.isNil, loadVar, isAgg, underlying, Tryz.underlying84, ha, Result.andThen]
theorem erN_elem (w : World) : (ReflectliteType.method ReflectliteType.elem #[.agg #[rlH 84]]).run Tryz.prog w = .ok (.iface 184 (.agg #[rlH 37])) w := by kernel_rfl
theorem erN_impl (w : World) : (ReflectliteType.relation "Implements" ReflectliteType.implements_ #[.agg #[rlH 37], .iface 184 (.agg #[rlH 81])]).run Tryz.prog w = .ok (.bool true) w := by kernel_rfl
theorem erN_typeOf (v : Value) (w : World) : (ReflectliteType.typeOf #[.iface 37 v]).run Tryz.prog w = .ok (.iface 184 (.agg #[rlH 37])) w := by kernel_rfl
theorem erN_asg (w : World) : (ReflectliteType.relation "AssignableTo" ReflectliteType.assignableTo #[.agg #[rlH 37], .iface 184 (.agg #[rlH 37])]).run Tryz.prog w = .ok (.bool true) w := by kernel_rfl
theorem erN_elemOf (w : World) : (Rtype.elem? 84).run Tryz.prog w = .ok (some 37) w := by kernel_rfl
theorem erN_mk (p : Addr) (w : World) : (ReflectliteValue.mk 37 p ReflectliteValue.flagAddr).run Tryz.prog w = .ok (rlV 37 p 386) w := by kernel_rfl
theorem erN_elemV (a p : Addr) (W : World) (ha : W.cell? a = some (.pointer (some p))) :
  (ReflectliteValue.method (ReflectliteValue.valueError "reflectlite.Value.Elem" 0) ReflectliteValue.elem #[rlV 84 a 150]).run Tryz.prog W = .ok (rlV 37 p 386) W := by
 rw [rlM]
 simp only [Sem.run_bind, erN_partsP, Result.andThen]
 simp [ReflectliteValue.elem, loadVar, isAgg, underlying, Tryz.underlying84, ha, Result.andThen, erN_elemOf, erN_mk]
theorem erN_partsA (a : Addr) (w : World) : (ReflectliteValue.parts (rlV 37 a 386)).run Tryz.prog w = .ok (some (37, a, 386)) w := by kernel_rfl
theorem erN_partsV (a : Addr) (w : World) : (ReflectliteValue.parts (rlV 37 a 130)).run Tryz.prog w = .ok (some (37, a, 130)) w := by kernel_rfl
theorem erN_direct (w : World) : (Rtype.directlyAssignable 37 37).run Tryz.prog w = .ok true w := by kernel_rfl
theorem erN_size (w : World) : (sizeOf 37).run Tryz.prog w = .ok 1 w := by kernel_rfl
theorem erF_of (t : Addr) (w : World) : (ReflectliteValue.unpack (.iface 85 (.pointer (some t)))).run Tryz.prog w = .ok (rlV 85 ⟨w.heap.size, 0, none⟩ 150) (w.alloc (.cells #[.pointer (some t)] 85)) := by kernel_rfl
theorem erF_type (a : Addr) (w : World) : (ReflectliteValue.methodAny (ReflectliteValue.valueError "reflectlite.Value.Type" 0) (fun t _ _ _ => ReflectliteType.toType t) #[rlV 85 a 150]).run Tryz.prog w = .ok (.iface 184 (.agg #[rlH 85])) w := by kernel_rfl
theorem erF_kindP (w : World) : ((ReflectliteType.abiMethod fun t => (fun a : Nat => Value.int IntKind.u8 (a : Int)) <$> Rtype.kind t) #[rlH 85]).run Tryz.prog w = .ok (.int .u8 22) w := by kernel_rfl
theorem erF_kindE (w : World) : ((ReflectliteType.abiMethod fun t => (fun a : Nat => Value.int IntKind.u8 (a : Int)) <$> Rtype.kind t) #[rlH 79]).run Tryz.prog w = .ok (.int .u8 25) w := by kernel_rfl
theorem erF_partsP (a : Addr) (w : World) : (ReflectliteValue.parts (rlV 85 a 150)).run Tryz.prog w = .ok (some (85, a, 150)) w := by kernel_rfl
theorem erF_isNil (a p : Addr) (W : World) (ha : W.cell? a = some (.pointer (some p))) :
  (ReflectliteValue.method (ReflectliteValue.valueError "reflectlite.Value.IsNil" 0) ReflectliteValue.isNil #[rlV 85 a 150]).run Tryz.prog W = .ok (.bool false) W := by
 rw [rlM]
 simp only [Sem.run_bind, erF_partsP, Result.andThen]
 simp [ReflectliteValue.isNil, loadVar, isAgg, underlying, Tryz.underlying85, ha, Result.andThen]
theorem erF_elem (w : World) : (ReflectliteType.method ReflectliteType.elem #[.agg #[rlH 85]]).run Tryz.prog w = .ok (.iface 184 (.agg #[rlH 79])) w := by kernel_rfl
theorem erF_impl (w : World) : (ReflectliteType.relation "Implements" ReflectliteType.implements_ #[.agg #[rlH 79], .iface 184 (.agg #[rlH 81])]).run Tryz.prog w = .ok (.bool true) w := by kernel_rfl
theorem erF_typeOf (v : Value) (w : World) : (ReflectliteType.typeOf #[.iface 79 v]).run Tryz.prog w = .ok (.iface 184 (.agg #[rlH 79])) w := by kernel_rfl
theorem erF_asg (w : World) : (ReflectliteType.relation "AssignableTo" ReflectliteType.assignableTo #[.agg #[rlH 79], .iface 184 (.agg #[rlH 79])]).run Tryz.prog w = .ok (.bool true) w := by kernel_rfl
theorem erF_elemOf (w : World) : (Rtype.elem? 85).run Tryz.prog w = .ok (some 79) w := by kernel_rfl
theorem erF_mk (p : Addr) (w : World) : (ReflectliteValue.mk 79 p ReflectliteValue.flagAddr).run Tryz.prog w = .ok (rlV 79 p 409) w := by kernel_rfl
theorem erF_elemV (a p : Addr) (W : World) (ha : W.cell? a = some (.pointer (some p))) :
  (ReflectliteValue.method (ReflectliteValue.valueError "reflectlite.Value.Elem" 0) ReflectliteValue.elem #[rlV 85 a 150]).run Tryz.prog W = .ok (rlV 79 p 409) W := by
 rw [rlM]
 simp only [Sem.run_bind, erF_partsP, Result.andThen]
 simp [ReflectliteValue.elem, loadVar, isAgg, underlying, Tryz.underlying85, ha, Result.andThen, erF_elemOf, erF_mk]
theorem erF_partsA (a : Addr) (w : World) : (ReflectliteValue.parts (rlV 79 a 409)).run Tryz.prog w = .ok (some (79, a, 409)) w := by kernel_rfl
theorem erF_partsV (a : Addr) (w : World) : (ReflectliteValue.parts (rlV 79 a 153)).run Tryz.prog w = .ok (some (79, a, 153)) w := by kernel_rfl
theorem erF_direct (w : World) : (Rtype.directlyAssignable 79 79).run Tryz.prog w = .ok true w := by kernel_rfl
theorem erF_size (w : World) : (sizeOf 79).run Tryz.prog w = .ok 2 w := by kernel_rfl
theorem erN_val (n : Int) (w : World) : (ReflectliteValue.unpack (.iface 37 (.int .i64 n))).run Tryz.prog w = .ok (rlV 37 ⟨w.heap.size, 0, none⟩ 130) (w.alloc (.cells #[.int .i64 n] 37)) := by kernel_rfl
theorem erF_val (n p : Int) (w : World) : (ReflectliteValue.unpack (.iface 79 (.agg #[.int .i64 n, .int .i64 p]))).run Tryz.prog w = .ok (rlV 79 ⟨w.heap.size, 0, none⟩ 153) (w.alloc (.cells #[.int .i64 n, .int .i64 p] 79)) := by kernel_rfl
theorem erN_set (ta b : Addr) (n : Int) (old : Value) (W : World) (hb : W.cell? b = some (.int .i64 n)) (ht : W.cell? ta = some old) (hf : W.frozen? ta = false) :
  (ReflectliteValue.set #[rlV 37 ta 386, rlV 37 b 130]).run Tryz.prog W = .ok (.tuple #[]) (W.setCell ta (.int .i64 n)) := by
 rw [rlS]
 simp only [Sem.run_bind, erN_partsA, erN_partsV, Result.andThen]
 simp [ReflectliteValue.flagAddr, loadVar, isAgg, underlying, Tryz.underlying37, hb, Result.andThen, erN_direct, erN_size, storeVar, Value.cells, storeCells, Addr.add]
 rw [run_store Tryz.prog W ta _ _ (by rfl)]
 simp [ht, hf]
theorem erF_set (ta b : Nat) (n p : Int) (o0 o1 : Value) (W : World) (hb : W.cell? ⟨b, 0, none⟩ = some (.int .i64 n)) (hb1 : W.cell? ⟨b, 1, none⟩ = some (.int .i64 p)) (ht : W.cell? ⟨ta, 0, none⟩ = some o0) (ht1 : W.cell? ⟨ta, 1, none⟩ = some o1) (hf : ∀ j, W.frozen? ⟨ta, j, none⟩ = false) :
  (ReflectliteValue.set #[rlV 79 ⟨ta, 0, none⟩ 409, rlV 79 ⟨b, 0, none⟩ 153]).run Tryz.prog W = .ok (.tuple #[]) ((W.setCell ⟨ta, 0, none⟩ (.int .i64 n)).setCell ⟨ta, 1, none⟩ (.int .i64 p)) := by
 rw [rlS]
 simp only [Sem.run_bind, erF_partsA, erF_partsV, Result.andThen]
 have hl : (loadVar 79 ⟨b, 0, none⟩).run Tryz.prog W = .ok (.agg #[.int .i64 n, .int .i64 p]) W := by
  simp [loadVar, isAgg, underlying, Tryz.underlying79, Result.andThen, erF_size, loadCells, loadCellsFrom, Addr.add, hb, hb1]
 simp [ReflectliteValue.flagAddr, hl, Result.andThen, erF_direct, erF_size, storeVar, Value.cells, storeCells, Addr.add]
 rw [run_store Tryz.prog W ⟨ta, 0, none⟩ _ _ (by rfl)]
 simp [ht, hf, Result.andThen]
 rw [run_store Tryz.prog _ ⟨ta, 1, none⟩ _ _ (by rfl)]
 have h2 : (W.setCell ⟨ta, 0, none⟩ (.int .i64 n)).cell? ⟨ta, 1, none⟩ = some o1 := (World.cell?_setCell_other _ _ _ _ (by simp)).trans ht1
 simp [h2, hf]
end
section
open Go.RowKit Go.Extern.Stop Go.Stop Go.Extern
theorem erAs_nil (t : Value) (w : World) :
  Calls Tryz.prog 40 #[.nilIface, t] w fun e w' => e = .returned (.bool false) ∧ w' = w := by
 go_enter Tryz.func40, Tryz.ntmps40
 go_wp2
 go_ret
 exact ⟨rfl, rfl⟩
theorem erUnwrap (n p : Int) (w : World) :
  Calls Tryz.prog 211 #[.agg #[.int .i64 n, .int .i64 p]] w fun e w' => e = .returned (.iface 37 (.int .i64 n)) ∧ w' = w.alloc (.cells #[.int .i64 n, .int .i64 p] 79) := by
 go_enter Tryz.func211, Tryz.ntmps211
 go_wp2
 go_ret
 exact ⟨rfl, rfl⟩
theorem erN_no (w : World) : (ReflectliteType.relation "AssignableTo" ReflectliteType.assignableTo #[.agg #[rlH 79], .iface 184 (.agg #[rlH 37])]).run Tryz.prog w = .ok (.bool false) w := by kernel_rfl
theorem rlKind (h : Value) (w : World) : (Go.method 378 184 (.agg #[h]) "Kind").run Tryz.prog w = .ok (206, h) w := by kernel_rfl
theorem rlElem (h : Value) (w : World) : (Go.method 378 184 (.agg #[h]) "Elem").run Tryz.prog w = .ok (223, .agg #[h]) w := by kernel_rfl
theorem rlImpl (h : Value) (w : World) : (Go.method 378 184 (.agg #[h]) "Implements").run Tryz.prog w = .ok (224, .agg #[h]) w := by kernel_rfl
theorem rlAsg (h : Value) (w : World) : (Go.method 378 184 (.agg #[h]) "AssignableTo").run Tryz.prog w = .ok (221, .agg #[h]) w := by kernel_rfl
theorem rlUnw (n p : Int) (w : World) : (Go.method 378 79 (.agg #[.int .i64 n, .int .i64 p]) "Unwrap").run Tryz.prog w = .ok (211, .agg #[.int .i64 n, .int .i64 p]) w := by kernel_rfl
theorem rlNoAs (v : Value) (xT : TypeId) (w : World) : (Instr.typeAssert (.iface 79 v) xT 189 true).run Tryz.prog w = .ok (.tuple #[.nilIface, .bool false]) w :=
 run_typeAssert_lacksB Tryz.underlying189 (by kernel_rfl) (by kernel_rfl) v xT w
theorem rlIsUn (v : Value) (xT : TypeId) (w : World) : (Instr.typeAssert (.iface 79 v) xT 192 true).run Tryz.prog w = .ok (.tuple #[.iface 79 v, .bool true]) w :=
 run_typeAssert_hasB Tryz.underlying192 (by kernel_rfl) v xT w
set_option maxRecDepth 100000 in
set_option maxHeartbeats 8000000 in
theorem erIn_fault (n p : Int) (t b : Nat) (o0 o1 : Value) (w : World) (hb : w.cell? ⟨b, 0, none⟩ = some (.pointer (some ⟨t, 0, none⟩))) (ht0 : w.cell? ⟨t, 0, none⟩ = some o0) (ht1 : w.cell? ⟨t, 1, none⟩ = some o1) (hf : ∀ j, w.frozen? ⟨t, j, none⟩ = false) :
  Calls Tryz.prog 93 #[.iface 79 (.agg #[.int .i64 n, .int .i64 p]), .iface 85 (.pointer (some ⟨t, 0, none⟩)), .agg #[.pointer (some ⟨3, 85, none⟩), .pointer (some ⟨b, 0, none⟩), .int .u64 150], .iface 184 (.agg #[.pointer (some ⟨3, 79, none⟩)])] w fun ev w' => ev = .returned (.bool true) ∧ ∃ w1, Below w.heap.size w w1 ∧ w' = (w1.setCell ⟨t, 0, none⟩ (.int .i64 n)).setCell ⟨t, 1, none⟩ (.int .i64 p) := by
 have x1 := @run_callFunc_extern Tryz.prog 90 _ (fun args => ReflectliteValue.unpack (args.getD 0 (.tuple #[]))) Tryz.func90 (by kernel_rfl) (by kernel_rfl) (by kernel_rfl) (by kernel_rfl)
 have x7 := @run_callFunc_extern Tryz.prog 138 _ ReflectliteType.typeOf Tryz.func138 (by kernel_rfl) (by kernel_rfl) (by kernel_rfl) (by kernel_rfl)
 have x8 := @run_callFunc_extern Tryz.prog 221 _ (ReflectliteType.relation "AssignableTo" ReflectliteType.assignableTo) Tryz.func221 (by kernel_rfl) (by kernel_rfl) (by kernel_rfl) (by kernel_rfl)
 have x9 := @run_callFunc_extern Tryz.prog 139 _ (ReflectliteValue.method (ReflectliteValue.valueError "reflectlite.Value.Elem" 0) ReflectliteValue.elem) Tryz.func139 (by kernel_rfl) (by kernel_rfl) (by kernel_rfl) (by kernel_rfl)
 have x10 := @run_callFunc_extern Tryz.prog 140 _ ReflectliteValue.set Tryz.func140 (by kernel_rfl) (by kernel_rfl) (by kernel_rfl) (by kernel_rfl)
 have m4 := rlAsg
 have y7 := erF_typeOf
 have y8 := erF_asg
 simp only [rlV, rlH] at y7 y8
 have htl : t < w.heap.size := by
  rcases Nat.lt_or_ge t w.heap.size with h | h
  ·exact h
  ·simp [World.cell?, Array.getElem?_eq_none h] at ht0
 have hbl : b < w.heap.size := by
  rcases Nat.lt_or_ge b w.heap.size with h | h
  ·exact h
  ·simp [World.cell?, Array.getElem?_eq_none h] at hb
 obtain ⟨wC, hC⟩ : ∃ wC, w.alloc (.cells #[.pointer (some ⟨3, 85, none⟩), .pointer (some ⟨b, 0, none⟩), .int .u64 150] 136) = wC := ⟨_, rfl⟩
 have zC : wC.heap.size = w.heap.size + 1 := by rw [← hC]; simp
 have bC : Below w.heap.size w wC := by rw [← hC]; exact (Below.refl _ _).alloc (Nat.le_refl _) _
 have v0 : wC.cell? ⟨w.heap.size, 0, none⟩ = some (.pointer (some ⟨3, 85, none⟩)) := by rw [← hC]; simp
 have v1 : wC.cell? ⟨w.heap.size, 1, none⟩ = some (.pointer (some ⟨b, 0, none⟩)) := by rw [← hC]; simp
 have v2 : wC.cell? ⟨w.heap.size, 2, none⟩ = some (.int .u64 150) := by rw [← hC]; simp
 have y9 := erF_val n p wC
 have el := erF_elemV ⟨b, 0, none⟩ ⟨t, 0, none⟩ wC ((bC.cell (p := ⟨b, _, none⟩) hbl).trans hb)
 obtain ⟨wD, hD⟩ : ∃ wD, wC.alloc (.cells #[.int .i64 n, .int .i64 p] 79) = wD := ⟨_, rfl⟩
 have bD : Below wC.heap.size wC wD := by rw [← hD]; exact (Below.refl _ _).alloc (Nat.le_refl _) _
 have bW := bC.trans (bD.mono (by omega))
 have st := erF_set t wC.heap.size n p o0 o1 wD (by rw [← hD]; simp) (by rw [← hD]; simp) ((bW.cell (p := ⟨t, _, none⟩) htl).trans ht0) ((bW.cell (p := ⟨t, _, none⟩) htl).trans ht1) (fun j => (bW.frozen (p := ⟨t, j, none⟩) htl).trans (hf j))
 rw [hD] at y9
 simp only [rlV, rlH] at y9 el st
 rw [zC] at st
 go_enter Tryz.func93, Tryz.ntmps93
 go_wp2
 refine wp_loop_rounds 1 ?_
 rw [rounds_succ]
 go_wp2
 go_ret
 exact ⟨rfl, wD, bW, rfl⟩
set_option maxRecDepth 100000 in
set_option maxHeartbeats 8000000 in
theorem erIn_num (n p : Int) (t b : Nat) (o0 : Value) (w : World) (hb : w.cell? ⟨b, 0, none⟩ = some (.pointer (some ⟨t, 0, none⟩))) (ht0 : w.cell? ⟨t, 0, none⟩ = some o0) (hf : ∀ j, w.frozen? ⟨t, j, none⟩ = false) :
  Calls Tryz.prog 93 #[.iface 79 (.agg #[.int .i64 n, .int .i64 p]), .iface 84 (.pointer (some ⟨t, 0, none⟩)), .agg #[.pointer (some ⟨3, 84, none⟩), .pointer (some ⟨b, 0, none⟩), .int .u64 150], .iface 184 (.agg #[.pointer (some ⟨3, 37, none⟩)])] w fun ev w' => ev = .returned (.bool true) ∧ ∃ w1, Below w.heap.size w w1 ∧ w' = w1.setCell ⟨t, 0, none⟩ (.int .i64 n) := by
 have x1 := @run_callFunc_extern Tryz.prog 90 _ (fun args => ReflectliteValue.unpack (args.getD 0 (.tuple #[]))) Tryz.func90 (by kernel_rfl) (by kernel_rfl) (by kernel_rfl) (by kernel_rfl)
 have x7 := @run_callFunc_extern Tryz.prog 138 _ ReflectliteType.typeOf Tryz.func138 (by kernel_rfl) (by kernel_rfl) (by kernel_rfl) (by kernel_rfl)
 have x8 := @run_callFunc_extern Tryz.prog 221 _ (ReflectliteType.relation "AssignableTo" ReflectliteType.assignableTo) Tryz.func221 (by kernel_rfl) (by kernel_rfl) (by kernel_rfl) (by kernel_rfl)
 have x9 := @run_callFunc_extern Tryz.prog 139 _ (ReflectliteValue.method (ReflectliteValue.valueError "reflectlite.Value.Elem" 0) ReflectliteValue.elem) Tryz.func139 (by kernel_rfl) (by kernel_rfl) (by kernel_rfl) (by kernel_rfl)
 have x10 := @run_callFunc_extern Tryz.prog 140 _ ReflectliteValue.set Tryz.func140 (by kernel_rfl) (by kernel_rfl) (by kernel_rfl) (by kernel_rfl)
 have m4 := rlAsg
 have y7 := erN_typeOf
 have y8 := erN_asg
 simp only [rlV, rlH] at y7 y8
 have htl : t < w.heap.size := by
  rcases Nat.lt_or_ge t w.heap.size with h | h
  ·exact h
  ·simp [World.cell?, Array.getElem?_eq_none h] at ht0
 have hbl : b < w.heap.size := by
  rcases Nat.lt_or_ge b w.heap.size with h | h
  ·exact h
  ·simp [World.cell?, Array.getElem?_eq_none h] at hb
 obtain ⟨wC, hC⟩ : ∃ wC, w.alloc (.cells #[.pointer (some ⟨3, 84, none⟩), .pointer (some ⟨b, 0, none⟩), .int .u64 150] 136) = wC := ⟨_, rfl⟩
 have zC : wC.heap.size = w.heap.size + 1 := by rw [← hC]; simp
 have bC : Below w.heap.size w wC := by rw [← hC]; exact (Below.refl _ _).alloc (Nat.le_refl _) _
 have v0 : wC.cell? ⟨w.heap.size, 0, none⟩ = some (.pointer (some ⟨3, 84, none⟩)) := by rw [← hC]; simp
 have v1 : wC.cell? ⟨w.heap.size, 1, none⟩ = some (.pointer (some ⟨b, 0, none⟩)) := by rw [← hC]; simp
 have v2 : wC.cell? ⟨w.heap.size, 2, none⟩ = some (.int .u64 150) := by rw [← hC]; simp
 have y0 := erF_typeOf
 have yn := erN_no
 have mU := rlUnw
 have t1 := rlNoAs
 have t2 := rlIsUn
 obtain ⟨wD, hD⟩ : ∃ wD, wC.alloc (.cells #[.int .i64 n, .int .i64 p] 79) = wD := ⟨_, rfl⟩
 have bD : Below wC.heap.size wC wD := by rw [← hD]; exact (Below.refl _ _).alloc (Nat.le_refl _) _
 have bW := bC.trans (bD.mono (by omega))
 have y9 := erN_val n wD
 have el := erN_elemV ⟨b, 0, none⟩ ⟨t, 0, none⟩ wD ((bW.cell (p := ⟨b, _, none⟩) hbl).trans hb)
 obtain ⟨wE, hE⟩ : ∃ wE, wD.alloc (.cells #[.int .i64 n] 37) = wE := ⟨_, rfl⟩
 have bE : Below wD.heap.size wD wE := by rw [← hE]; exact (Below.refl _ _).alloc (Nat.le_refl _) _
 have bX := bW.trans (bE.mono bW.size)
 have st := erN_set ⟨t, 0, none⟩ ⟨wD.heap.size, 0, none⟩ n o0 wE (by rw [← hE]; simp) ((bX.cell (p := ⟨t, _, none⟩) htl).trans ht0) ((bX.frozen (p := ⟨t, 0, none⟩) htl).trans (hf 0))
 rw [hE] at y9
 simp only [rlV, rlH] at y9 el st y0 yn
 have d0 : wD.cell? ⟨w.heap.size, 0, none⟩ = some (.pointer (some ⟨3, 84, none⟩)) := (bD.cell (p := ⟨_, _, none⟩) (by show w.heap.size < _; omega)).trans v0
 have d1 : wD.cell? ⟨w.heap.size, 1, none⟩ = some (.pointer (some ⟨b, 0, none⟩)) := (bD.cell (p := ⟨_, _, none⟩) (by show w.heap.size < _; omega)).trans v1
 have d2 : wD.cell? ⟨w.heap.size, 2, none⟩ = some (.int .u64 150) := (bD.cell (p := ⟨_, _, none⟩) (by show w.heap.size < _; omega)).trans v2
 go_enter Tryz.func93, Tryz.ntmps93
 go_wp2
 refine wp_loop_rounds 2 ?_
 rw [rounds_succ]
 go_wp2_with (go_at_call 211; refine (erUnwrap n p _).mono ?_; rintro e w' ⟨rfl, rfl⟩)
 rw [rounds_succ]
 go_wp2
 go_ret
 exact ⟨rfl, wE, bX, rfl⟩
set_option maxRecDepth 100000 in
set_option maxHeartbeats 8000000 in
theorem erAs_fault (n p : Int) (t : Nat) (o0 o1 : Value) (w : World) (hg : ErT w) (ht0 : w.cell? ⟨t, 0, none⟩ = some o0) (ht1 : w.cell? ⟨t, 1, none⟩ = some o1) (hf : ∀ j, w.frozen? ⟨t, j, none⟩ = false) :
  Calls Tryz.prog 40 #[.iface 79 (.agg #[.int .i64 n, .int .i64 p]), .iface 85 (.pointer (some ⟨t, 0, none⟩))] w fun ev w' => ev = .returned (.bool true) ∧ ∃ w1, Below w.heap.size w w1 ∧ w' = (w1.setCell ⟨t, 0, none⟩ (.int .i64 n)).setCell ⟨t, 1, none⟩ (.int .i64 p) := by
 have x1 := @run_callFunc_extern Tryz.prog 90 _ (fun args => ReflectliteValue.unpack (args.getD 0 (.tuple #[]))) Tryz.func90 (by kernel_rfl) (by kernel_rfl) (by kernel_rfl) (by kernel_rfl)
 have x2 := @run_callFunc_extern Tryz.prog 91 _ (ReflectliteValue.methodAny (ReflectliteValue.valueError "reflectlite.Value.Type" 0) (fun t _ _ _ => ReflectliteType.toType t)) Tryz.func91 (by kernel_rfl) (by kernel_rfl) (by kernel_rfl) (by kernel_rfl)
 have x3 := @run_callFunc_extern Tryz.prog 92 _ (ReflectliteValue.method (ReflectliteValue.valueError "reflectlite.Value.IsNil" 0) ReflectliteValue.isNil) Tryz.func92 (by kernel_rfl) (by kernel_rfl) (by kernel_rfl) (by kernel_rfl)
 have x4 := @run_callFunc_extern Tryz.prog 206 _ (ReflectliteType.abiMethod fun t => do pure (.int .u8 (← Rtype.kind t))) Tryz.func206 (by kernel_rfl) (by kernel_rfl) (by kernel_rfl) (by kernel_rfl)
 have x5 := @run_callFunc_extern Tryz.prog 223 _ (ReflectliteType.method ReflectliteType.elem) Tryz.func223 (by kernel_rfl) (by kernel_rfl) (by kernel_rfl) (by kernel_rfl)
 have x6 := @run_callFunc_extern Tryz.prog 224 _ (ReflectliteType.relation "Implements" ReflectliteType.implements_) Tryz.func224 (by kernel_rfl) (by kernel_rfl) (by kernel_rfl) (by kernel_rfl)
 have x7 := @run_callFunc_extern Tryz.prog 138 _ ReflectliteType.typeOf Tryz.func138 (by kernel_rfl) (by kernel_rfl) (by kernel_rfl) (by kernel_rfl)
 have x8 := @run_callFunc_extern Tryz.prog 221 _ (ReflectliteType.relation "AssignableTo" ReflectliteType.assignableTo) Tryz.func221 (by kernel_rfl) (by kernel_rfl) (by kernel_rfl) (by kernel_rfl)
 have x9 := @run_callFunc_extern Tryz.prog 139 _ (ReflectliteValue.method (ReflectliteValue.valueError "reflectlite.Value.Elem" 0) ReflectliteValue.elem) Tryz.func139 (by kernel_rfl) (by kernel_rfl) (by kernel_rfl) (by kernel_rfl)
 have x10 := @run_callFunc_extern Tryz.prog 140 _ ReflectliteValue.set Tryz.func140 (by kernel_rfl) (by kernel_rfl) (by kernel_rfl) (by kernel_rfl)
 have m1 := rlKind
 have m2 := rlElem
 have m3 := rlImpl
 have m4 := rlAsg
 have y1 := erF_of
 have y2 := erF_type
 have y3 := erF_kindP
 have y4 := erF_kindE
 have y5 := erF_elem
 have y6 := erF_impl
 have y7 := erF_typeOf
 have y8 := erF_asg
 have y9 := erF_val
 simp only [rlV, rlH] at y1 y2 y3 y4 y5 y6 y7 y8 y9
 unfold ErT at hg
 have hlt : 0 < w.heap.size := by
  rcases Nat.lt_or_ge 0 w.heap.size with h | h
  ·exact h
  ·simp [World.cell?, Array.getElem?_eq_none h] at hg
 have htl : t < w.heap.size := by
  rcases Nat.lt_or_ge t w.heap.size with h | h
  ·exact h
  ·simp [World.cell?, Array.getElem?_eq_none h] at ht0
 obtain ⟨wA, hA⟩ : ∃ wA, w.alloc (.cells #[.pointer (some ⟨t, 0, none⟩)] 85) = wA := ⟨_, rfl⟩
 obtain ⟨wB, hBB⟩ : ∃ wB, wA.alloc (.cells #[.pointer (some ⟨3, 85, none⟩), .pointer (some ⟨w.heap.size, 0, none⟩), .int .u64 150] 136) = wB := ⟨_, rfl⟩
 have zA : wA.heap.size = w.heap.size + 1 := by rw [← hA]; simp
 have zB : wB.heap.size = w.heap.size + 1 + 1 := by rw [← hBB]; simp [zA]
 have bA : Below w.heap.size w wA := by rw [← hA]; exact (Below.refl _ _).alloc (Nat.le_refl _) _
 have bB : Below wA.heap.size wA wB := by rw [← hBB]; exact (Below.refl _ _).alloc (Nat.le_refl _) _
 have bAB := bA.trans (bB.mono (by omega))
 have hgB : wB.cell? ⟨0, 0, none⟩ = some (.iface 184 (.agg #[.pointer (some ⟨3, 81, none⟩)])) := (bAB.cell (p := ⟨_, _, none⟩) hlt).trans hg
 have kA : wA.cell? ⟨w.heap.size, 0, none⟩ = some (.pointer (some ⟨t, 0, none⟩)) := by rw [← hA]; simp
 have kB : wB.cell? ⟨w.heap.size, 0, none⟩ = some (.pointer (some ⟨t, 0, none⟩)) := (bB.cell (p := ⟨_, _, none⟩) (by show w.heap.size < wA.heap.size; omega)).trans kA
 have n3 := erF_isNil ⟨w.heap.size, 0, none⟩ ⟨t, 0, none⟩ wB kB
 simp only [rlV, rlH] at n3
 have v0 : wB.cell? ⟨w.heap.size + 1, 0, none⟩ = some (.pointer (some ⟨3, 85, none⟩)) := by rw [← hBB, ← zA]; simp
 have v1 : wB.cell? ⟨w.heap.size + 1, 1, none⟩ = some (.pointer (some ⟨w.heap.size, 0, none⟩)) := by rw [← hBB, ← zA]; simp
 have v2 : wB.cell? ⟨w.heap.size + 1, 2, none⟩ = some (.int .u64 150) := by rw [← hBB, ← zA]; simp
 go_enter Tryz.func40, Tryz.ntmps40
 go_wp2_with fail
 refine (erIn_fault n p t w.heap.size o0 o1 wB kB ((bAB.cell (p := ⟨t, _, none⟩) htl).trans ht0) ((bAB.cell (p := ⟨t, _, none⟩) htl).trans ht1) (fun j => (bAB.frozen (p := ⟨t, j, none⟩) htl).trans (hf j))).mono ?_
 rintro e w2 ⟨rfl, w1, h, rfl⟩
 have H := Lib.hid (bAB.trans (h.mono bAB.size))
 clear h
 go_wp2
 go_ret
 exact ⟨rfl, w1, H.out, rfl⟩
set_option maxRecDepth 100000 in
set_option maxHeartbeats 8000000 in
theorem erAs_num (n p : Int) (t : Nat) (o0 : Value) (w : World) (hg : ErT w) (ht0 : w.cell? ⟨t, 0, none⟩ = some o0) (hf : ∀ j, w.frozen? ⟨t, j, none⟩ = false) :
  Calls Tryz.prog 40 #[.iface 79 (.agg #[.int .i64 n, .int .i64 p]), .iface 84 (.pointer (some ⟨t, 0, none⟩))] w fun ev w' => ev = .returned (.bool true) ∧ ∃ w1, Below w.heap.size w w1 ∧ w' = w1.setCell ⟨t, 0, none⟩ (.int .i64 n) := by
 have x1 := @run_callFunc_extern Tryz.prog 90 _ (fun args => ReflectliteValue.unpack (args.getD 0 (.tuple #[]))) Tryz.func90 (by kernel_rfl) (by kernel_rfl) (by kernel_rfl) (by kernel_rfl)
 have x2 := @run_callFunc_extern Tryz.prog 91 _ (ReflectliteValue.methodAny (ReflectliteValue.valueError "reflectlite.Value.Type" 0) (fun t _ _ _ => ReflectliteType.toType t)) Tryz.func91 (by kernel_rfl) (by kernel_rfl) (by kernel_rfl) (by kernel_rfl)
 have x3 := @run_callFunc_extern Tryz.prog 92 _ (ReflectliteValue.method (ReflectliteValue.valueError "reflectlite.Value.IsNil" 0) ReflectliteValue.isNil) Tryz.func92 (by kernel_rfl) (by kernel_rfl) (by kernel_rfl) (by kernel_rfl)
 have x4 := @run_callFunc_extern Tryz.prog 206 _ (ReflectliteType.abiMethod fun t => do pure (.int .u8 (← Rtype.kind t))) Tryz.func206 (by kernel_rfl) (by kernel_rfl) (by kernel_rfl) (by kernel_rfl)
 have x5 := @run_callFunc_extern Tryz.prog 223 _ (ReflectliteType.method ReflectliteType.elem) Tryz.func223 (by kernel_rfl) (by kernel_rfl) (by kernel_rfl) (by kernel_rfl)
 have x6 := @run_callFunc_extern Tryz.prog 224 _ (ReflectliteType.relation "Implements" ReflectliteType.implements_) Tryz.func224 (by kernel_rfl) (by kernel_rfl) (by kernel_rfl) (by kernel_rfl)
 have x7 := @run_callFunc_extern Tryz.prog 138 _ ReflectliteType.typeOf Tryz.func138 (by kernel_rfl) (by kernel_rfl) (by kernel_rfl) (by kernel_rfl)
 have x8 := @run_callFunc_extern Tryz.prog 221 _ (ReflectliteType.relation "AssignableTo" ReflectliteType.assignableTo) Tryz.func221 (by kernel_rfl) (by kernel_rfl) (by kernel_rfl) (by kernel_rfl)
 have x9 := @run_callFunc_extern Tryz.prog 139 _ (ReflectliteValue.method (ReflectliteValue.valueError "reflectlite.Value.Elem" 0) ReflectliteValue.elem) Tryz.func139 (by kernel_rfl) (by kernel_rfl) (by kernel_rfl) (by kernel_rfl)
 have x10 := @run_callFunc_extern Tryz.prog 140 _ ReflectliteValue.set Tryz.func140 (by kernel_rfl) (by kernel_rfl) (by kernel_rfl) (by kernel_rfl)
 have m1 := rlKind
 have m2 := rlElem
 have m3 := rlImpl
 have m4 := rlAsg
 have y1 := erN_of
 have y2 := erN_type
 have y3 := erN_kindP
 have y4 := erN_kindE
 have y5 := erN_elem
 have y6 := erN_impl
 have y7 := erN_typeOf
 have y8 := erN_asg
 have y9 := erN_val
 simp only [rlV, rlH] at y1 y2 y3 y4 y5 y6 y7 y8 y9
 unfold ErT at hg
 have hlt : 0 < w.heap.size := by
  rcases Nat.lt_or_ge 0 w.heap.size with h | h
  ·exact h
  ·simp [World.cell?, Array.getElem?_eq_none h] at hg
 have htl : t < w.heap.size := by
  rcases Nat.lt_or_ge t w.heap.size with h | h
  ·exact h
  ·simp [World.cell?, Array.getElem?_eq_none h] at ht0
 obtain ⟨wA, hA⟩ : ∃ wA, w.alloc (.cells #[.pointer (some ⟨t, 0, none⟩)] 84) = wA := ⟨_, rfl⟩
 obtain ⟨wB, hBB⟩ : ∃ wB, wA.alloc (.cells #[.pointer (some ⟨3, 84, none⟩), .pointer (some ⟨w.heap.size, 0, none⟩), .int .u64 150] 136) = wB := ⟨_, rfl⟩
 have zA : wA.heap.size = w.heap.size + 1 := by rw [← hA]; simp
 have zB : wB.heap.size = w.heap.size + 1 + 1 := by rw [← hBB]; simp [zA]
 have bA : Below w.heap.size w wA := by rw [← hA]; exact (Below.refl _ _).alloc (Nat.le_refl _) _
 have bB : Below wA.heap.size wA wB := by rw [← hBB]; exact (Below.refl _ _).alloc (Nat.le_refl _) _
 have bAB := bA.trans (bB.mono (by omega))
 have hgB : wB.cell? ⟨0, 0, none⟩ = some (.iface 184 (.agg #[.pointer (some ⟨3, 81, none⟩)])) := (bAB.cell (p := ⟨_, _, none⟩) hlt).trans hg
 have kA : wA.cell? ⟨w.heap.size, 0, none⟩ = some (.pointer (some ⟨t, 0, none⟩)) := by rw [← hA]; simp
 have kB : wB.cell? ⟨w.heap.size, 0, none⟩ = some (.pointer (some ⟨t, 0, none⟩)) := (bB.cell (p := ⟨_, _, none⟩) (by show w.heap.size < wA.heap.size; omega)).trans kA
 have n3 := erN_isNil ⟨w.heap.size, 0, none⟩ ⟨t, 0, none⟩ wB kB
 simp only [rlV, rlH] at n3
 have v0 : wB.cell? ⟨w.heap.size + 1, 0, none⟩ = some (.pointer (some ⟨3, 84, none⟩)) := by rw [← hBB, ← zA]; simp
 have v1 : wB.cell? ⟨w.heap.size + 1, 1, none⟩ = some (.pointer (some ⟨w.heap.size, 0, none⟩)) := by rw [← hBB, ← zA]; simp
 have v2 : wB.cell? ⟨w.heap.size + 1, 2, none⟩ = some (.int .u64 150) := by rw [← hBB, ← zA]; simp
 go_enter Tryz.func40, Tryz.ntmps40
 go_wp2_with fail
 refine (erIn_num n p t w.heap.size o0 wB kB ((bAB.cell (p := ⟨t, _, none⟩) htl).trans ht0) (fun j => (bAB.frozen (p := ⟨t, j, none⟩) htl).trans (hf j))).mono ?_
 rintro e w2 ⟨rfl, w1, h, rfl⟩
 have H := Lib.hid (bAB.trans (h.mono bAB.size))
 clear h
 go_wp2
 go_ret
 exact ⟨rfl, w1, H.out, rfl⟩
end
theorem fstI_ne {f : Nat → Int} : ∀ {n : Nat}, fstI f n < n → f (fstI f n) ≠ 0
 | 0, h => absurd h (by omega)
 | n + 1, h => by
  rw [show fstI f (n + 1) = if fstI f n < n then fstI f n else if f n = 0 then n + 1 else n from rfl] at h ⊢
  by_cases a : fstI f n < n
  ·rw [if_pos a]; exact fstI_ne a
  ·rw [if_neg a] at h ⊢
   by_cases b : f n = 0
   ·rw [if_pos b] at h; omega
   ·rw [if_neg b]; exact b
noncomputable def prtE (k : Tk) (j : Nat) : Int × Int :=
 if j = 0 then rateE k else if j = 1 then (rightFd k.t, 0) else if j = 2 then (linE k, 0) else if j = 3 then rlsE k else if j = 4 then gtsE k else if j = 5 then staE k else lapE k
theorem rgt_parts (k : Tk) :
  rgtK k = if (rateE k).1 ≠ 0 then rateE k else if rightFd k.t ≠ 0 then (rightFd k.t, 0) else if linE k ≠ 0 then (linE k, 0) else if (rlsE k).1 ≠ 0 then rlsE k else if (gtsE k).1 ≠ 0 then gtsE k else if (staE k).1 ≠ 0 then staE k else if (lapE k).1 ≠ 0 then lapE k else (0, 0) := by
 have hw : waysE k = if (rlsE k).1 ≠ 0 then rlsE k else if (gtsE k).1 ≠ 0 then gtsE k else (0, 0) := by
  have r0 : fstI (fun i => railE (k.R i)) k.t.rn < k.t.rn → railE (k.R (fstI (fun i => railE (k.R i)) k.t.rn)) ≠ 0 := fun h => fstI_ne h
  have g0 : fstI (fun i => gateE (k.G i)) k.t.gn < k.t.gn → gateE (k.G (fstI (fun i => gateE (k.G i)) k.t.gn)) ≠ 0 := fun h => fstI_ne h
  unfold waysE rlsE gtsE
  by_cases h1 : 16 < k.t.rn
  ·simp [h1]
  ·by_cases h2 : fstI (fun i => railE (k.R i)) k.t.rn < k.t.rn
   ·simp [h1, h2, r0 h2]
   ·by_cases h3 : k.t.gn < 1 ∨ 16 < k.t.gn
    ·simp only [if_neg h1, if_neg h2, if_pos h3]; simp
    ·by_cases h4 : fstI (fun i => gateE (k.G i)) k.t.gn < k.t.gn
     ·simp only [if_neg h1, if_neg h2, if_neg h3, if_pos h4]; simp [g0 h4]
     ·simp only [if_neg h1, if_neg h2, if_neg h3, if_neg h4]; simp
 unfold rgtK
 rw [hw]
 unfold rateE linE staE lapE
 by_cases h1 : k.t.rate < 60 ∨ 1024 < k.t.rate
 ·simp [h1]
 by_cases h2 : rightFd k.t = 0
 rotate_left
 ·simp [h1, h2]
 by_cases h3 : lineR k.line.n k.line.x k.line.y = 0
 rotate_left
 ·simp [h1, h2, h3]
 by_cases h4 : hlfN k.line.n k.line.x k.line.y
 rotate_left
 ·simp [h1, h2, h3, h4]
 by_cases h5 : (rlsE k).1 = 0
 rotate_left
 ·simp [h1, h2, h3, h4, h5]
 by_cases h6 : (gtsE k).1 = 0
 rotate_left
 ·simp [h1, h2, h3, h4, h5, h6]
 by_cases h7 : rectP k.t
 rotate_left
 ·simp [h1, h2, h3, h4, h5, h6, h7]
 by_cases h8 : ∀ j, j < barN k k.t.rn → ¬ behP k j
 rotate_left
 ·simp only [if_pos h8]; simp [h1, h2, h3, h4, h5, h6, h7]
 by_cases h9 : k.t.laps < 1 ∨ 100 < k.t.laps
 ·simp only [if_neg (not_not_intro h8)]; simp [h1, h2, h3, h4, h5, h6, h7, h9]
 ·simp only [if_neg (not_not_intro h8)]; simp [h1, h2, h3, h4, h5, h6, h7, h9]
theorem rgt_none {k : Tk} (h : (rgtK k).1 = 0) : rgtK k = (0, 0) := by
 rw [rgt_parts] at h ⊢
 repeat' split at h
 all_goals (first | contradiction | simp_all)
theorem rgt_at {k : Tk} {j : Nat} (hj : j < 7) (h0 : ∀ i, i < j → (prtE k i).1 = 0) (hn : ¬ (prtE k j).1 = 0) : rgtK k = prtE k j := by
 rw [rgt_parts]
 have a0 := fun h => h0 0 h
 have a1 := fun h => h0 1 h
 have a2 := fun h => h0 2 h
 have a3 := fun h => h0 3 h
 have a4 := fun h => h0 4 h
 have a5 := fun h => h0 5 h
 clear h0
 rcases (show j = 0 ∨ j = 1 ∨ j = 2 ∨ j = 3 ∨ j = 4 ∨ j = 5 ∨ j = 6 by omega) with e | e | e | e | e | e | e <;> subst e <;> simp [prtE] at hn a0 a1 a2 a3 a4 a5 ⊢ <;> simp [*]
theorem rgt_zeros {k : Tk} (h0 : ∀ i, i < 7 → (prtE k i).1 = 0) : rgtK k = (0, 0) := by
 rw [rgt_parts]
 have a0 := h0 0 (by omega)
 have a1 := h0 1 (by omega)
 have a2 := h0 2 (by omega)
 have a3 := h0 3 (by omega)
 have a4 := h0 4 (by omega)
 have a5 := h0 5 (by omega)
 have a6 := h0 6 (by omega)
 clear h0
 simp [prtE] at a0 a1 a2 a3 a4 a5 a6 ⊢
 simp [*]
def prtF : List Value := [.func (.func 83) #[] #[], .func (.func 84) #[] #[], .func (.func 85) #[] #[], .func (.func 86) #[] #[], .func (.func 87) #[] #[], .func (.func 88) #[] #[], .func (.func 89) #[] #[]]
set_option maxRecDepth 100000 in
set_option maxHeartbeats 8000000 in
theorem tkFirst_any (k : Tk) (B : Nat) (w : World) (hB : B ≤ w.heap.size) (few : fewR k) (K : TkM B w k) :
  Calls Tryz.prog 39 #[trkV k.t] w fun e w' => e = .returned (erV (rgtK k)) ∧ Below w.heap.size w w' := by
 have Q0 := Lib.hid (PK.new 34 K hB)
 obtain ⟨q, hq⟩ : ∃ q, erV (rgtK k) = q := ⟨_, rfl⟩
 rw [hq]
 have WE := Lib.hid (fun (a : Int × Int) (h : rgtK k = a) => show erV a = q by rw [← hq, h])
 have FW := Lib.hid few
 clear hq K few
 go_enter Tryz.func39, Tryz.ntmps39
 go_wp2_with fail
 refine wp_gen (S := fun W => PK w W B w.heap.size k ∧ BW W (w.heap.size + 1) prtF) ⟨Q0.out.step ((Below.refl _ _).alloc (Nat.le_refl _) _), BW.new _ _ prtF _ (by simp)⟩ (fun W1 hS => ?_)
 have Q1 := Lib.hid hS.1
 have F1 := Lib.hid hS.2
 clear hS Q0
 go_loopw [8] (fun i wr => ∃ j : Nat, j ≤ 7 ∧ i = .int .i64 j ∧ Hid (∀ i, i < j → (prtE k i).1 = 0) ∧ PK w wr B w.heap.size k ∧ BW wr (w.heap.size + 1) prtF) (fun i _ => 7 - (intOf i).toNat)
 case atStart => exact ⟨0, by omega, rfl, Lib.hid (fun i h => absurd h (by omega)), Q1.out, F1.out⟩
 case round =>
  obtain ⟨j, hj, rfl, I, hQ, hF⟩ := hrel
  have Q2 := Lib.hid hQ
  have F2 := Lib.hid hF
  clear hQ hF Q1 F1
  by_cases hlt : j < 7
  ·rcases (show j = 0 ∨ j = 1 ∨ j = 2 ∨ j = 3 ∨ j = 4 ∨ j = 5 ∨ j = 6 by omega) with e | e | e | e | e | e | e
   ·subst e
    have cf := F2.out.c 0 _ rfl
    have cs := tk_of Q2.out.c
    unfold TKc at cs
    obtain ⟨c00, c01, c02, c03, c04, c05, c06, c07, c08, c09, c10, c11, c12, c13, c14, c15⟩ := cs
    have pv : prtE k 0 = rateE k := rfl
    (try rw [show ((0 : Nat) : Int) = 0 from rfl])
    go_wp2_with fail
    refine (tkRate_any k B _ Q2.out.bz Q2.out.t).mono ?_
    rintro e w3 ⟨rfl, h⟩
    have Q3 := Lib.hid (Q2.out.step h)
    have F3 := Lib.hid (F2.out.below h F2.out.lt)
    clear h Q2 F2 cf c00 c01 c02 c03 c04 c05 c06 c07 c08 c09 c10 c11 c12 c13 c14 c15
    by_cases hz : (rateE k).1 = 0
    ·have I2 := Lib.hid (all_next' (P := fun i => (prtE k i).1 = 0) I.out (by rw [pv]; exact hz))
     rw [erV_no hz]
     clear hz pv I WE
     go_wp2
     go_roundw
     case rel => exact ⟨0 + 1, by omega, by go_num, I2, Q3.out, F3.out⟩
     case measure => simp [intOf]
    ·have E := Lib.hid (WE.out _ ((rgt_at (by omega) I.out (by rw [pv]; exact hz)).trans pv))
     rw [erV_is hz] at E ⊢
     clear hz pv I WE
     go_wp2
     go_ret
     exact ⟨by rw [← E.out]; rfl, Q3.out.l⟩
   ·subst e
    have cf := F2.out.c 1 _ rfl
    have cs := tk_of Q2.out.c
    unfold TKc at cs
    obtain ⟨c00, c01, c02, c03, c04, c05, c06, c07, c08, c09, c10, c11, c12, c13, c14, c15⟩ := cs
    have pv : prtE k 1 = (rightFd k.t, (0 : Int)) := rfl
    (try rw [show ((1 : Nat) : Int) = 1 from rfl])
    go_wp2_with fail
    refine (tkGround_any k B _ Q2.out.bz Q2.out.t).mono ?_
    rintro e w3 ⟨rfl, h⟩
    have Q3 := Lib.hid (Q2.out.step h)
    have F3 := Lib.hid (F2.out.below h F2.out.lt)
    clear h Q2 F2 cf c00 c01 c02 c03 c04 c05 c06 c07 c08 c09 c10 c11 c12 c13 c14 c15
    by_cases hz : ((rightFd k.t, (0 : Int))).1 = 0
    ·have I2 := Lib.hid (all_next' (P := fun i => (prtE k i).1 = 0) I.out (by rw [pv]; exact hz))
     rw [erV_no hz]
     clear hz pv I WE
     go_wp2
     go_roundw
     case rel => exact ⟨1 + 1, by omega, by go_num, I2, Q3.out, F3.out⟩
     case measure => simp [intOf]
    ·have E := Lib.hid (WE.out _ ((rgt_at (by omega) I.out (by rw [pv]; exact hz)).trans pv))
     rw [erV_is hz] at E ⊢
     clear hz pv I WE
     go_wp2
     go_ret
     exact ⟨by rw [← E.out]; rfl, Q3.out.l⟩
   ·subst e
    have cf := F2.out.c 2 _ rfl
    have cs := tk_of Q2.out.c
    unfold TKc at cs
    obtain ⟨c00, c01, c02, c03, c04, c05, c06, c07, c08, c09, c10, c11, c12, c13, c14, c15⟩ := cs
    have pv : prtE k 2 = (linE k, (0 : Int)) := rfl
    (try rw [show ((2 : Nat) : Int) = 2 from rfl])
    go_wp2_with fail
    refine (tkLine_any k B _ Q2.out.bz FW.out Q2.out.t).mono ?_
    rintro e w3 ⟨rfl, h⟩
    have Q3 := Lib.hid (Q2.out.step h)
    have F3 := Lib.hid (F2.out.below h F2.out.lt)
    clear h Q2 F2 cf c00 c01 c02 c03 c04 c05 c06 c07 c08 c09 c10 c11 c12 c13 c14 c15
    by_cases hz : ((linE k, (0 : Int))).1 = 0
    ·have I2 := Lib.hid (all_next' (P := fun i => (prtE k i).1 = 0) I.out (by rw [pv]; exact hz))
     rw [erV_no hz]
     clear hz pv I WE
     go_wp2
     go_roundw
     case rel => exact ⟨2 + 1, by omega, by go_num, I2, Q3.out, F3.out⟩
     case measure => simp [intOf]
    ·have E := Lib.hid (WE.out _ ((rgt_at (by omega) I.out (by rw [pv]; exact hz)).trans pv))
     rw [erV_is hz] at E ⊢
     clear hz pv I WE
     go_wp2
     go_ret
     exact ⟨by rw [← E.out]; rfl, Q3.out.l⟩
   ·subst e
    have cf := F2.out.c 3 _ rfl
    have cs := tk_of Q2.out.c
    unfold TKc at cs
    obtain ⟨c00, c01, c02, c03, c04, c05, c06, c07, c08, c09, c10, c11, c12, c13, c14, c15⟩ := cs
    have pv : prtE k 3 = rlsE k := rfl
    (try rw [show ((3 : Nat) : Int) = 3 from rfl])
    go_wp2_with fail
    refine (tkRails_any k B _ Q2.out.bz FW.out Q2.out.t).mono ?_
    rintro e w3 ⟨rfl, h⟩
    have Q3 := Lib.hid (Q2.out.step h)
    have F3 := Lib.hid (F2.out.below h F2.out.lt)
    clear h Q2 F2 cf c00 c01 c02 c03 c04 c05 c06 c07 c08 c09 c10 c11 c12 c13 c14 c15
    by_cases hz : (rlsE k).1 = 0
    ·have I2 := Lib.hid (all_next' (P := fun i => (prtE k i).1 = 0) I.out (by rw [pv]; exact hz))
     rw [erV_no hz]
     clear hz pv I WE
     go_wp2
     go_roundw
     case rel => exact ⟨3 + 1, by omega, by go_num, I2, Q3.out, F3.out⟩
     case measure => simp [intOf]
    ·have E := Lib.hid (WE.out _ ((rgt_at (by omega) I.out (by rw [pv]; exact hz)).trans pv))
     rw [erV_is hz] at E ⊢
     clear hz pv I WE
     go_wp2
     go_ret
     exact ⟨by rw [← E.out]; rfl, Q3.out.l⟩
   ·subst e
    have cf := F2.out.c 4 _ rfl
    have cs := tk_of Q2.out.c
    unfold TKc at cs
    obtain ⟨c00, c01, c02, c03, c04, c05, c06, c07, c08, c09, c10, c11, c12, c13, c14, c15⟩ := cs
    have pv : prtE k 4 = gtsE k := rfl
    (try rw [show ((4 : Nat) : Int) = 4 from rfl])
    go_wp2_with fail
    refine (tkGates_any k B _ Q2.out.bz FW.out Q2.out.t).mono ?_
    rintro e w3 ⟨rfl, h⟩
    have Q3 := Lib.hid (Q2.out.step h)
    have F3 := Lib.hid (F2.out.below h F2.out.lt)
    clear h Q2 F2 cf c00 c01 c02 c03 c04 c05 c06 c07 c08 c09 c10 c11 c12 c13 c14 c15
    by_cases hz : (gtsE k).1 = 0
    ·have I2 := Lib.hid (all_next' (P := fun i => (prtE k i).1 = 0) I.out (by rw [pv]; exact hz))
     rw [erV_no hz]
     clear hz pv I WE
     go_wp2
     go_roundw
     case rel => exact ⟨4 + 1, by omega, by go_num, I2, Q3.out, F3.out⟩
     case measure => simp [intOf]
    ·have E := Lib.hid (WE.out _ ((rgt_at (by omega) I.out (by rw [pv]; exact hz)).trans pv))
     rw [erV_is hz] at E ⊢
     clear hz pv I WE
     go_wp2
     go_ret
     exact ⟨by rw [← E.out]; rfl, Q3.out.l⟩
   ·subst e
    have cf := F2.out.c 5 _ rfl
    have cs := tk_of Q2.out.c
    unfold TKc at cs
    obtain ⟨c00, c01, c02, c03, c04, c05, c06, c07, c08, c09, c10, c11, c12, c13, c14, c15⟩ := cs
    have pv : prtE k 5 = staE k := rfl
    (try rw [show ((5 : Nat) : Int) = 5 from rfl])
    go_wp2_with fail
    refine (tkStart_any k B _ Q2.out.bz FW.out (I.out 1 (by omega)) Q2.out.t).mono ?_
    rintro e w3 ⟨rfl, h⟩
    have Q3 := Lib.hid (Q2.out.step h)
    have F3 := Lib.hid (F2.out.below h F2.out.lt)
    clear h Q2 F2 cf c00 c01 c02 c03 c04 c05 c06 c07 c08 c09 c10 c11 c12 c13 c14 c15
    by_cases hz : (staE k).1 = 0
    ·have I2 := Lib.hid (all_next' (P := fun i => (prtE k i).1 = 0) I.out (by rw [pv]; exact hz))
     rw [erV_no hz]
     clear hz pv I WE
     go_wp2
     go_roundw
     case rel => exact ⟨5 + 1, by omega, by go_num, I2, Q3.out, F3.out⟩
     case measure => simp [intOf]
    ·have E := Lib.hid (WE.out _ ((rgt_at (by omega) I.out (by rw [pv]; exact hz)).trans pv))
     rw [erV_is hz] at E ⊢
     clear hz pv I WE
     go_wp2
     go_ret
     exact ⟨by rw [← E.out]; rfl, Q3.out.l⟩
   ·subst e
    have cf := F2.out.c 6 _ rfl
    have cs := tk_of Q2.out.c
    unfold TKc at cs
    obtain ⟨c00, c01, c02, c03, c04, c05, c06, c07, c08, c09, c10, c11, c12, c13, c14, c15⟩ := cs
    have pv : prtE k 6 = lapE k := rfl
    (try rw [show ((6 : Nat) : Int) = 6 from rfl])
    go_wp2_with fail
    refine (tkLaps_any k B _ Q2.out.bz Q2.out.t).mono ?_
    rintro e w3 ⟨rfl, h⟩
    have Q3 := Lib.hid (Q2.out.step h)
    have F3 := Lib.hid (F2.out.below h F2.out.lt)
    clear h Q2 F2 cf c00 c01 c02 c03 c04 c05 c06 c07 c08 c09 c10 c11 c12 c13 c14 c15
    by_cases hz : (lapE k).1 = 0
    ·have I2 := Lib.hid (all_next' (P := fun i => (prtE k i).1 = 0) I.out (by rw [pv]; exact hz))
     rw [erV_no hz]
     clear hz pv I WE
     go_wp2
     go_roundw
     case rel => exact ⟨6 + 1, by omega, by go_num, I2, Q3.out, F3.out⟩
     case measure => simp [intOf]
    ·have E := Lib.hid (WE.out _ ((rgt_at (by omega) I.out (by rw [pv]; exact hz)).trans pv))
     rw [erV_is hz] at E ⊢
     clear hz pv I WE
     go_wp2
     go_ret
     exact ⟨by rw [← E.out]; rfl, Q3.out.l⟩
  ·have e : j = 7 := by omega
   subst e
   have E := Lib.hid (WE.out _ (rgt_zeros I.out))
   clear I WE
   go_wp2
   go_ret
   exact ⟨by rw [← E.out]; rfl, Q2.out.l⟩
def RtS (w W : World) (B : Nat) (k : Tk) (a b c : Int) : Prop := PK w W B w.heap.size k ∧ BW W (w.heap.size + 1) [.int .i64 a] ∧ BW W (w.heap.size + 1 + 1) [.int .i64 b, .int .i64 c]
theorem RtS.step {w W W' : World} {B : Nat} {k : Tk} {a b c : Int} (S : RtS w W B k a b c) (h : Below W.heap.size W W') : RtS w W' B k a b c :=
 ⟨S.1.step h, S.2.1.below h S.2.1.lt, S.2.2.below h S.2.2.lt⟩
theorem RtS.num {w W : World} {B : Nat} {k : Tk} {a b c : Int} (S : RtS w W B k a b c) (x : Int) : RtS w (W.setCell ⟨w.heap.size + 1, 0, none⟩ (.int .i64 x)) B k x b c :=
 ⟨S.1.stepB (C := w.heap.size + 1) (by repeat (first | exact Below.refl _ _ | assumption | refine Below.setCell ?_ (by first | omega | (simp; done) | (simp; omega)) _ | refine Below.alloc ?_ (by first | omega | (simp; done) | (simp; omega)) _ | refine below_drewN ?_ _ | refine Below.drew ?_ | refine Below.trans ?_ (Below.mono (by assumption) (by first | omega | (simp; done) | (simp; omega))))) (by omega) (by omega), ⟨fun i v e => by
  match i, e with
  | 0, e => cases e; exact World.cell?_setCell_same _ _ _ (S.2.1.c 0 _ rfl)
  | i + 1, e => exact absurd e (by simp), fun j => by rw [World.frozen?_setCell]; exact S.2.1.f j, by have := S.2.1.lt; simpa using this⟩,
  ⟨fun i v e => (World.cell?_setCell_other _ _ _ _ (by simp)).trans (S.2.2.c i v e), fun j => by rw [World.frozen?_setCell]; exact S.2.2.f j, by have := S.2.2.lt; simpa using this⟩⟩
theorem RtS.flt {w W : World} {B : Nat} {k : Tk} {a b c : Int} (S : RtS w W B k a b c) (x y : Int) : RtS w ((W.setCell ⟨w.heap.size + 1 + 1, 0, none⟩ (.int .i64 x)).setCell ⟨w.heap.size + 1 + 1, 1, none⟩ (.int .i64 y)) B k a x y :=
 ⟨S.1.stepB (C := w.heap.size + 1) (by repeat (first | exact Below.refl _ _ | assumption | refine Below.setCell ?_ (by first | omega | (simp; done) | (simp; omega)) _ | refine Below.alloc ?_ (by first | omega | (simp; done) | (simp; omega)) _ | refine below_drewN ?_ _ | refine Below.drew ?_ | refine Below.trans ?_ (Below.mono (by assumption) (by first | omega | (simp; done) | (simp; omega))))) (by omega) (by omega),
  ⟨fun i v e => (World.cell?_setCell_other _ _ _ _ (by simp)).trans ((World.cell?_setCell_other _ _ _ _ (by simp)).trans (S.2.1.c i v e)), fun j => by rw [World.frozen?_setCell, World.frozen?_setCell]; exact S.2.1.f j, by have := S.2.1.lt; simpa using this⟩,
  ⟨fun i v e => by
   match i, e with
   | 0, e => cases e; exact (World.cell?_setCell_other _ _ _ _ (by simp)).trans (World.cell?_setCell_same _ _ _ (S.2.2.c 0 _ rfl))
   | 1, e => cases e; exact World.cell?_setCell_same _ _ _ ((World.cell?_setCell_other _ _ _ _ (by simp)).trans (S.2.2.c 1 _ rfl))
   | i + 2, e => exact absurd e (by simp), fun j => by rw [World.frozen?_setCell, World.frozen?_setCell]; exact S.2.2.f j, by have := S.2.2.lt; simpa using this⟩⟩
set_option maxRecDepth 100000 in
set_option maxHeartbeats 8000000 in
theorem tkRight_any (k : Tk) (B : Nat) (w : World) (hB : B ≤ w.heap.size) (hE : ErT w) (few : fewR k) (K : TkM B w k) :
  Calls Tryz.prog 14 #[trkV k.t] w fun e w' => e = .returned (.tuple #[.int .i64 (rgtK k).1, .int .i64 (rgtK k).2]) ∧ Below w.heap.size w w' := by
 have Q0 := Lib.hid (PK.new 34 K hB)
 have HE := Lib.hid hE
 have FW := Lib.hid few
 obtain ⟨x1, hx1⟩ : ∃ x, (rgtK k).1 = x := ⟨_, rfl⟩
 obtain ⟨x2, hx2⟩ : ∃ x, (rgtK k).2 = x := ⟨_, rfl⟩
 rw [hx1, hx2]
 have HX := Lib.hid (And.intro hx1 hx2)
 clear hE few K hB hx1 hx2
 go_enter Tryz.func14, Tryz.ntmps14
 go_wp2_with fail
 refine calls_gen (S := fun W => RtS w W B k 0 0 0) ⟨Q0.out.stepB (C := w.heap.size + 1) (by repeat (first | exact Below.refl _ _ | assumption | refine Below.setCell ?_ (by first | omega | (simp; done) | (simp; omega)) _ | refine Below.alloc ?_ (by first | omega | (simp; done) | (simp; omega)) _ | refine below_drewN ?_ _ | refine Below.drew ?_ | refine Below.trans ?_ (Below.mono (by assumption) (by first | omega | (simp; done) | (simp; omega))))) (by omega) (by omega), (BW.new _ _ [_] _ (by simp)).alloc _, BW.new _ _ [_, _] _ (by simp)⟩ (fun W1 hS => ?_)
 have S1 := Lib.hid hS
 clear hS Q0
 refine (tkFirst_any k B _ S1.out.1.bz FW.out S1.out.1.t).mono ?_
 rintro e w2 ⟨rfl, h⟩
 have S2 := Lib.hid (S1.out.step h)
 clear h S1 FW
 by_cases hz : (rgtK k).1 = 0
 ·have E := Lib.hid (rgt_none hz)
  rw [erV_no hz]
  clear hz
  go_wp2_with fail
  refine (erAs_nil _ _).mono ?_
  rintro e w3 ⟨rfl, rfl⟩
  go_wp2
  go_ret2
  exact ⟨by rw [← HX.out.1, ← HX.out.2, E.out]; rfl, S2.out.1.l⟩
 ·rw [erV_is hz, HX.out.1, HX.out.2]
  clear hz
  go_wp2_with fail
  refine (erAs_num x1 x2 (w.heap.size + 1) _ _ (HE.out.step S2.out.1.l) (S2.out.2.1.c 0 _ rfl) S2.out.2.1.f).mono ?_
  rintro e w3 ⟨rfl, w3', h, rfl⟩
  have S3 := Lib.hid ((S2.out.step h).num x1)
  clear h S2
  go_wp2_with fail
  refine (erAs_fault x1 x2 (w.heap.size + 1 + 1) _ _ _ (HE.out.step S3.out.1.l) (S3.out.2.2.c 0 _ rfl) (S3.out.2.2.c 1 _ rfl) S3.out.2.2.f).mono ?_
  rintro e w4 ⟨rfl, w4', h, rfl⟩
  have S4 := Lib.hid ((S3.out.step h).flt x1 x2)
  clear h S3
  generalize (w4'.setCell ⟨w.heap.size + 1 + 1, 0, none⟩ (.int .i64 x1)).setCell ⟨w.heap.size + 1 + 1, 1, none⟩ (.int .i64 x2) = w5 at *
  have c0 := S4.out.2.1.c 0 _ rfl
  have c1 := S4.out.2.2.c 1 _ rfl
  go_wp2
  go_quiet (fail)
  go_wp2
  go_ret2
  exact ⟨rfl, below_drewN S4.out.1.l _⟩
end Go.Proofs.YtmdjnamkbekjkaaGreatDoor

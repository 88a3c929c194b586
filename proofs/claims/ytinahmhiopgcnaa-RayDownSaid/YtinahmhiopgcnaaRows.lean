/-
  No cell of these rows narrows 'for every input' (looked for: loops, veiled, ifaces, maps, wideKeys, modest, calm, conditions, laid).
  DERIVED. THE GIVEN ROWS OF THIS SEAT. 3 by the template 'for every input the law returns true; each argument reads behind the call as it read before'; 0 by the template 'total and deterministic' (their statements: YtinahmhiopgcnaaTotals.lean).
  GIVEN WITH THE SEED: the statements are not yours to turn. If you find one false, say at which input.
  Laid BY PROGRAM, IN A SANDBOX (cutbox-rows.mjs): the forced cells as the released guide's own fill.sh prints them over the translation e34d44d13bcf70e9… (all of the seat's roots in one cut). By AI agents, Wed Nov 11 2026. No macro, syntax, notation, axiom, sorry.
-/
import Derived.Test.YtinahmhiopgcnaaChecked
import GoSem.Claim
import GoSem.ClaimJoined
import GoSem.ClaimMapViews
import Derived.JoinedTies
import Derived.KernelRfl
namespace Go.Proofs.Ytinahmhiopgcnaa
/- THE CELL 'sum', in the pinned program and in every row, IS THE sha256 OF THE DUMP (.gsa) THAT YtinahmhiopgcnaaProg.lean LOADS. Nothing in Lean hashes anything: it is a label: what it is worth is what the hold of that sum in a sandbox is worth. -/
noncomputable def Try.pinned : Pinned := { name := "ytinahmhiopgcnaa", sum := "e34d44d13bcf70e97981eb79ede4c93558075d11fa4c540676fc9e69c14f256b", checked := Try.checked }
namespace Rows
def none {H : Type} : Left H := { results := [], args := [] }

/-- 'chicanelaw13.RayPoint': WHATEVER THE INPUT: true; the input reads as it did. -/
def rayPointSpec : ChangeSpec := { name := "rayPoint", fn := fun _ => fun
  | [d1, d2, d3] => { results := [.lit (.bool true)], args := [d1, d2, d3] }
  | _ => none }
def rayPointRow : OpenClaim := { program := "ytinahmhiopgcnaa", sum := "e34d44d13bcf70e97981eb79ede4c93558075d11fa4c540676fc9e69c14f256b", func := "chicane/chicanelaw13.RayPoint", spec := "rayPoint", inPlace := ["math/bits.Sub64", "math/bits.Add64"], unfollowed := true, recurses := true, named := ["math/bits.divideError", "math/bits.overflowError"], apart := false }
def RayPointSaid : Prop := rayPointRow.holds Try.pinned (OpenSpec.ofChange rayPointSpec)

/-- ITS FALSE NEIGHBOUR: 'it returns false'. Refute it at one input. -/
def rayPointWrong : ChangeSpec := { name := "rayPoint", fn := fun _ => fun
  | [d1, d2, d3] => { results := [.lit (.bool false)], args := [d1, d2, d3] }
  | _ => none }
def RayPointWrongFalsely : Prop := rayPointRow.holds Try.pinned (OpenSpec.ofChange rayPointWrong)

/-- 'chicanelaw13.RayDown': WHATEVER THE INPUT: true; the input reads as it did. -/
def rayDownSpec : ChangeSpec := { name := "rayDown", fn := fun _ => fun
  | [d1, d2] => { results := [.lit (.bool true)], args := [d1, d2] }
  | _ => none }
def rayDownRow : OpenClaim := { program := "ytinahmhiopgcnaa", sum := "e34d44d13bcf70e97981eb79ede4c93558075d11fa4c540676fc9e69c14f256b", func := "chicane/chicanelaw13.RayDown", spec := "rayDown", inPlace := ["math/bits.Sub64", "math/bits.Add64"], unfollowed := true, recurses := true, named := ["math/bits.divideError", "math/bits.overflowError"], apart := false }
def RayDownSaid : Prop := rayDownRow.holds Try.pinned (OpenSpec.ofChange rayDownSpec)

/-- ITS FALSE NEIGHBOUR: 'it returns false'. Refute it at one input. -/
def rayDownWrong : ChangeSpec := { name := "rayDown", fn := fun _ => fun
  | [d1, d2] => { results := [.lit (.bool false)], args := [d1, d2] }
  | _ => none }
def RayDownWrongFalsely : Prop := rayDownRow.holds Try.pinned (OpenSpec.ofChange rayDownWrong)

/-- 'chicanelaw13.RayOn': WHATEVER THE INPUT: true; the input reads as it did. -/
def rayOnSpec : ChangeSpec := { name := "rayOn", fn := fun _ => fun
  | [d1, d2] => { results := [.lit (.bool true)], args := [d1, d2] }
  | _ => none }
def rayOnRow : OpenClaim := { program := "ytinahmhiopgcnaa", sum := "e34d44d13bcf70e97981eb79ede4c93558075d11fa4c540676fc9e69c14f256b", func := "chicane/chicanelaw13.RayOn", spec := "rayOn", inPlace := ["math/bits.Sub64", "math/bits.Add64"], unfollowed := true, recurses := true, named := ["math/bits.divideError", "math/bits.overflowError"], apart := false }
def RayOnSaid : Prop := rayOnRow.holds Try.pinned (OpenSpec.ofChange rayOnSpec)

/-- ITS FALSE NEIGHBOUR: 'it returns false'. Refute it at one input. -/
def rayOnWrong : ChangeSpec := { name := "rayOn", fn := fun _ => fun
  | [d1, d2] => { results := [.lit (.bool false)], args := [d1, d2] }
  | _ => none }
def RayOnWrongFalsely : Prop := rayOnRow.holds Try.pinned (OpenSpec.ofChange rayOnWrong)

/- THE SECOND FORM. 'bulk': how many values and letters a reading holds, each counted each time it is reached (what is shared counts as often as it is met; a slice's spare places count too). A statement '..UptoSaid' is the law's where the arguments, and the package variables that the reading takes, are together of bulk at most 1048576: NARROWER than '..Said'. Prove '..Said' where nothing that the law and all that it calls make is longer than what came in: it says more and counts as full. Else prove '..UptoSaid'. A law counts once. -/
mutual
def uptoBulk {H : Type} : DataW H → Nat
  | .lit (.string bytes) => bytes.length + 1
  | .lit _ => 1
  | .nil => 1
  | .ptr d => uptoBulk d + 1
  | .slice elems spare => uptoBulkAll elems + uptoBulkAll spare + 1
  | .agg parts => uptoBulkAll parts + 1
  | .iface _ d => uptoBulk d + 1
  | .map entries => uptoBulkEntries entries + 1
  | .held _ => 1
def uptoBulkAll {H : Type} : List (DataW H) → Nat
  | [] => 0
  | d :: r => uptoBulk d + uptoBulkAll r
def uptoBulkEntries {H : Type} : List (Lit × DataW H) → Nat
  | [] => 0
  | x :: r => uptoBulkEntry x + uptoBulkEntries r
def uptoBulkEntry {H : Type} : Lit × DataW H → Nat
  | (.string bytes, d) => bytes.length + uptoBulk d + 1
  | (_, d) => uptoBulk d + 1
 end
def uptoSmall : (H : Type) → List (DataW H) → Bool := fun _ ds => decide (uptoBulkAll ds ≤ 1048576)
def OpenSpec.upto (s : _root_.Go.ChangeSpec) : _root_.Go.OpenSpec := { _root_.Go.OpenSpec.ofChange s with cond := some uptoSmall }

/-- 'chicanelaw13.RayPoint', WHERE WHAT IT READS IS OF BULK AT MOST 1048576: true; the input reads as it did. -/
def rayPointUptoRow : OpenClaim := { program := "ytinahmhiopgcnaa", sum := "e34d44d13bcf70e97981eb79ede4c93558075d11fa4c540676fc9e69c14f256b", func := "chicane/chicanelaw13.RayPoint", spec := "rayPoint", inPlace := ["math/bits.Sub64", "math/bits.Add64"], unfollowed := true, recurses := true, named := ["math/bits.divideError", "math/bits.overflowError"], apart := false, narrowed := true }
def RayPointUptoSaid : Prop := rayPointUptoRow.holds Try.pinned (OpenSpec.upto rayPointSpec)

/-- 'chicanelaw13.RayDown', WHERE WHAT IT READS IS OF BULK AT MOST 1048576: true; the input reads as it did. -/
def rayDownUptoRow : OpenClaim := { program := "ytinahmhiopgcnaa", sum := "e34d44d13bcf70e97981eb79ede4c93558075d11fa4c540676fc9e69c14f256b", func := "chicane/chicanelaw13.RayDown", spec := "rayDown", inPlace := ["math/bits.Sub64", "math/bits.Add64"], unfollowed := true, recurses := true, named := ["math/bits.divideError", "math/bits.overflowError"], apart := false, narrowed := true }
def RayDownUptoSaid : Prop := rayDownUptoRow.holds Try.pinned (OpenSpec.upto rayDownSpec)

/-- 'chicanelaw13.RayOn', WHERE WHAT IT READS IS OF BULK AT MOST 1048576: true; the input reads as it did. -/
def rayOnUptoRow : OpenClaim := { program := "ytinahmhiopgcnaa", sum := "e34d44d13bcf70e97981eb79ede4c93558075d11fa4c540676fc9e69c14f256b", func := "chicane/chicanelaw13.RayOn", spec := "rayOn", inPlace := ["math/bits.Sub64", "math/bits.Add64"], unfollowed := true, recurses := true, named := ["math/bits.divideError", "math/bits.overflowError"], apart := false, narrowed := true }
def RayOnUptoSaid : Prop := rayOnUptoRow.holds Try.pinned (OpenSpec.upto rayOnSpec)

end Rows
end Go.Proofs.Ytinahmhiopgcnaa

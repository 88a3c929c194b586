/-
  No cell of these rows narrows 'for every input' (looked for: loops, veiled, ifaces, maps, wideKeys, modest, calm, conditions, laid).
  DERIVED. THE GIVEN ROWS OF THIS SEAT. 4 by the template 'for every input the law returns true; each argument reads behind the call as it read before'; 0 by the template 'total and deterministic' (their statements: YtllkhgcokbpggaaTotals.lean).
  GIVEN WITH THE SEED: the statements are not yours to turn. If you find one false, say at which input.
  Laid BY PROGRAM, IN A SANDBOX (cutbox-rows.mjs): the forced cells as the released guide's own fill.sh prints them over the translation de6c41fe0efa839f… (all of the seat's roots in one cut). By AI agents, Wed Nov 11 2026. No macro, syntax, notation, axiom, sorry.
-/
import Derived.Test.YtllkhgcokbpggaaChecked
import GoSem.Claim
import GoSem.ClaimJoined
import GoSem.ClaimMapViews
import Derived.JoinedTies
import Derived.KernelRfl
namespace Go.Proofs.Ytllkhgcokbpggaa
/- THE CELL 'sum', in the pinned program and in every row, IS THE sha256 OF THE DUMP (.gsa) THAT YtllkhgcokbpggaaProg.lean LOADS. Nothing in Lean hashes anything: it is a label: what it is worth is what the hold of that sum in a sandbox is worth. -/
noncomputable def Try.pinned : Pinned := { name := "ytllkhgcokbpggaa", sum := "de6c41fe0efa839f8200216dbc77f5e00e399e77b8abbc1ef3c24baef8428cf7", checked := Try.checked }
namespace Rows
def none {H : Type} : Left H := { results := [], args := [] }

/-- 'chicanelaw16.FenceAround': WHATEVER THE INPUT: true; the input reads as it did. -/
def fenceAroundSpec : ChangeSpec := { name := "fenceAround", fn := fun _ => fun
  | [d1, d2, d3] => { results := [.lit (.bool true)], args := [d1, d2, d3] }
  | _ => none }
def fenceAroundRow : OpenClaim := { program := "ytllkhgcokbpggaa", sum := "de6c41fe0efa839f8200216dbc77f5e00e399e77b8abbc1ef3c24baef8428cf7", func := "chicane/chicanelaw16.FenceAround", spec := "fenceAround", inPlace := ["math/bits.Sub64", "math/bits.Add64"], unfollowed := true, recurses := true, named := ["math/bits.divideError", "math/bits.overflowError"], plainKeys := false, apart := false }
def FenceAroundSaid : Prop := fenceAroundRow.holds Try.pinned (OpenSpec.ofChange fenceAroundSpec)

/-- ITS FALSE NEIGHBOUR: 'it returns false'. Refute it at one input. -/
def fenceAroundWrong : ChangeSpec := { name := "fenceAround", fn := fun _ => fun
  | [d1, d2, d3] => { results := [.lit (.bool false)], args := [d1, d2, d3] }
  | _ => none }
def FenceAroundWrongFalsely : Prop := fenceAroundRow.holds Try.pinned (OpenSpec.ofChange fenceAroundWrong)

/-- 'chicanelaw16.FenceBreaks': WHATEVER THE INPUT: true; the input reads as it did. -/
def fenceBreaksSpec : ChangeSpec := { name := "fenceBreaks", fn := fun _ => fun
  | [d1, d2, d3] => { results := [.lit (.bool true)], args := [d1, d2, d3] }
  | _ => none }
def fenceBreaksRow : OpenClaim := { program := "ytllkhgcokbpggaa", sum := "de6c41fe0efa839f8200216dbc77f5e00e399e77b8abbc1ef3c24baef8428cf7", func := "chicane/chicanelaw16.FenceBreaks", spec := "fenceBreaks", inPlace := ["math/bits.Sub64", "math/bits.Add64"], unfollowed := true, recurses := true, named := ["math/bits.divideError", "math/bits.overflowError"], plainKeys := false, apart := false }
def FenceBreaksSaid : Prop := fenceBreaksRow.holds Try.pinned (OpenSpec.ofChange fenceBreaksSpec)

/-- ITS FALSE NEIGHBOUR: 'it returns false'. Refute it at one input. -/
def fenceBreaksWrong : ChangeSpec := { name := "fenceBreaks", fn := fun _ => fun
  | [d1, d2, d3] => { results := [.lit (.bool false)], args := [d1, d2, d3] }
  | _ => none }
def FenceBreaksWrongFalsely : Prop := fenceBreaksRow.holds Try.pinned (OpenSpec.ofChange fenceBreaksWrong)

/-- 'chicanelaw16.FenceBehind': WHATEVER THE INPUT: true; the input reads as it did. -/
def fenceBehindSpec : ChangeSpec := { name := "fenceBehind", fn := fun _ => fun
  | [d1, d2, d3] => { results := [.lit (.bool true)], args := [d1, d2, d3] }
  | _ => none }
def fenceBehindRow : OpenClaim := { program := "ytllkhgcokbpggaa", sum := "de6c41fe0efa839f8200216dbc77f5e00e399e77b8abbc1ef3c24baef8428cf7", func := "chicane/chicanelaw16.FenceBehind", spec := "fenceBehind", inPlace := ["math/bits.Sub64", "math/bits.Add64"], unfollowed := true, recurses := true, named := ["math/bits.divideError", "math/bits.overflowError"], plainKeys := false, apart := false }
def FenceBehindSaid : Prop := fenceBehindRow.holds Try.pinned (OpenSpec.ofChange fenceBehindSpec)

/-- ITS FALSE NEIGHBOUR: 'it returns false'. Refute it at one input. -/
def fenceBehindWrong : ChangeSpec := { name := "fenceBehind", fn := fun _ => fun
  | [d1, d2, d3] => { results := [.lit (.bool false)], args := [d1, d2, d3] }
  | _ => none }
def FenceBehindWrongFalsely : Prop := fenceBehindRow.holds Try.pinned (OpenSpec.ofChange fenceBehindWrong)

/-- 'chicanelaw16.FenceTurns': WHATEVER THE INPUT: true; the input reads as it did. -/
def fenceTurnsSpec : ChangeSpec := { name := "fenceTurns", fn := fun _ => fun
  | [d1, d2, d3] => { results := [.lit (.bool true)], args := [d1, d2, d3] }
  | _ => none }
def fenceTurnsRow : OpenClaim := { program := "ytllkhgcokbpggaa", sum := "de6c41fe0efa839f8200216dbc77f5e00e399e77b8abbc1ef3c24baef8428cf7", func := "chicane/chicanelaw16.FenceTurns", spec := "fenceTurns", inPlace := ["math/bits.Sub64", "math/bits.Add64"], unfollowed := true, recurses := true, named := ["math/bits.divideError", "math/bits.overflowError"], plainKeys := false, apart := false }
def FenceTurnsSaid : Prop := fenceTurnsRow.holds Try.pinned (OpenSpec.ofChange fenceTurnsSpec)

/-- ITS FALSE NEIGHBOUR: 'it returns false'. Refute it at one input. -/
def fenceTurnsWrong : ChangeSpec := { name := "fenceTurns", fn := fun _ => fun
  | [d1, d2, d3] => { results := [.lit (.bool false)], args := [d1, d2, d3] }
  | _ => none }
def FenceTurnsWrongFalsely : Prop := fenceTurnsRow.holds Try.pinned (OpenSpec.ofChange fenceTurnsWrong)

/- THE SECOND FORM. 'bulk': how many values and letters a reading holds, each counted each time it is reached (what is shared counts as often as it is met; a slice's spare places count too). A statement '..UptoSaid' is the law's where the arguments, and the package variables that the reading takes, are together of bulk at most 1048576: NARROWER than '..Said'. Prove '..Said' where nothing that the law and all that it calls make is longer than what came in: it says more and counts as full. Else prove '..UptoSaid'. A law counts once. -/
mutual
def uptoBulk {H : Type} : DataW H → Nat
  | .lit (.string bytes) => bytes.length + 1
  | .lit _ => 1
  | .nil => 1
  | .ptr d => uptoBulk d + 1
  | .slice elems spare => uptoBulkAll elems + uptoBulkAll spare + 1
  | .agg parts => uptoBulkAll parts + 1
  | .iface _ d => uptoBulk d + 1
  | .map entries => uptoBulkEntries entries + 1
  | .held _ => 1
def uptoBulkAll {H : Type} : List (DataW H) → Nat
  | [] => 0
  | d :: r => uptoBulk d + uptoBulkAll r
def uptoBulkEntries {H : Type} : List (Lit × DataW H) → Nat
  | [] => 0
  | x :: r => uptoBulkEntry x + uptoBulkEntries r
def uptoBulkEntry {H : Type} : Lit × DataW H → Nat
  | (.string bytes, d) => bytes.length + uptoBulk d + 1
  | (_, d) => uptoBulk d + 1
 end
def uptoSmall : (H : Type) → List (DataW H) → Bool := fun _ ds => decide (uptoBulkAll ds ≤ 1048576)
def OpenSpec.upto (s : _root_.Go.ChangeSpec) : _root_.Go.OpenSpec := { _root_.Go.OpenSpec.ofChange s with cond := some uptoSmall }

/-- 'chicanelaw16.FenceAround', WHERE WHAT IT READS IS OF BULK AT MOST 1048576: true; the input reads as it did. -/
def fenceAroundUptoRow : OpenClaim := { program := "ytllkhgcokbpggaa", sum := "de6c41fe0efa839f8200216dbc77f5e00e399e77b8abbc1ef3c24baef8428cf7", func := "chicane/chicanelaw16.FenceAround", spec := "fenceAround", inPlace := ["math/bits.Sub64", "math/bits.Add64"], unfollowed := true, recurses := true, named := ["math/bits.divideError", "math/bits.overflowError"], plainKeys := false, apart := false, narrowed := true }
def FenceAroundUptoSaid : Prop := fenceAroundUptoRow.holds Try.pinned (OpenSpec.upto fenceAroundSpec)

/-- 'chicanelaw16.FenceBreaks', WHERE WHAT IT READS IS OF BULK AT MOST 1048576: true; the input reads as it did. -/
def fenceBreaksUptoRow : OpenClaim := { program := "ytllkhgcokbpggaa", sum := "de6c41fe0efa839f8200216dbc77f5e00e399e77b8abbc1ef3c24baef8428cf7", func := "chicane/chicanelaw16.FenceBreaks", spec := "fenceBreaks", inPlace := ["math/bits.Sub64", "math/bits.Add64"], unfollowed := true, recurses := true, named := ["math/bits.divideError", "math/bits.overflowError"], plainKeys := false, apart := false, narrowed := true }
def FenceBreaksUptoSaid : Prop := fenceBreaksUptoRow.holds Try.pinned (OpenSpec.upto fenceBreaksSpec)

/-- 'chicanelaw16.FenceBehind', WHERE WHAT IT READS IS OF BULK AT MOST 1048576: true; the input reads as it did. -/
def fenceBehindUptoRow : OpenClaim := { program := "ytllkhgcokbpggaa", sum := "de6c41fe0efa839f8200216dbc77f5e00e399e77b8abbc1ef3c24baef8428cf7", func := "chicane/chicanelaw16.FenceBehind", spec := "fenceBehind", inPlace := ["math/bits.Sub64", "math/bits.Add64"], unfollowed := true, recurses := true, named := ["math/bits.divideError", "math/bits.overflowError"], plainKeys := false, apart := false, narrowed := true }
def FenceBehindUptoSaid : Prop := fenceBehindUptoRow.holds Try.pinned (OpenSpec.upto fenceBehindSpec)

/-- 'chicanelaw16.FenceTurns', WHERE WHAT IT READS IS OF BULK AT MOST 1048576: true; the input reads as it did. -/
def fenceTurnsUptoRow : OpenClaim := { program := "ytllkhgcokbpggaa", sum := "de6c41fe0efa839f8200216dbc77f5e00e399e77b8abbc1ef3c24baef8428cf7", func := "chicane/chicanelaw16.FenceTurns", spec := "fenceTurns", inPlace := ["math/bits.Sub64", "math/bits.Add64"], unfollowed := true, recurses := true, named := ["math/bits.divideError", "math/bits.overflowError"], plainKeys := false, apart := false, narrowed := true }
def FenceTurnsUptoSaid : Prop := fenceTurnsUptoRow.holds Try.pinned (OpenSpec.upto fenceTurnsSpec)

end Rows
end Go.Proofs.Ytllkhgcokbpggaa

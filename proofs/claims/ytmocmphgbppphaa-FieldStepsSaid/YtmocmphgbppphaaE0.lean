/- A track's, a place's and a question's copies in memory. -/
import Derived.Test.YtmocmphgbppphaaEn
namespace Go.Proofs.Ytmocmphgbppphaa
open Go.RowKit
set_option linter.unusedVariables false
set_option linter.unusedSimpArgs false

/-- a track's, a place's and a question's copies, before there is a field -/
structure WP (w W : World) (B : Nat) (t : Trk) (x y a0 a1 : Int) : Prop where
  h : HP w W B t x y
  u : BW W (w.heap.size + 2) [.int .i64 a0, .int .i64 a1]
theorem WP.step {w W W' : World} {B : Nat} {t : Trk} {x y a0 a1 : Int} (s : WP w W B t x y a0 a1) (h : Below W.heap.size W W') : WP w W' B t x y a0 a1 := ⟨s.h.step h, s.u.below h s.u.lt⟩
theorem WP.bz {w W : World} {B : Nat} {t : Trk} {x y a0 a1 : Int} (s : WP w W B t x y a0 a1) : B ≤ W.heap.size := by have := s.h.q.z; have := s.h.q.l.size; omega
/-- and the field -/
structure WQ (F : FieldT) (w W : World) (B top f : Nat) (t : Trk) (x y a0 a1 : Int) : Prop where
  p : F.P 0 top W f t
  h : WP w W B t x y a0 a1
theorem WQ.step {F : FieldT} {w W W' : World} {B top f : Nat} {t : Trk} {x y a0 a1 : Int} (s : WQ F w W B top f t x y a0 a1) (h : Below W.heap.size W W') : WQ F w W' B top f t x y a0 a1 := ⟨F.step s.p h, s.h.step h⟩
def AsC (W : World) (n : Nat) (t : Trk) (x y a0 a1 : Int) : Prop := HSc W n t x y ∧ W.cell? ⟨n + 2, 0, none⟩ = some (.int .i64 a0) ∧ W.cell? ⟨n + 2, 1, none⟩ = some (.int .i64 a1)
theorem WP.cs {w W : World} {B : Nat} {t : Trk} {x y a0 a1 : Int} (s : WP w W B t x y a0 a1) : AsC W w.heap.size t x y a0 a1 := ⟨bw_hsc s.h.q.c s.h.e, s.u.c 0 _ rfl, s.u.c 1 _ rfl⟩
end Go.Proofs.Ytmocmphgbppphaa

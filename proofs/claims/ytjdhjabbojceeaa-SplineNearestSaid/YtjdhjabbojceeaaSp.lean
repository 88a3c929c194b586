/- What the program's spline tells. -/
import Derived.Test.YtjdhjabbojceeaaSi
import Derived.Test.YtjdhjabbojceeaaS5
import Derived.Test.YtjdhjabbojceeaaS6
namespace Go.Proofs.Ytjdhjabbojceeaa
open Go.RowKit

theorem splineC : SplineC :=
  ⟨fun a n c X Y w hmax D => spRight_any a n c X Y w (by omega) D,
   fun a n c X Y i t b k o w hmax hi ht D m hne => spAt_any a n c X Y i t b k o w (by omega) hi ht D m hne,
   fun a n c X Y b k o w hmax D m hne => spSamples_any a n c X Y b k o w (by omega) D m hne,
   fun a n c X Y b k o w hmax D m hne => spLengths_any a n c X Y b k o w (by omega) D m hne,
   fun a n c X Y px py w hmax D hx hy => spNearest_any a n c X Y px py w (by omega) D hx hy⟩
end Go.Proofs.Ytjdhjabbojceeaa

/- The statements' example of a car: behind its wheels. -/
import Derived.Test.YtbpmbdnhfkfkhaaWi
namespace Go.Proofs.Ytbpmbdnhfkfkhaa
open Go.RowKit
set_option linter.unusedVariables false
set_option linter.unusedSimpArgs false

def sq3  : List Value := [.int .i64 (4294967296000), .int .i64 (1717986918400), .int .i64 (5153960755200), .int .i64 (6012954214400), .int .i64 (4294967296), .int .i64 (3221225472), .int .i64 (-1073741824), .int .i64 (1288490188), .int .i64 (4294967296), .int .i64 (171798691840000), .int .i64 (1073741824), .int .i64 (429496729600000), .bool true, .bool false, .int .i64 (4294967296), .int .i64 (-3221225472), .int .i64 (-1073741824), .int .i64 (1288490188), .int .i64 (4294967296), .int .i64 (171798691840000), .int .i64 (1073741824), .int .i64 (429496729600000), .bool true, .bool false, .int .i64 (-4294967296), .int .i64 (3221225472), .int .i64 (-1073741824), .int .i64 (1288490188), .int .i64 (4294967296), .int .i64 (171798691840000), .int .i64 (1073741824), .int .i64 (429496729600000), .bool false, .bool true, .int .i64 (-4294967296), .int .i64 (-3221225472), .int .i64 (-1073741824), .int .i64 (1288490188), .int .i64 (4294967296), .int .i64 (171798691840000), .int .i64 (1073741824), .int .i64 (429496729600000), .bool false, .bool true, .int .i64 (42949672960000), .int .i64 (34359738368000), .slice none 0 0, .slice none 0 0, .slice none 0 0, .slice none 0 0, .slice none 0 0, .slice none 0 0, .int .i64 0, .int .i64 0, .int .i64 0, .int .i64 0, .int .i64 0, .int .i64 0, .int .i64 0, .int .i64 0, .slice none 0 0, .int .i64 0, .int .i64 0, .int .i64 0, .int .i64 0, .int .i64 0, .int .i64 0, .int .u32 0, .int .u32 0, .int .i64 (4294967296), .int .i64 (1073741824), .int .i64 (1073741824), .int .i64 0, .int .i64 0, .int .i64 0, .int .i64 0]
def sq4 (x0 x1 : Nat) : List Value := [.int .i64 (4294967296000), .int .i64 (1717986918400), .int .i64 (5153960755200), .int .i64 (6012954214400), .int .i64 (4294967296), .int .i64 (3221225472), .int .i64 (-1073741824), .int .i64 (1288490188), .int .i64 (4294967296), .int .i64 (171798691840000), .int .i64 (1073741824), .int .i64 (429496729600000), .bool true, .bool false, .int .i64 (4294967296), .int .i64 (-3221225472), .int .i64 (-1073741824), .int .i64 (1288490188), .int .i64 (4294967296), .int .i64 (171798691840000), .int .i64 (1073741824), .int .i64 (429496729600000), .bool true, .bool false, .int .i64 (-4294967296), .int .i64 (3221225472), .int .i64 (-1073741824), .int .i64 (1288490188), .int .i64 (4294967296), .int .i64 (171798691840000), .int .i64 (1073741824), .int .i64 (429496729600000), .bool false, .bool true, .int .i64 (-4294967296), .int .i64 (-3221225472), .int .i64 (-1073741824), .int .i64 (1288490188), .int .i64 (4294967296), .int .i64 (171798691840000), .int .i64 (1073741824), .int .i64 (429496729600000), .bool false, .bool true, .int .i64 (42949672960000), .int .i64 (34359738368000), .slice (some ⟨x0, 0, none⟩) 3 3, .slice none 0 0, .slice none 0 0, .slice none 0 0, .slice none 0 0, .slice none 0 0, .int .i64 0, .int .i64 0, .int .i64 0, .int .i64 0, .int .i64 0, .int .i64 0, .int .i64 0, .int .i64 0, .slice none 0 0, .int .i64 0, .int .i64 0, .int .i64 0, .int .i64 0, .int .i64 0, .int .i64 0, .int .u32 0, .int .u32 0, .int .i64 (4294967296), .int .i64 (1073741824), .int .i64 (1073741824), .int .i64 0, .int .i64 0, .int .i64 0, .int .i64 0]
def sq5 (x0 x1 x2 x3 x4 x5 : Nat) : List Value := [.int .i64 (4294967296000), .int .i64 (1717986918400), .int .i64 (5153960755200), .int .i64 (6012954214400), .int .i64 (4294967296), .int .i64 (3221225472), .int .i64 (-1073741824), .int .i64 (1288490188), .int .i64 (4294967296), .int .i64 (171798691840000), .int .i64 (1073741824), .int .i64 (429496729600000), .bool true, .bool false, .int .i64 (4294967296), .int .i64 (-3221225472), .int .i64 (-1073741824), .int .i64 (1288490188), .int .i64 (4294967296), .int .i64 (171798691840000), .int .i64 (1073741824), .int .i64 (429496729600000), .bool true, .bool false, .int .i64 (-4294967296), .int .i64 (3221225472), .int .i64 (-1073741824), .int .i64 (1288490188), .int .i64 (4294967296), .int .i64 (171798691840000), .int .i64 (1073741824), .int .i64 (429496729600000), .bool false, .bool true, .int .i64 (-4294967296), .int .i64 (-3221225472), .int .i64 (-1073741824), .int .i64 (1288490188), .int .i64 (4294967296), .int .i64 (171798691840000), .int .i64 (1073741824), .int .i64 (429496729600000), .bool false, .bool true, .int .i64 (42949672960000), .int .i64 (34359738368000), .slice (some ⟨x0, 0, none⟩) 3 3, .slice (some ⟨x1, 0, none⟩) 3 3, .slice (some ⟨x2, 0, none⟩) 2 2, .slice (some ⟨x5, 0, none⟩) 2 2, .slice none 0 0, .slice none 0 0, .int .i64 0, .int .i64 0, .int .i64 0, .int .i64 0, .int .i64 0, .int .i64 0, .int .i64 0, .int .i64 0, .slice none 0 0, .int .i64 0, .int .i64 0, .int .i64 0, .int .i64 0, .int .i64 0, .int .i64 0, .int .u32 0, .int .u32 0, .int .i64 (4294967296), .int .i64 (1073741824), .int .i64 (1073741824), .int .i64 0, .int .i64 0, .int .i64 0, .int .i64 0]
def sq6 (x0 x1 x2 x3 x4 x5 x6 : Nat) : List Value := [.int .i64 (4294967296000), .int .i64 (1717986918400), .int .i64 (5153960755200), .int .i64 (6012954214400), .int .i64 (4294967296), .int .i64 (3221225472), .int .i64 (-1073741824), .int .i64 (1288490188), .int .i64 (4294967296), .int .i64 (171798691840000), .int .i64 (1073741824), .int .i64 (429496729600000), .bool true, .bool false, .int .i64 (4294967296), .int .i64 (-3221225472), .int .i64 (-1073741824), .int .i64 (1288490188), .int .i64 (4294967296), .int .i64 (171798691840000), .int .i64 (1073741824), .int .i64 (429496729600000), .bool true, .bool false, .int .i64 (-4294967296), .int .i64 (3221225472), .int .i64 (-1073741824), .int .i64 (1288490188), .int .i64 (4294967296), .int .i64 (171798691840000), .int .i64 (1073741824), .int .i64 (429496729600000), .bool false, .bool true, .int .i64 (-4294967296), .int .i64 (-3221225472), .int .i64 (-1073741824), .int .i64 (1288490188), .int .i64 (4294967296), .int .i64 (171798691840000), .int .i64 (1073741824), .int .i64 (429496729600000), .bool false, .bool true, .int .i64 (42949672960000), .int .i64 (34359738368000), .slice (some ⟨x0, 0, none⟩) 3 3, .slice (some ⟨x1, 0, none⟩) 3 3, .slice (some ⟨x2, 0, none⟩) 2 2, .slice (some ⟨x5, 0, none⟩) 2 2, .slice (some ⟨x6, 0, none⟩) 3 3, .slice none 0 0, .int .i64 0, .int .i64 0, .int .i64 0, .int .i64 0, .int .i64 0, .int .i64 0, .int .i64 0, .int .i64 0, .slice none 0 0, .int .i64 0, .int .i64 0, .int .i64 0, .int .i64 0, .int .i64 0, .int .i64 0, .int .u32 0, .int .u32 0, .int .i64 (4294967296), .int .i64 (1073741824), .int .i64 (1073741824), .int .i64 0, .int .i64 0, .int .i64 0, .int .i64 0]
def sq7 (x0 x1 x2 x3 x4 x5 x6 x7 : Nat) : List Value := [.int .i64 (4294967296000), .int .i64 (1717986918400), .int .i64 (5153960755200), .int .i64 (6012954214400), .int .i64 (4294967296), .int .i64 (3221225472), .int .i64 (-1073741824), .int .i64 (1288490188), .int .i64 (4294967296), .int .i64 (171798691840000), .int .i64 (1073741824), .int .i64 (429496729600000), .bool true, .bool false, .int .i64 (4294967296), .int .i64 (-3221225472), .int .i64 (-1073741824), .int .i64 (1288490188), .int .i64 (4294967296), .int .i64 (171798691840000), .int .i64 (1073741824), .int .i64 (429496729600000), .bool true, .bool false, .int .i64 (-4294967296), .int .i64 (3221225472), .int .i64 (-1073741824), .int .i64 (1288490188), .int .i64 (4294967296), .int .i64 (171798691840000), .int .i64 (1073741824), .int .i64 (429496729600000), .bool false, .bool true, .int .i64 (-4294967296), .int .i64 (-3221225472), .int .i64 (-1073741824), .int .i64 (1288490188), .int .i64 (4294967296), .int .i64 (171798691840000), .int .i64 (1073741824), .int .i64 (429496729600000), .bool false, .bool true, .int .i64 (42949672960000), .int .i64 (34359738368000), .slice (some ⟨x0, 0, none⟩) 3 3, .slice (some ⟨x1, 0, none⟩) 3 3, .slice (some ⟨x2, 0, none⟩) 2 2, .slice (some ⟨x5, 0, none⟩) 2 2, .slice (some ⟨x6, 0, none⟩) 3 3, .slice (some ⟨x7, 0, none⟩) 2 2, .int .i64 (4294967296), .int .i64 (1073741824), .int .i64 0, .int .i64 0, .int .i64 0, .int .i64 0, .int .i64 0, .int .i64 0, .slice none 0 0, .int .i64 0, .int .i64 0, .int .i64 0, .int .i64 0, .int .i64 0, .int .i64 0, .int .u32 0, .int .u32 0, .int .i64 (4294967296), .int .i64 (1073741824), .int .i64 (1073741824), .int .i64 0, .int .i64 0, .int .i64 0, .int .i64 0]
def sq8 (x0 x1 x2 x3 x4 x5 x6 x7 : Nat) : List Value := [.int .i64 (4294967296000), .int .i64 (1717986918400), .int .i64 (5153960755200), .int .i64 (6012954214400), .int .i64 (4294967296), .int .i64 (3221225472), .int .i64 (-1073741824), .int .i64 (1288490188), .int .i64 (4294967296), .int .i64 (171798691840000), .int .i64 (1073741824), .int .i64 (429496729600000), .bool true, .bool false, .int .i64 (4294967296), .int .i64 (-3221225472), .int .i64 (-1073741824), .int .i64 (1288490188), .int .i64 (4294967296), .int .i64 (171798691840000), .int .i64 (1073741824), .int .i64 (429496729600000), .bool true, .bool false, .int .i64 (-4294967296), .int .i64 (3221225472), .int .i64 (-1073741824), .int .i64 (1288490188), .int .i64 (4294967296), .int .i64 (171798691840000), .int .i64 (1073741824), .int .i64 (429496729600000), .bool false, .bool true, .int .i64 (-4294967296), .int .i64 (-3221225472), .int .i64 (-1073741824), .int .i64 (1288490188), .int .i64 (4294967296), .int .i64 (171798691840000), .int .i64 (1073741824), .int .i64 (429496729600000), .bool false, .bool true, .int .i64 (42949672960000), .int .i64 (34359738368000), .slice (some ⟨x0, 0, none⟩) 3 3, .slice (some ⟨x1, 0, none⟩) 3 3, .slice (some ⟨x2, 0, none⟩) 2 2, .slice (some ⟨x5, 0, none⟩) 2 2, .slice (some ⟨x6, 0, none⟩) 3 3, .slice (some ⟨x7, 0, none⟩) 2 2, .int .i64 (4294967296), .int .i64 (1073741824), .int .i64 (386547056640), .int .i64 (3006477107200), .int .i64 (268435456), .int .i64 0, .int .i64 0, .int .i64 0, .slice none 0 0, .int .i64 0, .int .i64 0, .int .i64 0, .int .i64 0, .int .i64 0, .int .i64 0, .int .u32 0, .int .u32 0, .int .i64 (4294967296), .int .i64 (1073741824), .int .i64 (1073741824), .int .i64 0, .int .i64 0, .int .i64 0, .int .i64 0]
def sq9 (x0 x1 x2 x3 x4 x5 x6 x7 : Nat) : List Value := [.int .i64 (4294967296000), .int .i64 (1717986918400), .int .i64 (5153960755200), .int .i64 (6012954214400), .int .i64 (4294967296), .int .i64 (3221225472), .int .i64 (-1073741824), .int .i64 (1288490188), .int .i64 (4294967296), .int .i64 (171798691840000), .int .i64 (1073741824), .int .i64 (429496729600000), .bool true, .bool false, .int .i64 (4294967296), .int .i64 (-3221225472), .int .i64 (-1073741824), .int .i64 (1288490188), .int .i64 (4294967296), .int .i64 (171798691840000), .int .i64 (1073741824), .int .i64 (429496729600000), .bool true, .bool false, .int .i64 (-4294967296), .int .i64 (3221225472), .int .i64 (-1073741824), .int .i64 (1288490188), .int .i64 (4294967296), .int .i64 (171798691840000), .int .i64 (1073741824), .int .i64 (429496729600000), .bool false, .bool true, .int .i64 (-4294967296), .int .i64 (-3221225472), .int .i64 (-1073741824), .int .i64 (1288490188), .int .i64 (4294967296), .int .i64 (171798691840000), .int .i64 (1073741824), .int .i64 (429496729600000), .bool false, .bool true, .int .i64 (42949672960000), .int .i64 (34359738368000), .slice (some ⟨x0, 0, none⟩) 3 3, .slice (some ⟨x1, 0, none⟩) 3 3, .slice (some ⟨x2, 0, none⟩) 2 2, .slice (some ⟨x5, 0, none⟩) 2 2, .slice (some ⟨x6, 0, none⟩) 3 3, .slice (some ⟨x7, 0, none⟩) 2 2, .int .i64 (4294967296), .int .i64 (1073741824), .int .i64 (386547056640), .int .i64 (3006477107200), .int .i64 (268435456), .int .i64 (214748364800), .int .i64 (2147483648000), .int .i64 (12884901888), .slice none 0 0, .int .i64 0, .int .i64 0, .int .i64 0, .int .i64 0, .int .i64 0, .int .i64 0, .int .u32 0, .int .u32 0, .int .i64 (4294967296), .int .i64 (1073741824), .int .i64 (1073741824), .int .i64 0, .int .i64 0, .int .i64 0, .int .i64 0]
def sq10 (x0 x1 x2 x3 x4 x5 x6 x7 x8 : Nat) : List Value := [.int .i64 (4294967296000), .int .i64 (1717986918400), .int .i64 (5153960755200), .int .i64 (6012954214400), .int .i64 (4294967296), .int .i64 (3221225472), .int .i64 (-1073741824), .int .i64 (1288490188), .int .i64 (4294967296), .int .i64 (171798691840000), .int .i64 (1073741824), .int .i64 (429496729600000), .bool true, .bool false, .int .i64 (4294967296), .int .i64 (-3221225472), .int .i64 (-1073741824), .int .i64 (1288490188), .int .i64 (4294967296), .int .i64 (171798691840000), .int .i64 (1073741824), .int .i64 (429496729600000), .bool true, .bool false, .int .i64 (-4294967296), .int .i64 (3221225472), .int .i64 (-1073741824), .int .i64 (1288490188), .int .i64 (4294967296), .int .i64 (171798691840000), .int .i64 (1073741824), .int .i64 (429496729600000), .bool false, .bool true, .int .i64 (-4294967296), .int .i64 (-3221225472), .int .i64 (-1073741824), .int .i64 (1288490188), .int .i64 (4294967296), .int .i64 (171798691840000), .int .i64 (1073741824), .int .i64 (429496729600000), .bool false, .bool true, .int .i64 (42949672960000), .int .i64 (34359738368000), .slice (some ⟨x0, 0, none⟩) 3 3, .slice (some ⟨x1, 0, none⟩) 3 3, .slice (some ⟨x2, 0, none⟩) 2 2, .slice (some ⟨x5, 0, none⟩) 2 2, .slice (some ⟨x6, 0, none⟩) 3 3, .slice (some ⟨x7, 0, none⟩) 2 2, .int .i64 (4294967296), .int .i64 (1073741824), .int .i64 (386547056640), .int .i64 (3006477107200), .int .i64 (268435456), .int .i64 (214748364800), .int .i64 (2147483648000), .int .i64 (12884901888), .slice (some ⟨x8, 0, none⟩) 3 3, .int .i64 (17179869184), .int .i64 (2), .int .i64 0, .int .i64 0, .int .i64 0, .int .i64 0, .int .u32 0, .int .u32 0, .int .i64 (4294967296), .int .i64 (1073741824), .int .i64 (1073741824), .int .i64 0, .int .i64 0, .int .i64 0, .int .i64 0]
def sq11 (x0 x1 x2 x3 x4 x5 x6 x7 x8 : Nat) : List Value := [.int .i64 (4294967296000), .int .i64 (1717986918400), .int .i64 (5153960755200), .int .i64 (6012954214400), .int .i64 (4294967296), .int .i64 (3221225472), .int .i64 (-1073741824), .int .i64 (1288490188), .int .i64 (4294967296), .int .i64 (171798691840000), .int .i64 (1073741824), .int .i64 (429496729600000), .bool true, .bool false, .int .i64 (4294967296), .int .i64 (-3221225472), .int .i64 (-1073741824), .int .i64 (1288490188), .int .i64 (4294967296), .int .i64 (171798691840000), .int .i64 (1073741824), .int .i64 (429496729600000), .bool true, .bool false, .int .i64 (-4294967296), .int .i64 (3221225472), .int .i64 (-1073741824), .int .i64 (1288490188), .int .i64 (4294967296), .int .i64 (171798691840000), .int .i64 (1073741824), .int .i64 (429496729600000), .bool false, .bool true, .int .i64 (-4294967296), .int .i64 (-3221225472), .int .i64 (-1073741824), .int .i64 (1288490188), .int .i64 (4294967296), .int .i64 (171798691840000), .int .i64 (1073741824), .int .i64 (429496729600000), .bool false, .bool true, .int .i64 (42949672960000), .int .i64 (34359738368000), .slice (some ⟨x0, 0, none⟩) 3 3, .slice (some ⟨x1, 0, none⟩) 3 3, .slice (some ⟨x2, 0, none⟩) 2 2, .slice (some ⟨x5, 0, none⟩) 2 2, .slice (some ⟨x6, 0, none⟩) 3 3, .slice (some ⟨x7, 0, none⟩) 2 2, .int .i64 (4294967296), .int .i64 (1073741824), .int .i64 (386547056640), .int .i64 (3006477107200), .int .i64 (268435456), .int .i64 (214748364800), .int .i64 (2147483648000), .int .i64 (12884901888), .slice (some ⟨x8, 0, none⟩) 3 3, .int .i64 (17179869184), .int .i64 (2), .int .i64 (429496729600), .int .i64 (858993459200), .int .i64 (8589934592000), .int .i64 (2684354560), .int .u32 268435456, .int .u32 1073741824, .int .i64 (4294967296), .int .i64 (1073741824), .int .i64 (1073741824), .int .i64 (1073741824), .int .i64 (1073741824), .int .i64 0, .int .i64 0]
set_option maxRecDepth 100000 in
set_option maxHeartbeats 8000000 in
theorem lSample_tail (w W : World) (S : SmS w W (smL 4) []) (u2 u3 u4 u5 u6 u7 u8 u9 u10 u11 u12 u13 u14 u15 u16 u17 u18 u19 u20 u21 u22 u23 u24 u25 u26 u27 u28 u29 u30 u31 u32 u33 u34 u35 u36 u37 u38 u39 u40 u41 u42 u43 u44 u45 u46 u47 u48 u49 u50 u51 u52 u53 u54 u55 u56 u57 u58 u59 u60 u61 u62 u63 u64 u65 u66 u67 u68 u69 u70 u71 u72 u73 u74 u75 u76 u77 u78 u79 u80 u81 u82 u83 u84 u85 u86 u87 u88 u89 u90 u91 u92 u93 u94 u95 u96 u97 u98 u99 u100 u101 u102 u103 u104 u105 u106 u107 u108 u109 u110 u111 u112 u113 u114 u115 u116 : Value) :
    Code.wp Try.prog (smT 12) (bodyPost Try.prog Try.f35 fun e w' => ∃ n, e = .returned (.agg (carL (smpC n)).toArray) ∧ CrM w'.heap.size w' (smpC n) ∧ Below w.heap.size w w') ⟨(Value.pointer (some ⟨w.heap.size, 0, none⟩) :: Value.pointer (some ⟨w.heap.size + 1, 0, none⟩) :: u2 :: u3 :: u4 :: u5 :: u6 :: u7 :: u8 :: u9 :: u10 :: u11 :: u12 :: u13 :: u14 :: u15 :: u16 :: u17 :: u18 :: u19 :: u20 :: u21 :: u22 :: u23 :: u24 :: u25 :: u26 :: u27 :: u28 :: u29 :: u30 :: u31 :: u32 :: u33 :: u34 :: u35 :: u36 :: u37 :: u38 :: u39 :: u40 :: u41 :: u42 :: u43 :: u44 :: u45 :: u46 :: u47 :: u48 :: u49 :: u50 :: u51 :: u52 :: u53 :: u54 :: u55 :: u56 :: u57 :: u58 :: u59 :: u60 :: u61 :: u62 :: u63 :: u64 :: u65 :: u66 :: u67 :: u68 :: u69 :: u70 :: u71 :: u72 :: u73 :: u74 :: u75 :: u76 :: u77 :: u78 :: u79 :: u80 :: u81 :: u82 :: u83 :: u84 :: u85 :: u86 :: u87 :: u88 :: u89 :: u90 :: u91 :: u92 :: u93 :: u94 :: u95 :: u96 :: u97 :: u98 :: u99 :: u100 :: u101 :: u102 :: u103 :: u104 :: u105 :: u106 :: u107 :: u108 :: u109 :: u110 :: u111 :: u112 :: u113 :: u114 :: u115 :: u116 :: []).toArray, []⟩ W := by
  have S := Lib.hid S
  conv => arg 2; whnf
  have k44 := S.out.c.c 44 _ rfl
  have k45 := S.out.c.c 45 _ rfl
  have kf := S.out.c.f
  have kl := S.out.c.lt
  have kz0 : w.heap.size < W.heap.size := by omega
  have kz1 : w.heap.size < W.heap.size + 1 := by omega
  have kz2 : w.heap.size < W.heap.size + 1 + 1 := by omega
  have kz3 : w.heap.size + 1 < W.heap.size + 1 := by omega
  have kz4 : w.heap.size + 1 < W.heap.size + 1 + 1 := by omega
  have kz5 : w.heap.size + 1 < W.heap.size + 1 + 1 + 1 := by omega
  go_wp2_with fail
  refine (lwhole_any (10000) (42949672960000) (by decide +kernel) _).mono ?_
  rintro e W ⟨rfl, rfl⟩
  go_wp2_with fail
  refine (lwhole_any (8000) (34359738368000) (by decide +kernel) _).mono ?_
  rintro e W ⟨rfl, rfl⟩
  go_wp2_with fail
  refine calls_gen (S := fun W => SmS w W (sq3 ) []) ((S.out.set 44 _ _ rfl).set 45 _ _ rfl) (fun wx hS => ?_)
  have S3 := Lib.hid hS
  clear kz0 kz1 kz2 kz3 kz4 kz5 k44 k45 kf kl
  clear hS S
  refine (lwhole_any (-1) (-4294967296) (by decide +kernel) _).mono ?_
  rintro e w3 ⟨rfl, rfl⟩
  have k46 := S3.out.c.c 46 _ rfl
  have k47 := S3.out.c.c 47 _ rfl
  have k48 := S3.out.c.c 48 _ rfl
  have k49 := S3.out.c.c 49 _ rfl
  have kf := S3.out.c.f
  have kl := S3.out.c.lt
  have kz0 : w.heap.size < w3.heap.size := by omega
  have kz1 : w.heap.size < w3.heap.size + 1 := by omega
  have kz2 : w.heap.size < w3.heap.size + 1 + 1 := by omega
  have kz3 : w.heap.size + 1 < w3.heap.size + 1 := by omega
  have kz4 : w.heap.size + 1 < w3.heap.size + 1 + 1 := by omega
  have kz5 : w.heap.size + 1 < w3.heap.size + 1 + 1 + 1 := by omega
  go_wp2_with fail
  refine (lwhole_any (-3000) (-12884901888000) (by decide +kernel) _).mono ?_
  rintro e w3 ⟨rfl, rfl⟩
  go_wp2_with fail
  refine (lwhole_any (1) (4294967296) (by decide +kernel) _).mono ?_
  rintro e w3 ⟨rfl, rfl⟩
  go_wp2_with fail
  refine (lwhole_any (4000) (17179869184000) (by decide +kernel) _).mono ?_
  rintro e w3 ⟨rfl, rfl⟩
  go_wp2_with fail
  refine calls_gen (S := fun W => SmS w W (sq4 (w3.heap.size) (w3.heap.size + 1)) [(w3.heap.size + 1, [.int .i64 (0), .int .i64 (536870912), .int .i64 (4294967296)]), (w3.heap.size, [.int .i64 (-4294967296), .int .i64 (-12884901888000), .int .i64 (0), .int .i64 (0), .int .i64 (4294967296), .int .i64 (17179869184000)])]) (((S3.out.set 46 _ _ rfl).new [.int .i64 (-4294967296), .int .i64 (-12884901888000), .int .i64 (0), .int .i64 (0), .int .i64 (4294967296), .int .i64 (17179869184000)] _ _ (by simp [set_size])).new [.int .i64 (0), .int .i64 (536870912), .int .i64 (4294967296)] _ _ (by simp [set_size])) (fun wx hS => ?_)
  have S4 := Lib.hid hS
  clear kz0 kz1 kz2 kz3 kz4 kz5 k46 k47 k48 k49 kf kl
  clear hS S3
  refine (lwhole_any (8000) (34359738368000) (by decide +kernel) _).mono ?_
  rintro e w4 ⟨rfl, rfl⟩
  have k47 := S4.out.c.c 47 _ rfl
  have k48 := S4.out.c.c 48 _ rfl
  have k49 := S4.out.c.c 49 _ rfl
  have kf := S4.out.c.f
  have kl := S4.out.c.lt
  have kz0 : w.heap.size < w4.heap.size := by omega
  have kz1 : w.heap.size < w4.heap.size + 1 := by omega
  have kz2 : w.heap.size < w4.heap.size + 1 + 1 := by omega
  have kz3 : w.heap.size + 1 < w4.heap.size + 1 := by omega
  have kz4 : w.heap.size + 1 < w4.heap.size + 1 + 1 := by omega
  have kz5 : w.heap.size + 1 < w4.heap.size + 1 + 1 + 1 := by omega
  go_wp2_with fail
  refine calls_gen (S := fun W => SmS w W (sq5 (w3.heap.size) (w3.heap.size + 1) (w4.heap.size) (w4.heap.size + 1) (w4.heap.size + 2) (w4.heap.size + 3)) [(w4.heap.size + 3, [.slice (some ⟨w4.heap.size + 1, 0, none⟩) 3 3, .slice (some ⟨w4.heap.size + 2, 0, none⟩) 3 3]), (w4.heap.size + 2, [.int .i64 (0), .int .i64 (4294967296), .int .i64 (3221225472)]), (w4.heap.size + 1, [.int .i64 (0), .int .i64 (5368709120), .int .i64 (4294967296)]), (w4.heap.size, [.int .i64 (0), .int .i64 (34359738368000)]), (w3.heap.size + 1, [.int .i64 (0), .int .i64 (536870912), .int .i64 (4294967296)]), (w3.heap.size, [.int .i64 (-4294967296), .int .i64 (-12884901888000), .int .i64 (0), .int .i64 (0), .int .i64 (4294967296), .int .i64 (17179869184000)])]) (((((((S4.out.set 47 _ _ rfl).set 48 _ _ rfl).set 49 _ _ rfl).new [.int .i64 (0), .int .i64 (34359738368000)] _ _ (by simp [set_size])).new [.int .i64 (0), .int .i64 (5368709120), .int .i64 (4294967296)] _ _ (by simp [set_size])).new [.int .i64 (0), .int .i64 (4294967296), .int .i64 (3221225472)] _ _ (by simp [set_size])).new [.slice (some ⟨w4.heap.size + 1, 0, none⟩) 3 3, .slice (some ⟨w4.heap.size + 2, 0, none⟩) 3 3] _ _ (by simp [set_size])) (fun wx hS => ?_)
  have S5 := Lib.hid hS
  clear kz0 kz1 kz2 kz3 kz4 kz5 k47 k48 k49 kf kl
  clear hS S4
  refine (lwhole_any (100) (429496729600) (by decide +kernel) _).mono ?_
  rintro e w5 ⟨rfl, rfl⟩
  have k50 := S5.out.c.c 50 _ rfl
  have kf := S5.out.c.f
  have kl := S5.out.c.lt
  have kz0 : w.heap.size < w5.heap.size := by omega
  have kz1 : w.heap.size < w5.heap.size + 1 := by omega
  have kz2 : w.heap.size < w5.heap.size + 1 + 1 := by omega
  have kz3 : w.heap.size + 1 < w5.heap.size + 1 := by omega
  have kz4 : w.heap.size + 1 < w5.heap.size + 1 + 1 := by omega
  have kz5 : w.heap.size + 1 < w5.heap.size + 1 + 1 + 1 := by omega
  go_wp2_with fail
  refine (lwhole_any (200) (858993459200) (by decide +kernel) _).mono ?_
  rintro e w5 ⟨rfl, rfl⟩
  go_wp2_with fail
  refine (lwhole_any (600) (2576980377600) (by decide +kernel) _).mono ?_
  rintro e w5 ⟨rfl, rfl⟩
  go_wp2_with fail
  refine (lwhole_any (150) (644245094400) (by decide +kernel) _).mono ?_
  rintro e w5 ⟨rfl, rfl⟩
  go_wp2_with fail
  refine calls_gen (S := fun W => SmS w W (sq6 (w3.heap.size) (w3.heap.size + 1) (w4.heap.size) (w4.heap.size + 1) (w4.heap.size + 2) (w4.heap.size + 3) (w5.heap.size)) [(w5.heap.size, [.int .i64 (0), .int .i64 (0), .int .i64 (429496729600), .int .i64 (858993459200), .int .i64 (2576980377600), .int .i64 (644245094400)]), (w4.heap.size + 3, [.slice (some ⟨w4.heap.size + 1, 0, none⟩) 3 3, .slice (some ⟨w4.heap.size + 2, 0, none⟩) 3 3]), (w4.heap.size + 2, [.int .i64 (0), .int .i64 (4294967296), .int .i64 (3221225472)]), (w4.heap.size + 1, [.int .i64 (0), .int .i64 (5368709120), .int .i64 (4294967296)]), (w4.heap.size, [.int .i64 (0), .int .i64 (34359738368000)]), (w3.heap.size + 1, [.int .i64 (0), .int .i64 (536870912), .int .i64 (4294967296)]), (w3.heap.size, [.int .i64 (-4294967296), .int .i64 (-12884901888000), .int .i64 (0), .int .i64 (0), .int .i64 (4294967296), .int .i64 (17179869184000)])]) ((S5.out.set 50 _ _ rfl).new [.int .i64 (0), .int .i64 (0), .int .i64 (429496729600), .int .i64 (858993459200), .int .i64 (2576980377600), .int .i64 (644245094400)] _ _ (by simp [set_size])) (fun wx hS => ?_)
  have S6 := Lib.hid hS
  clear kz0 kz1 kz2 kz3 kz4 kz5 k50 kf kl
  clear hS S5
  refine (lwhole_any (100) (429496729600) (by decide +kernel) _).mono ?_
  rintro e w6 ⟨rfl, rfl⟩
  have k51 := S6.out.c.c 51 _ rfl
  have k52 := S6.out.c.c 52 _ rfl
  have k53 := S6.out.c.c 53 _ rfl
  have kf := S6.out.c.f
  have kl := S6.out.c.lt
  have kz0 : w.heap.size < w6.heap.size := by omega
  have kz1 : w.heap.size < w6.heap.size + 1 := by omega
  have kz2 : w.heap.size < w6.heap.size + 1 + 1 := by omega
  have kz3 : w.heap.size + 1 < w6.heap.size + 1 := by omega
  have kz4 : w.heap.size + 1 < w6.heap.size + 1 + 1 := by omega
  have kz5 : w.heap.size + 1 < w6.heap.size + 1 + 1 + 1 := by omega
  go_wp2_with fail
  refine (lwhole_any (4000) (17179869184000) (by decide +kernel) _).mono ?_
  rintro e w6 ⟨rfl, rfl⟩
  go_wp2_with fail
  refine calls_gen (S := fun W => SmS w W (sq7 (w3.heap.size) (w3.heap.size + 1) (w4.heap.size) (w4.heap.size + 1) (w4.heap.size + 2) (w4.heap.size + 3) (w5.heap.size) (w6.heap.size)) [(w6.heap.size, [.int .i64 (0), .int .i64 (0), .int .i64 (429496729600), .int .i64 (17179869184000)]), (w5.heap.size, [.int .i64 (0), .int .i64 (0), .int .i64 (429496729600), .int .i64 (858993459200), .int .i64 (2576980377600), .int .i64 (644245094400)]), (w4.heap.size + 3, [.slice (some ⟨w4.heap.size + 1, 0, none⟩) 3 3, .slice (some ⟨w4.heap.size + 2, 0, none⟩) 3 3]), (w4.heap.size + 2, [.int .i64 (0), .int .i64 (4294967296), .int .i64 (3221225472)]), (w4.heap.size + 1, [.int .i64 (0), .int .i64 (5368709120), .int .i64 (4294967296)]), (w4.heap.size, [.int .i64 (0), .int .i64 (34359738368000)]), (w3.heap.size + 1, [.int .i64 (0), .int .i64 (536870912), .int .i64 (4294967296)]), (w3.heap.size, [.int .i64 (-4294967296), .int .i64 (-12884901888000), .int .i64 (0), .int .i64 (0), .int .i64 (4294967296), .int .i64 (17179869184000)])]) ((((S6.out.set 51 _ _ rfl).set 52 _ _ rfl).set 53 _ _ rfl).new [.int .i64 (0), .int .i64 (0), .int .i64 (429496729600), .int .i64 (17179869184000)] _ _ (by simp [set_size])) (fun wx hS => ?_)
  have S7 := Lib.hid hS
  clear kz0 kz1 kz2 kz3 kz4 kz5 k51 k52 k53 kf kl
  clear hS S6
  refine (lwhole_any (90) (386547056640) (by decide +kernel) _).mono ?_
  rintro e w7 ⟨rfl, rfl⟩
  have k54 := S7.out.c.c 54 _ rfl
  have k55 := S7.out.c.c 55 _ rfl
  have k56 := S7.out.c.c 56 _ rfl
  have kf := S7.out.c.f
  have kl := S7.out.c.lt
  have kz0 : w.heap.size < w7.heap.size := by omega
  have kz1 : w.heap.size < w7.heap.size + 1 := by omega
  have kz2 : w.heap.size < w7.heap.size + 1 + 1 := by omega
  have kz3 : w.heap.size + 1 < w7.heap.size + 1 := by omega
  have kz4 : w.heap.size + 1 < w7.heap.size + 1 + 1 := by omega
  have kz5 : w.heap.size + 1 < w7.heap.size + 1 + 1 + 1 := by omega
  go_wp2_with fail
  refine (lwhole_any (700) (3006477107200) (by decide +kernel) _).mono ?_
  rintro e w7 ⟨rfl, rfl⟩
  go_wp2_with fail
  refine calls_gen (S := fun W => SmS w W (sq8 (w3.heap.size) (w3.heap.size + 1) (w4.heap.size) (w4.heap.size + 1) (w4.heap.size + 2) (w4.heap.size + 3) (w5.heap.size) (w6.heap.size)) [(w6.heap.size, [.int .i64 (0), .int .i64 (0), .int .i64 (429496729600), .int .i64 (17179869184000)]), (w5.heap.size, [.int .i64 (0), .int .i64 (0), .int .i64 (429496729600), .int .i64 (858993459200), .int .i64 (2576980377600), .int .i64 (644245094400)]), (w4.heap.size + 3, [.slice (some ⟨w4.heap.size + 1, 0, none⟩) 3 3, .slice (some ⟨w4.heap.size + 2, 0, none⟩) 3 3]), (w4.heap.size + 2, [.int .i64 (0), .int .i64 (4294967296), .int .i64 (3221225472)]), (w4.heap.size + 1, [.int .i64 (0), .int .i64 (5368709120), .int .i64 (4294967296)]), (w4.heap.size, [.int .i64 (0), .int .i64 (34359738368000)]), (w3.heap.size + 1, [.int .i64 (0), .int .i64 (536870912), .int .i64 (4294967296)]), (w3.heap.size, [.int .i64 (-4294967296), .int .i64 (-12884901888000), .int .i64 (0), .int .i64 (0), .int .i64 (4294967296), .int .i64 (17179869184000)])]) (((S7.out.set 54 _ _ rfl).set 55 _ _ rfl).set 56 _ _ rfl) (fun wx hS => ?_)
  have S8 := Lib.hid hS
  clear kz0 kz1 kz2 kz3 kz4 kz5 k54 k55 k56 kf kl
  clear hS S7
  refine (lwhole_any (50) (214748364800) (by decide +kernel) _).mono ?_
  rintro e w8 ⟨rfl, rfl⟩
  have k57 := S8.out.c.c 57 _ rfl
  have k58 := S8.out.c.c 58 _ rfl
  have k59 := S8.out.c.c 59 _ rfl
  have kf := S8.out.c.f
  have kl := S8.out.c.lt
  have kz0 : w.heap.size < w8.heap.size := by omega
  have kz1 : w.heap.size < w8.heap.size + 1 := by omega
  have kz2 : w.heap.size < w8.heap.size + 1 + 1 := by omega
  have kz3 : w.heap.size + 1 < w8.heap.size + 1 := by omega
  have kz4 : w.heap.size + 1 < w8.heap.size + 1 + 1 := by omega
  have kz5 : w.heap.size + 1 < w8.heap.size + 1 + 1 + 1 := by omega
  go_wp2_with fail
  refine (lwhole_any (500) (2147483648000) (by decide +kernel) _).mono ?_
  rintro e w8 ⟨rfl, rfl⟩
  go_wp2_with fail
  refine (lwhole_any (3) (12884901888) (by decide +kernel) _).mono ?_
  rintro e w8 ⟨rfl, rfl⟩
  go_wp2_with fail
  refine calls_gen (S := fun W => SmS w W (sq9 (w3.heap.size) (w3.heap.size + 1) (w4.heap.size) (w4.heap.size + 1) (w4.heap.size + 2) (w4.heap.size + 3) (w5.heap.size) (w6.heap.size)) [(w6.heap.size, [.int .i64 (0), .int .i64 (0), .int .i64 (429496729600), .int .i64 (17179869184000)]), (w5.heap.size, [.int .i64 (0), .int .i64 (0), .int .i64 (429496729600), .int .i64 (858993459200), .int .i64 (2576980377600), .int .i64 (644245094400)]), (w4.heap.size + 3, [.slice (some ⟨w4.heap.size + 1, 0, none⟩) 3 3, .slice (some ⟨w4.heap.size + 2, 0, none⟩) 3 3]), (w4.heap.size + 2, [.int .i64 (0), .int .i64 (4294967296), .int .i64 (3221225472)]), (w4.heap.size + 1, [.int .i64 (0), .int .i64 (5368709120), .int .i64 (4294967296)]), (w4.heap.size, [.int .i64 (0), .int .i64 (34359738368000)]), (w3.heap.size + 1, [.int .i64 (0), .int .i64 (536870912), .int .i64 (4294967296)]), (w3.heap.size, [.int .i64 (-4294967296), .int .i64 (-12884901888000), .int .i64 (0), .int .i64 (0), .int .i64 (4294967296), .int .i64 (17179869184000)])]) (((S8.out.set 57 _ _ rfl).set 58 _ _ rfl).set 59 _ _ rfl) (fun wx hS => ?_)
  have S9 := Lib.hid hS
  clear kz0 kz1 kz2 kz3 kz4 kz5 k57 k58 k59 kf kl
  clear hS S8
  refine (lwhole_any (3) (12884901888) (by decide +kernel) _).mono ?_
  rintro e w9 ⟨rfl, rfl⟩
  have k60 := S9.out.c.c 60 _ rfl
  have k61 := S9.out.c.c 61 _ rfl
  have k62 := S9.out.c.c 62 _ rfl
  have kf := S9.out.c.f
  have kl := S9.out.c.lt
  have kz0 : w.heap.size < w9.heap.size := by omega
  have kz1 : w.heap.size < w9.heap.size + 1 := by omega
  have kz2 : w.heap.size < w9.heap.size + 1 + 1 := by omega
  have kz3 : w.heap.size + 1 < w9.heap.size + 1 := by omega
  have kz4 : w.heap.size + 1 < w9.heap.size + 1 + 1 := by omega
  have kz5 : w.heap.size + 1 < w9.heap.size + 1 + 1 + 1 := by omega
  go_wp2_with fail
  refine (lwhole_any (2) (8589934592) (by decide +kernel) _).mono ?_
  rintro e w9 ⟨rfl, rfl⟩
  go_wp2_with fail
  refine (lwhole_any (4) (17179869184) (by decide +kernel) _).mono ?_
  rintro e w9 ⟨rfl, rfl⟩
  go_wp2_with fail
  refine calls_gen (S := fun W => SmS w W (sq10 (w3.heap.size) (w3.heap.size + 1) (w4.heap.size) (w4.heap.size + 1) (w4.heap.size + 2) (w4.heap.size + 3) (w5.heap.size) (w6.heap.size) (w9.heap.size)) [(w9.heap.size, [.int .i64 (12884901888), .int .i64 (8589934592), .int .i64 (4294967296)]), (w6.heap.size, [.int .i64 (0), .int .i64 (0), .int .i64 (429496729600), .int .i64 (17179869184000)]), (w5.heap.size, [.int .i64 (0), .int .i64 (0), .int .i64 (429496729600), .int .i64 (858993459200), .int .i64 (2576980377600), .int .i64 (644245094400)]), (w4.heap.size + 3, [.slice (some ⟨w4.heap.size + 1, 0, none⟩) 3 3, .slice (some ⟨w4.heap.size + 2, 0, none⟩) 3 3]), (w4.heap.size + 2, [.int .i64 (0), .int .i64 (4294967296), .int .i64 (3221225472)]), (w4.heap.size + 1, [.int .i64 (0), .int .i64 (5368709120), .int .i64 (4294967296)]), (w4.heap.size, [.int .i64 (0), .int .i64 (34359738368000)]), (w3.heap.size + 1, [.int .i64 (0), .int .i64 (536870912), .int .i64 (4294967296)]), (w3.heap.size, [.int .i64 (-4294967296), .int .i64 (-12884901888000), .int .i64 (0), .int .i64 (0), .int .i64 (4294967296), .int .i64 (17179869184000)])]) ((((S9.out.set 60 _ _ rfl).set 61 _ _ rfl).set 62 _ _ rfl).new [.int .i64 (12884901888), .int .i64 (8589934592), .int .i64 (4294967296)] _ _ (by simp [set_size])) (fun wx hS => ?_)
  have S10 := Lib.hid hS
  clear kz0 kz1 kz2 kz3 kz4 kz5 k60 k61 k62 kf kl
  clear hS S9
  refine (lwhole_any (100) (429496729600) (by decide +kernel) _).mono ?_
  rintro e w10 ⟨rfl, rfl⟩
  have k63 := S10.out.c.c 63 _ rfl
  have k64 := S10.out.c.c 64 _ rfl
  have k65 := S10.out.c.c 65 _ rfl
  have k66 := S10.out.c.c 66 _ rfl
  have k67 := S10.out.c.c 67 _ rfl
  have k68 := S10.out.c.c 68 _ rfl
  have k72 := S10.out.c.c 72 _ rfl
  have k73 := S10.out.c.c 73 _ rfl
  have kf := S10.out.c.f
  have kl := S10.out.c.lt
  have kz0 : w.heap.size < w10.heap.size := by omega
  have kz1 : w.heap.size < w10.heap.size + 1 := by omega
  have kz2 : w.heap.size < w10.heap.size + 1 + 1 := by omega
  have kz3 : w.heap.size + 1 < w10.heap.size + 1 := by omega
  have kz4 : w.heap.size + 1 < w10.heap.size + 1 + 1 := by omega
  have kz5 : w.heap.size + 1 < w10.heap.size + 1 + 1 + 1 := by omega
  go_wp2_with fail
  refine (lwhole_any (200) (858993459200) (by decide +kernel) _).mono ?_
  rintro e w10 ⟨rfl, rfl⟩
  go_wp2_with fail
  refine (lwhole_any (2000) (8589934592000) (by decide +kernel) _).mono ?_
  rintro e w10 ⟨rfl, rfl⟩
  go_wp2_with fail
  refine calls_gen (S := fun W => SmS w W (sq11 (w3.heap.size) (w3.heap.size + 1) (w4.heap.size) (w4.heap.size + 1) (w4.heap.size + 2) (w4.heap.size + 3) (w5.heap.size) (w6.heap.size) (w9.heap.size)) [(w9.heap.size, [.int .i64 (12884901888), .int .i64 (8589934592), .int .i64 (4294967296)]), (w6.heap.size, [.int .i64 (0), .int .i64 (0), .int .i64 (429496729600), .int .i64 (17179869184000)]), (w5.heap.size, [.int .i64 (0), .int .i64 (0), .int .i64 (429496729600), .int .i64 (858993459200), .int .i64 (2576980377600), .int .i64 (644245094400)]), (w4.heap.size + 3, [.slice (some ⟨w4.heap.size + 1, 0, none⟩) 3 3, .slice (some ⟨w4.heap.size + 2, 0, none⟩) 3 3]), (w4.heap.size + 2, [.int .i64 (0), .int .i64 (4294967296), .int .i64 (3221225472)]), (w4.heap.size + 1, [.int .i64 (0), .int .i64 (5368709120), .int .i64 (4294967296)]), (w4.heap.size, [.int .i64 (0), .int .i64 (34359738368000)]), (w3.heap.size + 1, [.int .i64 (0), .int .i64 (536870912), .int .i64 (4294967296)]), (w3.heap.size, [.int .i64 (-4294967296), .int .i64 (-12884901888000), .int .i64 (0), .int .i64 (0), .int .i64 (4294967296), .int .i64 (17179869184000)])]) ((((((((S10.out.set 63 _ _ rfl).set 64 _ _ rfl).set 65 _ _ rfl).set 66 _ _ rfl).set 67 _ _ rfl).set 68 _ _ rfl).set 72 _ _ rfl).set 73 _ _ rfl) (fun wx hS => ?_)
  have S11 := Lib.hid hS
  clear kz0 kz1 kz2 kz3 kz4 kz5 k63 k64 k65 k66 k67 k68 k72 k73 kf kl
  clear hS S10
  refine (lwhole_any (600) (2576980377600) (by decide +kernel) _).mono ?_
  rintro e w11 ⟨rfl, rfl⟩
  have k74 := S11.out.c.c 74 _ rfl
  have k75 := S11.out.c.c 75 _ rfl
  have kf := S11.out.c.f
  have kl := S11.out.c.lt
  have kz0 : w.heap.size < w11.heap.size := by omega
  have kz1 : w.heap.size < w11.heap.size + 1 := by omega
  have kz2 : w.heap.size < w11.heap.size + 1 + 1 := by omega
  have kz3 : w.heap.size + 1 < w11.heap.size + 1 := by omega
  have kz4 : w.heap.size + 1 < w11.heap.size + 1 + 1 := by omega
  have kz5 : w.heap.size + 1 < w11.heap.size + 1 + 1 + 1 := by omega
  go_wp2_with fail
  rename_i K1 a1 K0 a0
  have A0 := Lib.hid a1
  clear a1
  refine (lwhole_any (200) (858993459200) (by decide +kernel) _).mono ?_
  rintro e w11 ⟨rfl, rfl⟩
  have SF : SmS w _ (carL (smpC (fun i => match i with | 0 => w3.heap.size | 1 => w3.heap.size + 1 | 2 => w4.heap.size | 3 => w4.heap.size + 1 | 4 => w4.heap.size + 2 | 5 => w4.heap.size + 3 | 6 => w5.heap.size | 7 => w6.heap.size | _ => w9.heap.size))) [(w9.heap.size, [.int .i64 (12884901888), .int .i64 (8589934592), .int .i64 (4294967296)]), (w6.heap.size, [.int .i64 (0), .int .i64 (0), .int .i64 (429496729600), .int .i64 (17179869184000)]), (w5.heap.size, [.int .i64 (0), .int .i64 (0), .int .i64 (429496729600), .int .i64 (858993459200), .int .i64 (2576980377600), .int .i64 (644245094400)]), (w4.heap.size + 3, [.slice (some ⟨w4.heap.size + 1, 0, none⟩) 3 3, .slice (some ⟨w4.heap.size + 2, 0, none⟩) 3 3]), (w4.heap.size + 2, [.int .i64 (0), .int .i64 (4294967296), .int .i64 (3221225472)]), (w4.heap.size + 1, [.int .i64 (0), .int .i64 (5368709120), .int .i64 (4294967296)]), (w4.heap.size, [.int .i64 (0), .int .i64 (34359738368000)]), (w3.heap.size + 1, [.int .i64 (0), .int .i64 (536870912), .int .i64 (4294967296)]), (w3.heap.size, [.int .i64 (-4294967296), .int .i64 (-12884901888000), .int .i64 (0), .int .i64 (0), .int .i64 (4294967296), .int .i64 (17179869184000)])] := ((S11.out.set 74 _ _ rfl).set 75 _ _ rfl)
  have SF := Lib.hid SF
  go_wp2_with fail
  refine A0.out _ _ (lSample_end w _ _ _ SF.out (fun W' hz hb => ?_) _ (fun W' hM hL => ⟨_, rfl, hM, hL⟩) _ _ _ _ _ _ _ _ _ _ _ _ _ _ _ _ _ _ _ _ _ _ _ _ _ _ _ _ _ _ _ _ _ _ _ _ _ _ _ _ _ _ _ _ _ _ _ _ _ _ _ _ _ _ _ _ _ _ _ _ _ _ _ _ _ _ _ _ _ _ _ _ _ _ _ _ _ _ _ _ _ _ _ _ _ _ _ _ _ _ _ _ _ _ _ _ _ _ _ _ _ _ _ _ _ _ _ _ _ _ _ _ _ _ _)
  · skip
    have b0 : BW W' (w3.heap.size) [.int .i64 (-4294967296), .int .i64 (-12884901888000), .int .i64 (0), .int .i64 (0), .int .i64 (4294967296), .int .i64 (17179869184000)] := hb _ _ (by simp)
    have b1 : BW W' (w3.heap.size + 1) [.int .i64 (0), .int .i64 (536870912), .int .i64 (4294967296)] := hb _ _ (by simp)
    have b2 : BW W' (w4.heap.size) [.int .i64 (0), .int .i64 (34359738368000)] := hb _ _ (by simp)
    have b3 : BW W' (w4.heap.size + 1) [.int .i64 (0), .int .i64 (5368709120), .int .i64 (4294967296)] := hb _ _ (by simp)
    have b4 : BW W' (w4.heap.size + 2) [.int .i64 (0), .int .i64 (4294967296), .int .i64 (3221225472)] := hb _ _ (by simp)
    have b5 : BW W' (w4.heap.size + 3) [.slice (some ⟨w4.heap.size + 1, 0, none⟩) 3 3, .slice (some ⟨w4.heap.size + 2, 0, none⟩) 3 3] := hb _ _ (by simp)
    have b6 : BW W' (w5.heap.size) [.int .i64 (0), .int .i64 (0), .int .i64 (429496729600), .int .i64 (858993459200), .int .i64 (2576980377600), .int .i64 (644245094400)] := hb _ _ (by simp)
    have b7 : BW W' (w6.heap.size) [.int .i64 (0), .int .i64 (0), .int .i64 (429496729600), .int .i64 (17179869184000)] := hb _ _ (by simp)
    have b8 : BW W' (w9.heap.size) [.int .i64 (12884901888), .int .i64 (8589934592), .int .i64 (4294967296)] := hb _ _ (by simp)
    refine smp_m _ _ W' (fun i hi => ?_) b0 b1 b2 b3 b4 b5 b6 b7 b8
    rcases (show i = 0 ∨ i = 1 ∨ i = 2 ∨ i = 3 ∨ i = 4 ∨ i = 5 ∨ i = 6 ∨ i = 7 ∨ i = 8 by omega) with rfl | rfl | rfl | rfl | rfl | rfl | rfl | rfl | rfl
    · exact b0.lt
    · exact b1.lt
    · exact b2.lt
    · exact b3.lt
    · exact b4.lt
    · exact b5.lt
    · exact b6.lt
    · exact b7.lt
    · exact b8.lt
end Go.Proofs.Ytbpmbdnhfkfkhaa

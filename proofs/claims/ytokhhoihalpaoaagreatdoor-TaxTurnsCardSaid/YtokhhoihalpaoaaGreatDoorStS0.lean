/- Contracts of functions, walked. -/
import Derived.Test.YtokhhoihalpaoaaGreatDoorProg
import Derived.Test.YtokhhoihalpaoaaGreatDoorAwA
set_option linter.all false
namespace Go.Proofs.Tryz
open Go Go.Am Go.RowKit
set_option maxRecDepth 100000
@[go_sem] theorem sz3 : szT Tryz.prog 3 = some 1 := by kernel_rfl
@[go_sem] theorem by3 : bytesT Tryz.prog 3 = some 8 := by kernel_rfl
@[go_sem] theorem ag3 : isAggT Tryz.prog 3 = some false := by kernel_rfl
@[go_sem] theorem el3 : elemT Tryz.prog 3 = none := by kernel_rfl
@[go_sem] theorem ze3 : zeroT Tryz.prog 3 = some (.int .i64 0) := by kernel_rfl
@[go_sem] theorem un3 : Tryz.prog.underlying 3 = some (.int .i64) := by kernel_rfl
@[go_sem] theorem sz4 : szT Tryz.prog 4 = some 1 := by kernel_rfl
@[go_sem] theorem by4 : bytesT Tryz.prog 4 = some 1 := by kernel_rfl
@[go_sem] theorem ag4 : isAggT Tryz.prog 4 = some false := by kernel_rfl
@[go_sem] theorem el4 : elemT Tryz.prog 4 = none := by kernel_rfl
@[go_sem] theorem ze4 : zeroT Tryz.prog 4 = some (.bool false) := by kernel_rfl
@[go_sem] theorem un4 : Tryz.prog.underlying 4 = some .bool := by kernel_rfl
@[go_sem] theorem sz5 : szT Tryz.prog 5 = some 1 := by kernel_rfl
@[go_sem] theorem by5 : bytesT Tryz.prog 5 = some 1 := by kernel_rfl
@[go_sem] theorem ag5 : isAggT Tryz.prog 5 = some false := by kernel_rfl
@[go_sem] theorem el5 : elemT Tryz.prog 5 = none := by kernel_rfl
@[go_sem] theorem ze5 : zeroT Tryz.prog 5 = some (.int .u8 0) := by kernel_rfl
@[go_sem] theorem fo7x0 : (fieldOf Tryz.prog 7 0).map (fun f => (f.type, f.offset)) = some (2, 0) := by kernel_rfl
@[go_sem] theorem fo7x1 : (fieldOf Tryz.prog 7 1).map (fun f => (f.type, f.offset)) = some (3, 1) := by kernel_rfl
@[go_sem] theorem fo7x2 : (fieldOf Tryz.prog 7 2).map (fun f => (f.type, f.offset)) = some (4, 2) := by kernel_rfl
@[go_sem] theorem fo7x3 : (fieldOf Tryz.prog 7 3).map (fun f => (f.type, f.offset)) = some (6, 3) := by kernel_rfl
@[go_sem] theorem fo8x0 : (fieldOf Tryz.prog 8 0).map (fun f => (f.type, f.offset)) = some (2, 0) := by kernel_rfl
@[go_sem] theorem fo8x1 : (fieldOf Tryz.prog 8 1).map (fun f => (f.type, f.offset)) = some (3, 1) := by kernel_rfl
@[go_sem] theorem fo8x2 : (fieldOf Tryz.prog 8 2).map (fun f => (f.type, f.offset)) = some (4, 2) := by kernel_rfl
@[go_sem] theorem fo8x3 : (fieldOf Tryz.prog 8 3).map (fun f => (f.type, f.offset)) = some (6, 3) := by kernel_rfl
@[go_sem] theorem sz9 : szT Tryz.prog 9 = some 1 := by kernel_rfl
@[go_sem] theorem by9 : bytesT Tryz.prog 9 = some 16 := by kernel_rfl
@[go_sem] theorem ag9 : isAggT Tryz.prog 9 = some false := by kernel_rfl
@[go_sem] theorem el9 : elemT Tryz.prog 9 = none := by kernel_rfl
@[go_sem] theorem ze9 : zeroT Tryz.prog 9 = some (.string ⟨#[]⟩) := by kernel_rfl
@[go_sem] theorem un9 : Tryz.prog.underlying 9 = some .string := by kernel_rfl
@[go_sem] theorem fo14x0 : (fieldOf Tryz.prog 14 0).map (fun f => (f.type, f.offset)) = some (9, 0) := by kernel_rfl
@[go_sem] theorem fo14x1 : (fieldOf Tryz.prog 14 1).map (fun f => (f.type, f.offset)) = some (12, 1) := by kernel_rfl
@[go_sem] theorem fo19x0 : (fieldOf Tryz.prog 19 0).map (fun f => (f.type, f.offset)) = some (17, 0) := by kernel_rfl
@[go_sem] theorem sz22 : szT Tryz.prog 22 = some 1 := by kernel_rfl
@[go_sem] theorem by22 : bytesT Tryz.prog 22 = some 24 := by kernel_rfl
@[go_sem] theorem ag22 : isAggT Tryz.prog 22 = some false := by kernel_rfl
@[go_sem] theorem el22 : elemT Tryz.prog 22 = some 9 := by kernel_rfl
@[go_sem] theorem ze22 : zeroT Tryz.prog 22 = some (.slice none 0 0) := by kernel_rfl
@[go_sem] theorem sz23 : szT Tryz.prog 23 = some 1 := by kernel_rfl
@[go_sem] theorem by23 : bytesT Tryz.prog 23 = some 24 := by kernel_rfl
@[go_sem] theorem ag23 : isAggT Tryz.prog 23 = some false := by kernel_rfl
@[go_sem] theorem el23 : elemT Tryz.prog 23 = some 3 := by kernel_rfl
@[go_sem] theorem ze23 : zeroT Tryz.prog 23 = some (.slice none 0 0) := by kernel_rfl
@[go_sem] theorem fo25x0 : (fieldOf Tryz.prog 25 0).map (fun f => (f.type, f.offset)) = some (22, 0) := by kernel_rfl
@[go_sem] theorem fo25x1 : (fieldOf Tryz.prog 25 1).map (fun f => (f.type, f.offset)) = some (23, 1) := by kernel_rfl
@[go_sem] theorem sz28 : szT Tryz.prog 28 = some 1 := by kernel_rfl
@[go_sem] theorem by28 : bytesT Tryz.prog 28 = some 8 := by kernel_rfl
@[go_sem] theorem ag28 : isAggT Tryz.prog 28 = some false := by kernel_rfl
@[go_sem] theorem el28 : elemT Tryz.prog 28 = none := by kernel_rfl
@[go_sem] theorem ze28 : zeroT Tryz.prog 28 = some (.int .i64 0) := by kernel_rfl
@[go_sem] theorem un28 : Tryz.prog.underlying 28 = some (.int .i64) := by kernel_rfl
@[go_sem] theorem sz32 : szT Tryz.prog 32 = some 2 := by kernel_rfl
@[go_sem] theorem by32 : bytesT Tryz.prog 32 = some 32 := by kernel_rfl
@[go_sem] theorem ag32 : isAggT Tryz.prog 32 = some true := by kernel_rfl
@[go_sem] theorem el32 : elemT Tryz.prog 32 = none := by kernel_rfl
@[go_sem] theorem ze32 : zeroT Tryz.prog 32 = some (.agg #[.slice none 0 0, .int .i64 0]) := by kernel_rfl
@[go_sem] theorem fo32x0 : (fieldOf Tryz.prog 32 0).map (fun f => (f.type, f.offset)) = some (23, 0) := by kernel_rfl
@[go_sem] theorem fo32x1 : (fieldOf Tryz.prog 32 1).map (fun f => (f.type, f.offset)) = some (28, 1) := by kernel_rfl
@[go_sem] theorem sz39 : szT Tryz.prog 39 = some 2 := by kernel_rfl
@[go_sem] theorem by39 : bytesT Tryz.prog 39 = some 16 := by kernel_rfl
@[go_sem] theorem ag39 : isAggT Tryz.prog 39 = some true := by kernel_rfl
@[go_sem] theorem el39 : elemT Tryz.prog 39 = none := by kernel_rfl
@[go_sem] theorem ze39 : zeroT Tryz.prog 39 = some (.agg #[.int .i64 0, .int .i64 0]) := by kernel_rfl
@[go_sem] theorem fo39x0 : (fieldOf Tryz.prog 39 0).map (fun f => (f.type, f.offset)) = some (3, 0) := by kernel_rfl
@[go_sem] theorem fo39x1 : (fieldOf Tryz.prog 39 1).map (fun f => (f.type, f.offset)) = some (28, 1) := by kernel_rfl
@[go_sem] theorem fo44x0 : (fieldOf Tryz.prog 44 0).map (fun f => (f.type, f.offset)) = some (9, 0) := by kernel_rfl
@[go_sem] theorem fo44x1 : (fieldOf Tryz.prog 44 1).map (fun f => (f.type, f.offset)) = some (28, 1) := by kernel_rfl
@[go_sem] theorem fo49x0 : (fieldOf Tryz.prog 49 0).map (fun f => (f.type, f.offset)) = some (3, 0) := by kernel_rfl
@[go_sem] theorem fo49x1 : (fieldOf Tryz.prog 49 1).map (fun f => (f.type, f.offset)) = some (28, 1) := by kernel_rfl
@[go_sem] theorem fo49x2 : (fieldOf Tryz.prog 49 2).map (fun f => (f.type, f.offset)) = some (3, 2) := by kernel_rfl
@[go_sem] theorem sz62 : szT Tryz.prog 62 = some 4 := by kernel_rfl
@[go_sem] theorem by62 : bytesT Tryz.prog 62 = some 32 := by kernel_rfl
@[go_sem] theorem ag62 : isAggT Tryz.prog 62 = some true := by kernel_rfl
@[go_sem] theorem el62 : elemT Tryz.prog 62 = none := by kernel_rfl
@[go_sem] theorem ze62 : zeroT Tryz.prog 62 = some (.agg #[.int .i64 0, .int .i64 0, .int .i64 0, .int .i64 0]) := by kernel_rfl
@[go_sem] theorem fo62x0 : (fieldOf Tryz.prog 62 0).map (fun f => (f.type, f.offset)) = some (3, 0) := by kernel_rfl
@[go_sem] theorem fo62x1 : (fieldOf Tryz.prog 62 1).map (fun f => (f.type, f.offset)) = some (3, 1) := by kernel_rfl
@[go_sem] theorem fo62x2 : (fieldOf Tryz.prog 62 2).map (fun f => (f.type, f.offset)) = some (3, 2) := by kernel_rfl
@[go_sem] theorem fo62x3 : (fieldOf Tryz.prog 62 3).map (fun f => (f.type, f.offset)) = some (3, 3) := by kernel_rfl
@[go_sem] theorem sz66 : szT Tryz.prog 66 = some 3 := by kernel_rfl
@[go_sem] theorem by66 : bytesT Tryz.prog 66 = some 24 := by kernel_rfl
@[go_sem] theorem ag66 : isAggT Tryz.prog 66 = some true := by kernel_rfl
@[go_sem] theorem el66 : elemT Tryz.prog 66 = none := by kernel_rfl
@[go_sem] theorem ze66 : zeroT Tryz.prog 66 = some (.agg #[.int .i64 0, .int .i64 0, .int .i64 0]) := by kernel_rfl
@[go_sem] theorem fo66x0 : (fieldOf Tryz.prog 66 0).map (fun f => (f.type, f.offset)) = some (3, 0) := by kernel_rfl
@[go_sem] theorem fo66x1 : (fieldOf Tryz.prog 66 1).map (fun f => (f.type, f.offset)) = some (3, 1) := by kernel_rfl
@[go_sem] theorem fo66x2 : (fieldOf Tryz.prog 66 2).map (fun f => (f.type, f.offset)) = some (3, 2) := by kernel_rfl
@[go_sem] theorem sz70 : szT Tryz.prog 70 = some 4 := by kernel_rfl
@[go_sem] theorem by70 : bytesT Tryz.prog 70 = some 32 := by kernel_rfl
@[go_sem] theorem ag70 : isAggT Tryz.prog 70 = some true := by kernel_rfl
@[go_sem] theorem el70 : elemT Tryz.prog 70 = none := by kernel_rfl
@[go_sem] theorem ze70 : zeroT Tryz.prog 70 = some (.agg #[.int .i64 0, .int .i64 0, .int .i64 0, .int .i64 0]) := by kernel_rfl
@[go_sem] theorem fo70x0 : (fieldOf Tryz.prog 70 0).map (fun f => (f.type, f.offset)) = some (66, 0) := by kernel_rfl
@[go_sem] theorem fo70x1 : (fieldOf Tryz.prog 70 1).map (fun f => (f.type, f.offset)) = some (28, 3) := by kernel_rfl
@[go_sem] theorem sz76 : szT Tryz.prog 76 = some 3 := by kernel_rfl
@[go_sem] theorem by76 : bytesT Tryz.prog 76 = some 40 := by kernel_rfl
@[go_sem] theorem ag76 : isAggT Tryz.prog 76 = some true := by kernel_rfl
@[go_sem] theorem el76 : elemT Tryz.prog 76 = none := by kernel_rfl
@[go_sem] theorem ze76 : zeroT Tryz.prog 76 = some (.agg #[.slice none 0 0, .int .i64 0, .int .i64 0]) := by kernel_rfl
@[go_sem] theorem fo76x0 : (fieldOf Tryz.prog 76 0).map (fun f => (f.type, f.offset)) = some (23, 0) := by kernel_rfl
@[go_sem] theorem fo76x1 : (fieldOf Tryz.prog 76 1).map (fun f => (f.type, f.offset)) = some (3, 1) := by kernel_rfl
@[go_sem] theorem fo76x2 : (fieldOf Tryz.prog 76 2).map (fun f => (f.type, f.offset)) = some (28, 2) := by kernel_rfl
@[go_sem] theorem sz81 : szT Tryz.prog 81 = some 1 := by kernel_rfl
@[go_sem] theorem by81 : bytesT Tryz.prog 81 = some 24 := by kernel_rfl
@[go_sem] theorem ag81 : isAggT Tryz.prog 81 = some false := by kernel_rfl
@[go_sem] theorem el81 : elemT Tryz.prog 81 = some 117 := by kernel_rfl
@[go_sem] theorem ze81 : zeroT Tryz.prog 81 = some (.slice none 0 0) := by kernel_rfl
@[go_sem] theorem sz87 : szT Tryz.prog 87 = some 3 := by kernel_rfl
@[go_sem] theorem by87 : bytesT Tryz.prog 87 = some 24 := by kernel_rfl
@[go_sem] theorem ag87 : isAggT Tryz.prog 87 = some true := by kernel_rfl
@[go_sem] theorem el87 : elemT Tryz.prog 87 = none := by kernel_rfl
@[go_sem] theorem ze87 : zeroT Tryz.prog 87 = some (.agg #[.int .i64 0, .int .i64 0, .int .i64 0]) := by kernel_rfl
@[go_sem] theorem fo87x0 : (fieldOf Tryz.prog 87 0).map (fun f => (f.type, f.offset)) = some (3, 0) := by kernel_rfl
@[go_sem] theorem fo87x1 : (fieldOf Tryz.prog 87 1).map (fun f => (f.type, f.offset)) = some (3, 1) := by kernel_rfl
@[go_sem] theorem fo87x2 : (fieldOf Tryz.prog 87 2).map (fun f => (f.type, f.offset)) = some (28, 2) := by kernel_rfl
@[go_sem] theorem sz94 : szT Tryz.prog 94 = some 1 := by kernel_rfl
@[go_sem] theorem by94 : bytesT Tryz.prog 94 = some 24 := by kernel_rfl
@[go_sem] theorem ag94 : isAggT Tryz.prog 94 = some false := by kernel_rfl
@[go_sem] theorem el94 : elemT Tryz.prog 94 = some 23 := by kernel_rfl
@[go_sem] theorem ze94 : zeroT Tryz.prog 94 = some (.slice none 0 0) := by kernel_rfl
@[go_sem] theorem sz104 : szT Tryz.prog 104 = some 1 := by kernel_rfl
@[go_sem] theorem by104 : bytesT Tryz.prog 104 = some 8 := by kernel_rfl
@[go_sem] theorem ag104 : isAggT Tryz.prog 104 = some false := by kernel_rfl
@[go_sem] theorem el104 : elemT Tryz.prog 104 = none := by kernel_rfl
@[go_sem] theorem ze104 : zeroT Tryz.prog 104 = some (.int .u64 0) := by kernel_rfl
@[go_sem] theorem sz106 : szT Tryz.prog 106 = some 1 := by kernel_rfl
@[go_sem] theorem by106 : bytesT Tryz.prog 106 = some 2 := by kernel_rfl
@[go_sem] theorem ag106 : isAggT Tryz.prog 106 = some false := by kernel_rfl
@[go_sem] theorem el106 : elemT Tryz.prog 106 = none := by kernel_rfl
@[go_sem] theorem ze106 : zeroT Tryz.prog 106 = some (.int .u16 0) := by kernel_rfl
@[go_sem] theorem fo108x0 : (fieldOf Tryz.prog 108 0).map (fun f => (f.type, f.offset)) = some (3, 0) := by kernel_rfl
@[go_sem] theorem fo108x1 : (fieldOf Tryz.prog 108 1).map (fun f => (f.type, f.offset)) = some (3, 1) := by kernel_rfl
@[go_sem] theorem fo108x2 : (fieldOf Tryz.prog 108 2).map (fun f => (f.type, f.offset)) = some (3, 2) := by kernel_rfl
@[go_sem] theorem sz111 : szT Tryz.prog 111 = some 1 := by kernel_rfl
@[go_sem] theorem by111 : bytesT Tryz.prog 111 = some 24 := by kernel_rfl
@[go_sem] theorem ag111 : isAggT Tryz.prog 111 = some false := by kernel_rfl
@[go_sem] theorem el111 : elemT Tryz.prog 111 = some 113 := by kernel_rfl
@[go_sem] theorem ze111 : zeroT Tryz.prog 111 = some (.slice none 0 0) := by kernel_rfl
@[go_sem] theorem sz112 : szT Tryz.prog 112 = some 1 := by kernel_rfl
@[go_sem] theorem by112 : bytesT Tryz.prog 112 = some 24 := by kernel_rfl
@[go_sem] theorem ag112 : isAggT Tryz.prog 112 = some false := by kernel_rfl
@[go_sem] theorem el112 : elemT Tryz.prog 112 = some 5 := by kernel_rfl
@[go_sem] theorem ze112 : zeroT Tryz.prog 112 = some (.slice none 0 0) := by kernel_rfl
@[go_sem] theorem sz113 : szT Tryz.prog 113 = some 1 := by kernel_rfl
@[go_sem] theorem by113 : bytesT Tryz.prog 113 = some 4 := by kernel_rfl
@[go_sem] theorem ag113 : isAggT Tryz.prog 113 = some false := by kernel_rfl
@[go_sem] theorem el113 : elemT Tryz.prog 113 = none := by kernel_rfl
@[go_sem] theorem ze113 : zeroT Tryz.prog 113 = some (.int .u32 0) := by kernel_rfl
@[go_sem] theorem sz117 : szT Tryz.prog 117 = some 5 := by kernel_rfl
@[go_sem] theorem by117 : bytesT Tryz.prog 117 = some 40 := by kernel_rfl
@[go_sem] theorem ag117 : isAggT Tryz.prog 117 = some true := by kernel_rfl
@[go_sem] theorem el117 : elemT Tryz.prog 117 = none := by kernel_rfl
@[go_sem] theorem ze117 : zeroT Tryz.prog 117 = some (.agg #[.int .i64 0, .int .i64 0, .int .i64 0, .int .i64 0, .int .i64 0]) := by kernel_rfl
@[go_sem] theorem fo117x0 : (fieldOf Tryz.prog 117 0).map (fun f => (f.type, f.offset)) = some (3, 0) := by kernel_rfl
@[go_sem] theorem fo117x1 : (fieldOf Tryz.prog 117 1).map (fun f => (f.type, f.offset)) = some (3, 1) := by kernel_rfl
@[go_sem] theorem fo117x2 : (fieldOf Tryz.prog 117 2).map (fun f => (f.type, f.offset)) = some (3, 2) := by kernel_rfl
@[go_sem] theorem fo117x3 : (fieldOf Tryz.prog 117 3).map (fun f => (f.type, f.offset)) = some (3, 3) := by kernel_rfl
@[go_sem] theorem fo117x4 : (fieldOf Tryz.prog 117 4).map (fun f => (f.type, f.offset)) = some (3, 4) := by kernel_rfl
@[go_sem] theorem fo124x0 : (fieldOf Tryz.prog 124 0).map (fun f => (f.type, f.offset)) = some (3, 0) := by kernel_rfl
@[go_sem] theorem fo124x1 : (fieldOf Tryz.prog 124 1).map (fun f => (f.type, f.offset)) = some (3, 1) := by kernel_rfl
@[go_sem] theorem fo124x2 : (fieldOf Tryz.prog 124 2).map (fun f => (f.type, f.offset)) = some (3, 2) := by kernel_rfl
@[go_sem] theorem fo127x0 : (fieldOf Tryz.prog 127 0).map (fun f => (f.type, f.offset)) = some (94, 0) := by kernel_rfl
@[go_sem] theorem fo130x0 : (fieldOf Tryz.prog 130 0).map (fun f => (f.type, f.offset)) = some (23, 0) := by kernel_rfl
@[go_sem] theorem fo130x1 : (fieldOf Tryz.prog 130 1).map (fun f => (f.type, f.offset)) = some (23, 1) := by kernel_rfl
@[go_sem] theorem sz148 : szT Tryz.prog 148 = some 1 := by kernel_rfl
@[go_sem] theorem by148 : bytesT Tryz.prog 148 = some 8 := by kernel_rfl
@[go_sem] theorem ag148 : isAggT Tryz.prog 148 = some false := by kernel_rfl
@[go_sem] theorem el148 : elemT Tryz.prog 148 = none := by kernel_rfl
@[go_sem] theorem ze148 : zeroT Tryz.prog 148 = some (.nilFunc) := by kernel_rfl
@[go_sem] theorem ma156 : mapT Tryz.prog 156 = some (9, 3) := by kernel_rfl
@[go_sem] theorem ma161 : mapT Tryz.prog 161 = some (108, 4) := by kernel_rfl
@[go_sem] theorem sz171 : szT Tryz.prog 171 = some 1 := by kernel_rfl
@[go_sem] theorem by171 : bytesT Tryz.prog 171 = some 8 := by kernel_rfl
@[go_sem] theorem ag171 : isAggT Tryz.prog 171 = some false := by kernel_rfl
@[go_sem] theorem el171 : elemT Tryz.prog 171 = none := by kernel_rfl
@[go_sem] theorem ze171 : zeroT Tryz.prog 171 = some (.map none) := by kernel_rfl
@[go_sem] theorem ma171 : mapT Tryz.prog 171 = some (3, 4) := by kernel_rfl
@[go_sem] theorem sz181 : szT Tryz.prog 181 = some 1 := by kernel_rfl
@[go_sem] theorem by181 : bytesT Tryz.prog 181 = some 8 := by kernel_rfl
@[go_sem] theorem ag181 : isAggT Tryz.prog 181 = some false := by kernel_rfl
@[go_sem] theorem el181 : elemT Tryz.prog 181 = none := by kernel_rfl
@[go_sem] theorem ze181 : zeroT Tryz.prog 181 = some (.int .u64 0) := by kernel_rfl
@[go_sem] theorem ma188 : mapT Tryz.prog 188 = some (3, 3) := by kernel_rfl
@[go_sem] theorem fo201x0 : (fieldOf Tryz.prog 201 0).map (fun f => (f.type, f.offset)) = some (3, 0) := by kernel_rfl
@[go_sem] theorem fo201x1 : (fieldOf Tryz.prog 201 1).map (fun f => (f.type, f.offset)) = some (3, 1) := by kernel_rfl
@[go_sem] theorem sz240 : szT Tryz.prog 240 = some 1 := by kernel_rfl
@[go_sem] theorem by240 : bytesT Tryz.prog 240 = some 8 := by kernel_rfl
@[go_sem] theorem ag240 : isAggT Tryz.prog 240 = some false := by kernel_rfl
@[go_sem] theorem el240 : elemT Tryz.prog 240 = none := by kernel_rfl
@[go_sem] theorem ze240 : zeroT Tryz.prog 240 = some (.pointer none) := by kernel_rfl
@[go_sem] theorem sz242 : szT Tryz.prog 242 = some 2 := by kernel_rfl
@[go_sem] theorem by242 : bytesT Tryz.prog 242 = some 32 := by kernel_rfl
@[go_sem] theorem ag242 : isAggT Tryz.prog 242 = some true := by kernel_rfl
@[go_sem] theorem el242 : elemT Tryz.prog 242 = none := by kernel_rfl
@[go_sem] theorem ze242 : zeroT Tryz.prog 242 = some (.agg #[.pointer none, .slice none 0 0]) := by kernel_rfl
@[go_sem] theorem fo242x0 : (fieldOf Tryz.prog 242 0).map (fun f => (f.type, f.offset)) = some (240, 0) := by kernel_rfl
@[go_sem] theorem fo242x1 : (fieldOf Tryz.prog 242 1).map (fun f => (f.type, f.offset)) = some (112, 1) := by kernel_rfl
@[go_sem] theorem ar252 : arrayT Tryz.prog 252 = some (1024, 3) := by kernel_rfl
@[go_sem] theorem sz260 : szT Tryz.prog 260 = some 1 := by kernel_rfl
@[go_sem] theorem by260 : bytesT Tryz.prog 260 = some 8 := by kernel_rfl
@[go_sem] theorem ag260 : isAggT Tryz.prog 260 = some false := by kernel_rfl
@[go_sem] theorem el260 : elemT Tryz.prog 260 = none := by kernel_rfl
@[go_sem] theorem ze260 : zeroT Tryz.prog 260 = some (.pointer none) := by kernel_rfl
@[go_sem] theorem ar272 : arrayT Tryz.prog 272 = some (24, 5) := by kernel_rfl
@[go_sem] theorem sz285 : szT Tryz.prog 285 = some 32 := by kernel_rfl
@[go_sem] theorem by285 : bytesT Tryz.prog 285 = some 32 := by kernel_rfl
@[go_sem] theorem ag285 : isAggT Tryz.prog 285 = some true := by kernel_rfl
@[go_sem] theorem el285 : elemT Tryz.prog 285 = none := by kernel_rfl
@[go_sem] theorem ar285 : arrayT Tryz.prog 285 = some (32, 5) := by kernel_rfl
@[go_sem] theorem sz286 : szT Tryz.prog 286 = some 64 := by kernel_rfl
@[go_sem] theorem by286 : bytesT Tryz.prog 286 = some 64 := by kernel_rfl
@[go_sem] theorem ag286 : isAggT Tryz.prog 286 = some true := by kernel_rfl
@[go_sem] theorem el286 : elemT Tryz.prog 286 = none := by kernel_rfl
@[go_sem] theorem ar286 : arrayT Tryz.prog 286 = some (64, 5) := by kernel_rfl
@[go_sem] theorem ar292 : arrayT Tryz.prog 292 = some (20, 104) := by kernel_rfl
@[go_sem] theorem ar293 : arrayT Tryz.prog 293 = some (65, 5) := by kernel_rfl
@[go_sem] theorem fo301x0 : (fieldOf Tryz.prog 301 0).map (fun f => (f.type, f.offset)) = some (17, 0) := by kernel_rfl
@[go_sem] theorem fo301x1 : (fieldOf Tryz.prog 301 1).map (fun f => (f.type, f.offset)) = some (17, 1) := by kernel_rfl
@[go_sem] theorem fo301x2 : (fieldOf Tryz.prog 301 2).map (fun f => (f.type, f.offset)) = some (17, 2) := by kernel_rfl
@[go_sem] theorem fo301x3 : (fieldOf Tryz.prog 301 3).map (fun f => (f.type, f.offset)) = some (9, 3) := by kernel_rfl
@[go_sem] theorem ar302 : arrayT Tryz.prog 302 = some (0, 16) := by kernel_rfl
@[go_sem] theorem fo304x0 : (fieldOf Tryz.prog 304 0).map (fun f => (f.type, f.offset)) = some (302, 0) := by kernel_rfl
@[go_sem] theorem fo311x0 : (fieldOf Tryz.prog 311 0).map (fun f => (f.type, f.offset)) = some (12, 0) := by kernel_rfl
@[go_sem] theorem fo311x1 : (fieldOf Tryz.prog 311 1).map (fun f => (f.type, f.offset)) = some (12, 1) := by kernel_rfl
@[go_sem] theorem fo311x2 : (fieldOf Tryz.prog 311 2).map (fun f => (f.type, f.offset)) = some (113, 2) := by kernel_rfl
@[go_sem] theorem fo311x3 : (fieldOf Tryz.prog 311 3).map (fun f => (f.type, f.offset)) = some (305, 3) := by kernel_rfl
@[go_sem] theorem fo311x4 : (fieldOf Tryz.prog 311 4).map (fun f => (f.type, f.offset)) = some (5, 4) := by kernel_rfl
@[go_sem] theorem fo311x5 : (fieldOf Tryz.prog 311 5).map (fun f => (f.type, f.offset)) = some (5, 5) := by kernel_rfl
@[go_sem] theorem fo311x6 : (fieldOf Tryz.prog 311 6).map (fun f => (f.type, f.offset)) = some (306, 6) := by kernel_rfl
@[go_sem] theorem fo311x7 : (fieldOf Tryz.prog 311 7).map (fun f => (f.type, f.offset)) = some (307, 7) := by kernel_rfl
@[go_sem] theorem fo311x8 : (fieldOf Tryz.prog 311 8).map (fun f => (f.type, f.offset)) = some (260, 8) := by kernel_rfl
@[go_sem] theorem fo311x9 : (fieldOf Tryz.prog 311 9).map (fun f => (f.type, f.offset)) = some (308, 9) := by kernel_rfl
@[go_sem] theorem fo311x10 : (fieldOf Tryz.prog 311 10).map (fun f => (f.type, f.offset)) = some (309, 10) := by kernel_rfl
@[go_sem] theorem ok5 : okFn Tryz.prog 5 = true := by kernel_rfl
@[go_sem] theorem res5 : Tryz.f5.results.toList = [.tmp 10] := rfl
@[go_sem] theorem ok6 : okFn Tryz.prog 6 = true := by kernel_rfl
@[go_sem] theorem res6 : Tryz.f6.results.toList = [.tmp 8] := rfl
@[go_sem] theorem ok7 : okFn Tryz.prog 7 = true := by kernel_rfl
@[go_sem] theorem res7 : Tryz.f7.results.toList = [.tmp 8] := rfl
@[go_sem] theorem ok11 : okFn Tryz.prog 11 = true := by kernel_rfl
@[go_sem] theorem res11 : Tryz.f11.results.toList = [.tmp 12] := rfl
@[go_sem] theorem ok13 : okFn Tryz.prog 13 = true := by kernel_rfl
@[go_sem] theorem res13 : Tryz.f13.results.toList = [.tmp 8] := rfl
@[go_sem] theorem ok14 : okFn Tryz.prog 14 = true := by kernel_rfl
@[go_sem] theorem res14 : Tryz.f14.results.toList = [.tmp 8] := rfl
@[go_sem] theorem ok19 : okFn Tryz.prog 19 = true := by kernel_rfl
@[go_sem] theorem res19 : Tryz.f19.results.toList = [.tmp 0] := rfl
@[go_sem] theorem ok32 : okFn Tryz.prog 32 = true := by kernel_rfl
@[go_sem] theorem res32 : Tryz.f32.results.toList = [.tmp 4] := rfl
@[go_sem] theorem ok39 : okFn Tryz.prog 39 = true := by kernel_rfl
@[go_sem] theorem res39 : Tryz.f39.results.toList = [.tmp 4, .tmp 5] := rfl
@[go_sem] theorem ok40 : okFn Tryz.prog 40 = true := by kernel_rfl
@[go_sem] theorem res40 : Tryz.f40.results.toList = [.cell 4 39] := rfl
@[go_sem] theorem ok41 : okFn Tryz.prog 41 = true := by kernel_rfl
@[go_sem] theorem res41 : Tryz.f41.results.toList = [.cell 10 66, .tmp 11] := rfl
@[go_sem] theorem ok42 : okFn Tryz.prog 42 = true := by kernel_rfl
@[go_sem] theorem res42 : Tryz.f42.results.toList = [.cell 10 70] := rfl
@[go_sem] theorem ok43 : okFn Tryz.prog 43 = true := by kernel_rfl
@[go_sem] theorem res43 : Tryz.f43.results.toList = [.tmp 6, .tmp 7, .tmp 8] := rfl
@[go_sem] theorem ok44 : okFn Tryz.prog 44 = true := by kernel_rfl
@[go_sem] theorem res44 : Tryz.f44.results.toList = [.cell 6 76] := rfl
@[go_sem] theorem ok45 : okFn Tryz.prog 45 = true := by kernel_rfl
@[go_sem] theorem res45 : Tryz.f45.results.toList = [.tmp 6, .tmp 7, .tmp 8] := rfl
@[go_sem] theorem ok46 : okFn Tryz.prog 46 = true := by kernel_rfl
@[go_sem] theorem res46 : Tryz.f46.results.toList = [.cell 6 76] := rfl
@[go_sem] theorem ok47 : okFn Tryz.prog 47 = true := by kernel_rfl
@[go_sem] theorem res47 : Tryz.f47.results.toList = [.tmp 6, .tmp 7] := rfl
@[go_sem] theorem ok48 : okFn Tryz.prog 48 = true := by kernel_rfl
@[go_sem] theorem res48 : Tryz.f48.results.toList = [.cell 6 32] := rfl
@[go_sem] theorem ok49 : okFn Tryz.prog 49 = true := by kernel_rfl
@[go_sem] theorem res49 : Tryz.f49.results.toList = [.tmp 6, .tmp 7, .tmp 8] := rfl
@[go_sem] theorem ok50 : okFn Tryz.prog 50 = true := by kernel_rfl
@[go_sem] theorem res50 : Tryz.f50.results.toList = [.cell 6 87] := rfl
@[go_sem] theorem ok51 : okFn Tryz.prog 51 = true := by kernel_rfl
@[go_sem] theorem res51 : Tryz.f51.results.toList = [.tmp 4] := rfl
@[go_sem] theorem ok52 : okFn Tryz.prog 52 = true := by kernel_rfl
@[go_sem] theorem res52 : Tryz.f52.results.toList = [.tmp 4] := rfl
@[go_sem] theorem ok78 : okFn Tryz.prog 78 = true := by kernel_rfl
@[go_sem] theorem res78 : Tryz.f78.results.toList = [.tmp 6] := rfl
@[go_sem] theorem ok80 : okFn Tryz.prog 80 = true := by kernel_rfl
@[go_sem] theorem res80 : Tryz.f80.results.toList = [.tmp 2] := rfl
@[go_sem] theorem ok96 : okFn Tryz.prog 96 = true := by kernel_rfl
@[go_sem] theorem res96 : Tryz.f96.results.toList = [.tmp 2] := rfl
@[go_sem] theorem ok97 : okFn Tryz.prog 97 = true := by kernel_rfl
@[go_sem] theorem res97 : Tryz.f97.results.toList = [.tmp 4] := rfl
@[go_sem] theorem ok98 : okFn Tryz.prog 98 = true := by kernel_rfl
@[go_sem] theorem res98 : Tryz.f98.results.toList = [.tmp 2] := rfl
@[go_sem] theorem ok99 : okFn Tryz.prog 99 = true := by kernel_rfl
@[go_sem] theorem res99 : Tryz.f99.results.toList = [.tmp 4] := rfl
@[go_sem] theorem ok100 : okFn Tryz.prog 100 = true := by kernel_rfl
@[go_sem] theorem res100 : Tryz.f100.results.toList = [.tmp 6] := rfl
@[go_sem] theorem ok101 : okFn Tryz.prog 101 = true := by kernel_rfl
@[go_sem] theorem res101 : Tryz.f101.results.toList = [.tmp 6] := rfl
@[go_sem] theorem ok102 : okFn Tryz.prog 102 = true := by kernel_rfl
@[go_sem] theorem res102 : Tryz.f102.results.toList = [.tmp 6, .tmp 7] := rfl
@[go_sem] theorem ok103 : okFn Tryz.prog 103 = true := by kernel_rfl
@[go_sem] theorem res103 : Tryz.f103.results.toList = [.tmp 4] := rfl
@[go_sem] theorem ok104 : okFn Tryz.prog 104 = true := by kernel_rfl
@[go_sem] theorem res104 : Tryz.f104.results.toList = [.tmp 2] := rfl
@[go_sem] theorem ok105 : okFn Tryz.prog 105 = true := by kernel_rfl
@[go_sem] theorem res105 : Tryz.f105.results.toList = [.tmp 2] := rfl
@[go_sem] theorem ok106 : okFn Tryz.prog 106 = true := by kernel_rfl
@[go_sem] theorem res106 : Tryz.f106.results.toList = [.cell 6 76] := rfl
@[go_sem] theorem ok107 : okFn Tryz.prog 107 = true := by kernel_rfl
@[go_sem] theorem res107 : Tryz.f107.results.toList = [.tmp 6] := rfl
@[go_sem] theorem ok108 : okFn Tryz.prog 108 = true := by kernel_rfl
@[go_sem] theorem res108 : Tryz.f108.results.toList = [.tmp 6] := rfl
@[go_sem] theorem ok109 : okFn Tryz.prog 109 = true := by kernel_rfl
@[go_sem] theorem res109 : Tryz.f109.results.toList = [.tmp 4] := rfl
@[go_sem] theorem ok142 : okFn Tryz.prog 142 = true := by kernel_rfl
@[go_sem] theorem res142 : Tryz.f142.results.toList = [.tmp 4] := rfl
@[go_sem] theorem ok148 : okFn Tryz.prog 148 = true := by kernel_rfl
@[go_sem] theorem res148 : Tryz.f148.results.toList = [.tmp 4] := rfl
@[go_sem] theorem ok153 : okFn Tryz.prog 153 = true := by kernel_rfl
@[go_sem] theorem res153 : Tryz.f153.results.toList = [.tmp 2] := rfl
@[go_sem] theorem ok154 : okFn Tryz.prog 154 = true := by kernel_rfl
@[go_sem] theorem res154 : Tryz.f154.results.toList = [.tmp 2] := rfl
@[go_sem] theorem ok155 : okFn Tryz.prog 155 = true := by kernel_rfl
@[go_sem] theorem res155 : Tryz.f155.results.toList = [.tmp 2] := rfl
@[go_sem] theorem ok156 : okFn Tryz.prog 156 = true := by kernel_rfl
@[go_sem] theorem res156 : Tryz.f156.results.toList = [.tmp 6] := rfl
@[go_sem] theorem ok162 : okFn Tryz.prog 162 = true := by kernel_rfl
@[go_sem] theorem res162 : Tryz.f162.results.toList = [.tmp 4] := rfl
@[go_sem] theorem ok182 : okFn Tryz.prog 182 = true := by kernel_rfl
@[go_sem] theorem res182 : Tryz.f182.results.toList = [] := rfl
@[go_sem] theorem ok183 : okFn Tryz.prog 183 = true := by kernel_rfl
@[go_sem] theorem res183 : Tryz.f183.results.toList = [.tmp 4, .tmp 5] := rfl
@[go_sem] theorem ok184 : okFn Tryz.prog 184 = true := by kernel_rfl
@[go_sem] theorem res184 : Tryz.f184.results.toList = [.tmp 2] := rfl
@[go_sem] theorem ok189 : okFn Tryz.prog 189 = true := by kernel_rfl
@[go_sem] theorem res189 : Tryz.f189.results.toList = [.tmp 2] := rfl
@[go_sem] theorem ok193 : okFn Tryz.prog 193 = true := by kernel_rfl
@[go_sem] theorem res193 : Tryz.f193.results.toList = [.tmp 2] := rfl
@[go_sem] theorem ok204 : okFn Tryz.prog 204 = true := by kernel_rfl
@[go_sem] theorem res204 : Tryz.f204.results.toList = [] := rfl
@[go_sem] theorem ok205 : okFn Tryz.prog 205 = true := by kernel_rfl
@[go_sem] theorem res205 : Tryz.f205.results.toList = [] := rfl
@[go_sem] theorem ok216 : okFn Tryz.prog 216 = true := by kernel_rfl
@[go_sem] theorem res216 : Tryz.f216.results.toList = [.tmp 2] := rfl
@[go_sem] theorem ok217 : okFn Tryz.prog 217 = true := by kernel_rfl
@[go_sem] theorem res217 : Tryz.f217.results.toList = [.tmp 2] := rfl
theorem mixed : Tryz.prog.follows .mixedOrders = true := by kernel_rfl
end Go.Proofs.Tryz

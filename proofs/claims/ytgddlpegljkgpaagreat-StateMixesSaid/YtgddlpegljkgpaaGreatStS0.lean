/- Contracts of functions, walked. -/
import Derived.Test.YtgddlpegljkgpaaGreatProg
import Derived.Test.YtgddlpegljkgpaaGreatAwA
set_option linter.all false
namespace Go.Proofs.Tryz
open Go Go.Am Go.RowKit
set_option maxRecDepth 100000
@[go_sem] theorem sz3 : szT Tryz.prog 3 = some 1 := by kernel_rfl
@[go_sem] theorem by3 : bytesT Tryz.prog 3 = some 8 := by kernel_rfl
@[go_sem] theorem ag3 : isAggT Tryz.prog 3 = some false := by kernel_rfl
@[go_sem] theorem el3 : elemT Tryz.prog 3 = none := by kernel_rfl
@[go_sem] theorem ze3 : zeroT Tryz.prog 3 = some (.int .i64 0) := by kernel_rfl
@[go_sem] theorem un3 : Tryz.prog.underlying 3 = some (.int .i64) := by kernel_rfl
@[go_sem] theorem sz4 : szT Tryz.prog 4 = some 1 := by kernel_rfl
@[go_sem] theorem by4 : bytesT Tryz.prog 4 = some 1 := by kernel_rfl
@[go_sem] theorem ag4 : isAggT Tryz.prog 4 = some false := by kernel_rfl
@[go_sem] theorem el4 : elemT Tryz.prog 4 = none := by kernel_rfl
@[go_sem] theorem ze4 : zeroT Tryz.prog 4 = some (.bool false) := by kernel_rfl
@[go_sem] theorem un4 : Tryz.prog.underlying 4 = some .bool := by kernel_rfl
@[go_sem] theorem sz5 : szT Tryz.prog 5 = some 1 := by kernel_rfl
@[go_sem] theorem by5 : bytesT Tryz.prog 5 = some 1 := by kernel_rfl
@[go_sem] theorem ag5 : isAggT Tryz.prog 5 = some false := by kernel_rfl
@[go_sem] theorem el5 : elemT Tryz.prog 5 = none := by kernel_rfl
@[go_sem] theorem ze5 : zeroT Tryz.prog 5 = some (.int .u8 0) := by kernel_rfl
@[go_sem] theorem sz7 : szT Tryz.prog 7 = some 4 := by kernel_rfl
@[go_sem] theorem by7 : bytesT Tryz.prog 7 = some 24 := by kernel_rfl
@[go_sem] theorem ag7 : isAggT Tryz.prog 7 = some true := by kernel_rfl
@[go_sem] theorem el7 : elemT Tryz.prog 7 = none := by kernel_rfl
@[go_sem] theorem ze7 : zeroT Tryz.prog 7 = some (.agg #[.int .i64 0, .int .i64 0, .bool false, .int .u8 0]) := by kernel_rfl
@[go_sem] theorem fo7x0 : (fieldOf Tryz.prog 7 0).map (fun f => (f.type, f.offset)) = some (2, 0) := by kernel_rfl
@[go_sem] theorem fo7x1 : (fieldOf Tryz.prog 7 1).map (fun f => (f.type, f.offset)) = some (3, 1) := by kernel_rfl
@[go_sem] theorem fo7x2 : (fieldOf Tryz.prog 7 2).map (fun f => (f.type, f.offset)) = some (4, 2) := by kernel_rfl
@[go_sem] theorem fo7x3 : (fieldOf Tryz.prog 7 3).map (fun f => (f.type, f.offset)) = some (6, 3) := by kernel_rfl
@[go_sem] theorem sz8 : szT Tryz.prog 8 = some 4 := by kernel_rfl
@[go_sem] theorem by8 : bytesT Tryz.prog 8 = some 24 := by kernel_rfl
@[go_sem] theorem ag8 : isAggT Tryz.prog 8 = some true := by kernel_rfl
@[go_sem] theorem el8 : elemT Tryz.prog 8 = none := by kernel_rfl
@[go_sem] theorem ze8 : zeroT Tryz.prog 8 = some (.agg #[.int .i64 0, .int .i64 0, .bool false, .int .u8 0]) := by kernel_rfl
@[go_sem] theorem fo8x0 : (fieldOf Tryz.prog 8 0).map (fun f => (f.type, f.offset)) = some (2, 0) := by kernel_rfl
@[go_sem] theorem fo8x1 : (fieldOf Tryz.prog 8 1).map (fun f => (f.type, f.offset)) = some (3, 1) := by kernel_rfl
@[go_sem] theorem fo8x2 : (fieldOf Tryz.prog 8 2).map (fun f => (f.type, f.offset)) = some (4, 2) := by kernel_rfl
@[go_sem] theorem fo8x3 : (fieldOf Tryz.prog 8 3).map (fun f => (f.type, f.offset)) = some (6, 3) := by kernel_rfl
@[go_sem] theorem sz14 : szT Tryz.prog 14 = some 2 := by kernel_rfl
@[go_sem] theorem by14 : bytesT Tryz.prog 14 = some 24 := by kernel_rfl
@[go_sem] theorem ag14 : isAggT Tryz.prog 14 = some true := by kernel_rfl
@[go_sem] theorem el14 : elemT Tryz.prog 14 = none := by kernel_rfl
@[go_sem] theorem ze14 : zeroT Tryz.prog 14 = some (.agg #[.string ⟨#[]⟩, .int .u64 0]) := by kernel_rfl
@[go_sem] theorem fo14x0 : (fieldOf Tryz.prog 14 0).map (fun f => (f.type, f.offset)) = some (9, 0) := by kernel_rfl
@[go_sem] theorem fo14x1 : (fieldOf Tryz.prog 14 1).map (fun f => (f.type, f.offset)) = some (12, 1) := by kernel_rfl
@[go_sem] theorem sz19 : szT Tryz.prog 19 = some 1 := by kernel_rfl
@[go_sem] theorem by19 : bytesT Tryz.prog 19 = some 8 := by kernel_rfl
@[go_sem] theorem ag19 : isAggT Tryz.prog 19 = some true := by kernel_rfl
@[go_sem] theorem el19 : elemT Tryz.prog 19 = none := by kernel_rfl
@[go_sem] theorem ze19 : zeroT Tryz.prog 19 = some (.agg #[.pointer none]) := by kernel_rfl
@[go_sem] theorem fo19x0 : (fieldOf Tryz.prog 19 0).map (fun f => (f.type, f.offset)) = some (17, 0) := by kernel_rfl
@[go_sem] theorem sz22 : szT Tryz.prog 22 = some 1 := by kernel_rfl
@[go_sem] theorem by22 : bytesT Tryz.prog 22 = some 24 := by kernel_rfl
@[go_sem] theorem ag22 : isAggT Tryz.prog 22 = some false := by kernel_rfl
@[go_sem] theorem el22 : elemT Tryz.prog 22 = some 3 := by kernel_rfl
@[go_sem] theorem ze22 : zeroT Tryz.prog 22 = some (.slice none 0 0) := by kernel_rfl
@[go_sem] theorem sz23 : szT Tryz.prog 23 = some 1 := by kernel_rfl
@[go_sem] theorem by23 : bytesT Tryz.prog 23 = some 24 := by kernel_rfl
@[go_sem] theorem ag23 : isAggT Tryz.prog 23 = some false := by kernel_rfl
@[go_sem] theorem el23 : elemT Tryz.prog 23 = some 58 := by kernel_rfl
@[go_sem] theorem ze23 : zeroT Tryz.prog 23 = some (.slice none 0 0) := by kernel_rfl
@[go_sem] theorem sz25 : szT Tryz.prog 25 = some 2 := by kernel_rfl
@[go_sem] theorem by25 : bytesT Tryz.prog 25 = some 48 := by kernel_rfl
@[go_sem] theorem ag25 : isAggT Tryz.prog 25 = some true := by kernel_rfl
@[go_sem] theorem el25 : elemT Tryz.prog 25 = none := by kernel_rfl
@[go_sem] theorem ze25 : zeroT Tryz.prog 25 = some (.agg #[.slice none 0 0, .slice none 0 0]) := by kernel_rfl
@[go_sem] theorem fo25x0 : (fieldOf Tryz.prog 25 0).map (fun f => (f.type, f.offset)) = some (22, 0) := by kernel_rfl
@[go_sem] theorem fo25x1 : (fieldOf Tryz.prog 25 1).map (fun f => (f.type, f.offset)) = some (23, 1) := by kernel_rfl
@[go_sem] theorem sz27 : szT Tryz.prog 27 = some 4 := by kernel_rfl
@[go_sem] theorem by27 : bytesT Tryz.prog 27 = some 48 := by kernel_rfl
@[go_sem] theorem ag27 : isAggT Tryz.prog 27 = some true := by kernel_rfl
@[go_sem] theorem el27 : elemT Tryz.prog 27 = none := by kernel_rfl
@[go_sem] theorem ze27 : zeroT Tryz.prog 27 = some (.agg #[.slice none 0 0, .int .i64 0, .int .i64 0, .int .i64 0]) := by kernel_rfl
@[go_sem] theorem fo27x0 : (fieldOf Tryz.prog 27 0).map (fun f => (f.type, f.offset)) = some (22, 0) := by kernel_rfl
@[go_sem] theorem fo27x1 : (fieldOf Tryz.prog 27 1).map (fun f => (f.type, f.offset)) = some (3, 1) := by kernel_rfl
@[go_sem] theorem fo27x2 : (fieldOf Tryz.prog 27 2).map (fun f => (f.type, f.offset)) = some (3, 2) := by kernel_rfl
@[go_sem] theorem fo27x3 : (fieldOf Tryz.prog 27 3).map (fun f => (f.type, f.offset)) = some (3, 3) := by kernel_rfl
@[go_sem] theorem sz31 : szT Tryz.prog 31 = some 1 := by kernel_rfl
@[go_sem] theorem by31 : bytesT Tryz.prog 31 = some 8 := by kernel_rfl
@[go_sem] theorem ag31 : isAggT Tryz.prog 31 = some false := by kernel_rfl
@[go_sem] theorem el31 : elemT Tryz.prog 31 = none := by kernel_rfl
@[go_sem] theorem ze31 : zeroT Tryz.prog 31 = some (.int .i64 0) := by kernel_rfl
@[go_sem] theorem un31 : Tryz.prog.underlying 31 = some (.int .i64) := by kernel_rfl
@[go_sem] theorem sz37 : szT Tryz.prog 37 = some 2 := by kernel_rfl
@[go_sem] theorem by37 : bytesT Tryz.prog 37 = some 32 := by kernel_rfl
@[go_sem] theorem ag37 : isAggT Tryz.prog 37 = some true := by kernel_rfl
@[go_sem] theorem el37 : elemT Tryz.prog 37 = none := by kernel_rfl
@[go_sem] theorem ze37 : zeroT Tryz.prog 37 = some (.agg #[.slice none 0 0, .int .i64 0]) := by kernel_rfl
@[go_sem] theorem fo37x0 : (fieldOf Tryz.prog 37 0).map (fun f => (f.type, f.offset)) = some (22, 0) := by kernel_rfl
@[go_sem] theorem fo37x1 : (fieldOf Tryz.prog 37 1).map (fun f => (f.type, f.offset)) = some (31, 1) := by kernel_rfl
@[go_sem] theorem sz49 : szT Tryz.prog 49 = some 1 := by kernel_rfl
@[go_sem] theorem by49 : bytesT Tryz.prog 49 = some 24 := by kernel_rfl
@[go_sem] theorem ag49 : isAggT Tryz.prog 49 = some false := by kernel_rfl
@[go_sem] theorem el49 : elemT Tryz.prog 49 = some 25 := by kernel_rfl
@[go_sem] theorem ze49 : zeroT Tryz.prog 49 = some (.slice none 0 0) := by kernel_rfl
@[go_sem] theorem sz58 : szT Tryz.prog 58 = some 6 := by kernel_rfl
@[go_sem] theorem by58 : bytesT Tryz.prog 58 = some 48 := by kernel_rfl
@[go_sem] theorem ag58 : isAggT Tryz.prog 58 = some true := by kernel_rfl
@[go_sem] theorem el58 : elemT Tryz.prog 58 = none := by kernel_rfl
@[go_sem] theorem ze58 : zeroT Tryz.prog 58 = some (.agg #[.int .i64 0, .int .i64 0, .int .i64 0, .int .i64 0, .int .i64 0, .int .i64 0]) := by kernel_rfl
@[go_sem] theorem fo58x0 : (fieldOf Tryz.prog 58 0).map (fun f => (f.type, f.offset)) = some (3, 0) := by kernel_rfl
@[go_sem] theorem fo58x1 : (fieldOf Tryz.prog 58 1).map (fun f => (f.type, f.offset)) = some (3, 1) := by kernel_rfl
@[go_sem] theorem fo58x2 : (fieldOf Tryz.prog 58 2).map (fun f => (f.type, f.offset)) = some (3, 2) := by kernel_rfl
@[go_sem] theorem fo58x3 : (fieldOf Tryz.prog 58 3).map (fun f => (f.type, f.offset)) = some (3, 3) := by kernel_rfl
@[go_sem] theorem fo58x4 : (fieldOf Tryz.prog 58 4).map (fun f => (f.type, f.offset)) = some (3, 4) := by kernel_rfl
@[go_sem] theorem fo58x5 : (fieldOf Tryz.prog 58 5).map (fun f => (f.type, f.offset)) = some (3, 5) := by kernel_rfl
@[go_sem] theorem sz64 : szT Tryz.prog 64 = some 1 := by kernel_rfl
@[go_sem] theorem by64 : bytesT Tryz.prog 64 = some 24 := by kernel_rfl
@[go_sem] theorem ag64 : isAggT Tryz.prog 64 = some false := by kernel_rfl
@[go_sem] theorem el64 : elemT Tryz.prog 64 = some 68 := by kernel_rfl
@[go_sem] theorem ze64 : zeroT Tryz.prog 64 = some (.slice none 0 0) := by kernel_rfl
@[go_sem] theorem sz68 : szT Tryz.prog 68 = some 2 := by kernel_rfl
@[go_sem] theorem by68 : bytesT Tryz.prog 68 = some 16 := by kernel_rfl
@[go_sem] theorem ag68 : isAggT Tryz.prog 68 = some true := by kernel_rfl
@[go_sem] theorem el68 : elemT Tryz.prog 68 = none := by kernel_rfl
@[go_sem] theorem ze68 : zeroT Tryz.prog 68 = some (.agg #[.int .i64 0, .int .i64 0]) := by kernel_rfl
@[go_sem] theorem fo68x0 : (fieldOf Tryz.prog 68 0).map (fun f => (f.type, f.offset)) = some (3, 0) := by kernel_rfl
@[go_sem] theorem fo68x1 : (fieldOf Tryz.prog 68 1).map (fun f => (f.type, f.offset)) = some (3, 1) := by kernel_rfl
@[go_sem] theorem sz77 : szT Tryz.prog 77 = some 1 := by kernel_rfl
@[go_sem] theorem by77 : bytesT Tryz.prog 77 = some 24 := by kernel_rfl
@[go_sem] theorem ag77 : isAggT Tryz.prog 77 = some false := by kernel_rfl
@[go_sem] theorem el77 : elemT Tryz.prog 77 = some 64 := by kernel_rfl
@[go_sem] theorem ze77 : zeroT Tryz.prog 77 = some (.slice none 0 0) := by kernel_rfl
@[go_sem] theorem sz79 : szT Tryz.prog 79 = some 2 := by kernel_rfl
@[go_sem] theorem by79 : bytesT Tryz.prog 79 = some 32 := by kernel_rfl
@[go_sem] theorem ag79 : isAggT Tryz.prog 79 = some true := by kernel_rfl
@[go_sem] theorem el79 : elemT Tryz.prog 79 = none := by kernel_rfl
@[go_sem] theorem ze79 : zeroT Tryz.prog 79 = some (.agg #[.slice none 0 0, .int .i64 0]) := by kernel_rfl
@[go_sem] theorem fo79x0 : (fieldOf Tryz.prog 79 0).map (fun f => (f.type, f.offset)) = some (77, 0) := by kernel_rfl
@[go_sem] theorem fo79x1 : (fieldOf Tryz.prog 79 1).map (fun f => (f.type, f.offset)) = some (3, 1) := by kernel_rfl
@[go_sem] theorem sz81 : szT Tryz.prog 81 = some 1 := by kernel_rfl
@[go_sem] theorem by81 : bytesT Tryz.prog 81 = some 8 := by kernel_rfl
@[go_sem] theorem ag81 : isAggT Tryz.prog 81 = some false := by kernel_rfl
@[go_sem] theorem el81 : elemT Tryz.prog 81 = none := by kernel_rfl
@[go_sem] theorem ze81 : zeroT Tryz.prog 81 = some (.nilFunc) := by kernel_rfl
@[go_sem] theorem sz86 : szT Tryz.prog 86 = some 4 := by kernel_rfl
@[go_sem] theorem by86 : bytesT Tryz.prog 86 = some 80 := by kernel_rfl
@[go_sem] theorem ag86 : isAggT Tryz.prog 86 = some true := by kernel_rfl
@[go_sem] theorem el86 : elemT Tryz.prog 86 = none := by kernel_rfl
@[go_sem] theorem ze86 : zeroT Tryz.prog 86 = some (.agg #[.slice none 0 0, .int .i64 0, .slice none 0 0, .slice none 0 0]) := by kernel_rfl
@[go_sem] theorem fo86x0 : (fieldOf Tryz.prog 86 0).map (fun f => (f.type, f.offset)) = some (79, 0) := by kernel_rfl
@[go_sem] theorem fo86x1 : (fieldOf Tryz.prog 86 1).map (fun f => (f.type, f.offset)) = some (22, 2) := by kernel_rfl
@[go_sem] theorem fo86x2 : (fieldOf Tryz.prog 86 2).map (fun f => (f.type, f.offset)) = some (22, 3) := by kernel_rfl
@[go_sem] theorem sz93 : szT Tryz.prog 93 = some 1 := by kernel_rfl
@[go_sem] theorem by93 : bytesT Tryz.prog 93 = some 8 := by kernel_rfl
@[go_sem] theorem ag93 : isAggT Tryz.prog 93 = some false := by kernel_rfl
@[go_sem] theorem el93 : elemT Tryz.prog 93 = none := by kernel_rfl
@[go_sem] theorem ze93 : zeroT Tryz.prog 93 = some (.nilFunc) := by kernel_rfl
@[go_sem] theorem sz97 : szT Tryz.prog 97 = some 1 := by kernel_rfl
@[go_sem] theorem by97 : bytesT Tryz.prog 97 = some 24 := by kernel_rfl
@[go_sem] theorem ag97 : isAggT Tryz.prog 97 = some false := by kernel_rfl
@[go_sem] theorem el97 : elemT Tryz.prog 97 = some 79 := by kernel_rfl
@[go_sem] theorem ze97 : zeroT Tryz.prog 97 = some (.slice none 0 0) := by kernel_rfl
@[go_sem] theorem sz99 : szT Tryz.prog 99 = some 1 := by kernel_rfl
@[go_sem] theorem by99 : bytesT Tryz.prog 99 = some 8 := by kernel_rfl
@[go_sem] theorem ag99 : isAggT Tryz.prog 99 = some false := by kernel_rfl
@[go_sem] theorem el99 : elemT Tryz.prog 99 = none := by kernel_rfl
@[go_sem] theorem ze99 : zeroT Tryz.prog 99 = some (.pointer none) := by kernel_rfl
@[go_sem] theorem sz101 : szT Tryz.prog 101 = some 1 := by kernel_rfl
@[go_sem] theorem by101 : bytesT Tryz.prog 101 = some 24 := by kernel_rfl
@[go_sem] theorem ag101 : isAggT Tryz.prog 101 = some false := by kernel_rfl
@[go_sem] theorem el101 : elemT Tryz.prog 101 = some 22 := by kernel_rfl
@[go_sem] theorem ze101 : zeroT Tryz.prog 101 = some (.slice none 0 0) := by kernel_rfl
@[go_sem] theorem sz103 : szT Tryz.prog 103 = some 2 := by kernel_rfl
@[go_sem] theorem by103 : bytesT Tryz.prog 103 = some 32 := by kernel_rfl
@[go_sem] theorem ag103 : isAggT Tryz.prog 103 = some true := by kernel_rfl
@[go_sem] theorem el103 : elemT Tryz.prog 103 = none := by kernel_rfl
@[go_sem] theorem ze103 : zeroT Tryz.prog 103 = some (.agg #[.slice none 0 0, .pointer none]) := by kernel_rfl
@[go_sem] theorem fo103x0 : (fieldOf Tryz.prog 103 0).map (fun f => (f.type, f.offset)) = some (101, 0) := by kernel_rfl
@[go_sem] theorem fo103x1 : (fieldOf Tryz.prog 103 1).map (fun f => (f.type, f.offset)) = some (99, 1) := by kernel_rfl
@[go_sem] theorem sz118 : szT Tryz.prog 118 = some 1 := by kernel_rfl
@[go_sem] theorem by118 : bytesT Tryz.prog 118 = some 8 := by kernel_rfl
@[go_sem] theorem ag118 : isAggT Tryz.prog 118 = some false := by kernel_rfl
@[go_sem] theorem el118 : elemT Tryz.prog 118 = none := by kernel_rfl
@[go_sem] theorem ze118 : zeroT Tryz.prog 118 = some (.nilFunc) := by kernel_rfl
@[go_sem] theorem sz119 : szT Tryz.prog 119 = some 1 := by kernel_rfl
@[go_sem] theorem by119 : bytesT Tryz.prog 119 = some 8 := by kernel_rfl
@[go_sem] theorem ag119 : isAggT Tryz.prog 119 = some false := by kernel_rfl
@[go_sem] theorem el119 : elemT Tryz.prog 119 = none := by kernel_rfl
@[go_sem] theorem ze119 : zeroT Tryz.prog 119 = some (.nilFunc) := by kernel_rfl
@[go_sem] theorem sz124 : szT Tryz.prog 124 = some 1 := by kernel_rfl
@[go_sem] theorem by124 : bytesT Tryz.prog 124 = some 8 := by kernel_rfl
@[go_sem] theorem ag124 : isAggT Tryz.prog 124 = some false := by kernel_rfl
@[go_sem] theorem el124 : elemT Tryz.prog 124 = none := by kernel_rfl
@[go_sem] theorem ze124 : zeroT Tryz.prog 124 = some (.nilFunc) := by kernel_rfl
@[go_sem] theorem sz126 : szT Tryz.prog 126 = some 3 := by kernel_rfl
@[go_sem] theorem by126 : bytesT Tryz.prog 126 = some 24 := by kernel_rfl
@[go_sem] theorem ag126 : isAggT Tryz.prog 126 = some true := by kernel_rfl
@[go_sem] theorem el126 : elemT Tryz.prog 126 = none := by kernel_rfl
@[go_sem] theorem ze126 : zeroT Tryz.prog 126 = some (.agg #[.int .i64 0, .int .i64 0, .bool false]) := by kernel_rfl
@[go_sem] theorem fo126x0 : (fieldOf Tryz.prog 126 0).map (fun f => (f.type, f.offset)) = some (3, 0) := by kernel_rfl
@[go_sem] theorem fo126x1 : (fieldOf Tryz.prog 126 1).map (fun f => (f.type, f.offset)) = some (3, 1) := by kernel_rfl
@[go_sem] theorem fo126x2 : (fieldOf Tryz.prog 126 2).map (fun f => (f.type, f.offset)) = some (4, 2) := by kernel_rfl
@[go_sem] theorem sz133 : szT Tryz.prog 133 = some 1 := by kernel_rfl
@[go_sem] theorem by133 : bytesT Tryz.prog 133 = some 8 := by kernel_rfl
@[go_sem] theorem ag133 : isAggT Tryz.prog 133 = some false := by kernel_rfl
@[go_sem] theorem el133 : elemT Tryz.prog 133 = none := by kernel_rfl
@[go_sem] theorem ze133 : zeroT Tryz.prog 133 = some (.map none) := by kernel_rfl
@[go_sem] theorem ma133 : mapT Tryz.prog 133 = some (3, 4) := by kernel_rfl
@[go_sem] theorem sz136 : szT Tryz.prog 136 = some 1 := by kernel_rfl
@[go_sem] theorem by136 : bytesT Tryz.prog 136 = some 8 := by kernel_rfl
@[go_sem] theorem ag136 : isAggT Tryz.prog 136 = some false := by kernel_rfl
@[go_sem] theorem el136 : elemT Tryz.prog 136 = none := by kernel_rfl
@[go_sem] theorem ze136 : zeroT Tryz.prog 136 = some (.map none) := by kernel_rfl
@[go_sem] theorem ma136 : mapT Tryz.prog 136 = some (3, 58) := by kernel_rfl
@[go_sem] theorem sz143 : szT Tryz.prog 143 = some 2 := by kernel_rfl
@[go_sem] theorem by143 : bytesT Tryz.prog 143 = some 16 := by kernel_rfl
@[go_sem] theorem ag143 : isAggT Tryz.prog 143 = some true := by kernel_rfl
@[go_sem] theorem el143 : elemT Tryz.prog 143 = none := by kernel_rfl
@[go_sem] theorem ze143 : zeroT Tryz.prog 143 = some (.agg #[.int .i64 0, .int .i64 0]) := by kernel_rfl
@[go_sem] theorem ar143 : arrayT Tryz.prog 143 = some (2, 3) := by kernel_rfl
@[go_sem] theorem sz145 : szT Tryz.prog 145 = some 3 := by kernel_rfl
@[go_sem] theorem by145 : bytesT Tryz.prog 145 = some 24 := by kernel_rfl
@[go_sem] theorem ag145 : isAggT Tryz.prog 145 = some true := by kernel_rfl
@[go_sem] theorem el145 : elemT Tryz.prog 145 = none := by kernel_rfl
@[go_sem] theorem ze145 : zeroT Tryz.prog 145 = some (.agg #[.int .i64 0, .int .i64 0, .bool false]) := by kernel_rfl
@[go_sem] theorem fo145x0 : (fieldOf Tryz.prog 145 0).map (fun f => (f.type, f.offset)) = some (143, 0) := by kernel_rfl
@[go_sem] theorem fo145x1 : (fieldOf Tryz.prog 145 1).map (fun f => (f.type, f.offset)) = some (4, 2) := by kernel_rfl
@[go_sem] theorem sz147 : szT Tryz.prog 147 = some 5 := by kernel_rfl
@[go_sem] theorem by147 : bytesT Tryz.prog 147 = some 40 := by kernel_rfl
@[go_sem] theorem ag147 : isAggT Tryz.prog 147 = some true := by kernel_rfl
@[go_sem] theorem el147 : elemT Tryz.prog 147 = none := by kernel_rfl
@[go_sem] theorem ze147 : zeroT Tryz.prog 147 = some (.agg #[.int .i64 0, .int .i64 0, .int .i64 0, .int .i64 0, .bool false]) := by kernel_rfl
@[go_sem] theorem fo147x0 : (fieldOf Tryz.prog 147 0).map (fun f => (f.type, f.offset)) = some (68, 0) := by kernel_rfl
@[go_sem] theorem fo147x1 : (fieldOf Tryz.prog 147 1).map (fun f => (f.type, f.offset)) = some (145, 2) := by kernel_rfl
@[go_sem] theorem sz148 : szT Tryz.prog 148 = some 1 := by kernel_rfl
@[go_sem] theorem by148 : bytesT Tryz.prog 148 = some 8 := by kernel_rfl
@[go_sem] theorem ag148 : isAggT Tryz.prog 148 = some false := by kernel_rfl
@[go_sem] theorem el148 : elemT Tryz.prog 148 = none := by kernel_rfl
@[go_sem] theorem ze148 : zeroT Tryz.prog 148 = some (.nilFunc) := by kernel_rfl
@[go_sem] theorem sz149 : szT Tryz.prog 149 = some 1 := by kernel_rfl
@[go_sem] theorem by149 : bytesT Tryz.prog 149 = some 8 := by kernel_rfl
@[go_sem] theorem ag149 : isAggT Tryz.prog 149 = some false := by kernel_rfl
@[go_sem] theorem el149 : elemT Tryz.prog 149 = none := by kernel_rfl
@[go_sem] theorem ze149 : zeroT Tryz.prog 149 = some (.nilFunc) := by kernel_rfl
@[go_sem] theorem sz153 : szT Tryz.prog 153 = some 1 := by kernel_rfl
@[go_sem] theorem by153 : bytesT Tryz.prog 153 = some 8 := by kernel_rfl
@[go_sem] theorem ag153 : isAggT Tryz.prog 153 = some false := by kernel_rfl
@[go_sem] theorem el153 : elemT Tryz.prog 153 = none := by kernel_rfl
@[go_sem] theorem ze153 : zeroT Tryz.prog 153 = some (.nilFunc) := by kernel_rfl
@[go_sem] theorem sz159 : szT Tryz.prog 159 = some 1 := by kernel_rfl
@[go_sem] theorem by159 : bytesT Tryz.prog 159 = some 8 := by kernel_rfl
@[go_sem] theorem ag159 : isAggT Tryz.prog 159 = some false := by kernel_rfl
@[go_sem] theorem el159 : elemT Tryz.prog 159 = none := by kernel_rfl
@[go_sem] theorem ze159 : zeroT Tryz.prog 159 = some (.nilFunc) := by kernel_rfl
@[go_sem] theorem sz160 : szT Tryz.prog 160 = some 1 := by kernel_rfl
@[go_sem] theorem by160 : bytesT Tryz.prog 160 = some 8 := by kernel_rfl
@[go_sem] theorem ag160 : isAggT Tryz.prog 160 = some false := by kernel_rfl
@[go_sem] theorem el160 : elemT Tryz.prog 160 = none := by kernel_rfl
@[go_sem] theorem ze160 : zeroT Tryz.prog 160 = some (.nilFunc) := by kernel_rfl
@[go_sem] theorem sz162 : szT Tryz.prog 162 = some 1 := by kernel_rfl
@[go_sem] theorem by162 : bytesT Tryz.prog 162 = some 8 := by kernel_rfl
@[go_sem] theorem ag162 : isAggT Tryz.prog 162 = some false := by kernel_rfl
@[go_sem] theorem el162 : elemT Tryz.prog 162 = none := by kernel_rfl
@[go_sem] theorem ze162 : zeroT Tryz.prog 162 = some (.nilFunc) := by kernel_rfl
@[go_sem] theorem sz163 : szT Tryz.prog 163 = some 1 := by kernel_rfl
@[go_sem] theorem by163 : bytesT Tryz.prog 163 = some 8 := by kernel_rfl
@[go_sem] theorem ag163 : isAggT Tryz.prog 163 = some false := by kernel_rfl
@[go_sem] theorem el163 : elemT Tryz.prog 163 = none := by kernel_rfl
@[go_sem] theorem ze163 : zeroT Tryz.prog 163 = some (.nilFunc) := by kernel_rfl
@[go_sem] theorem sz165 : szT Tryz.prog 165 = some 1 := by kernel_rfl
@[go_sem] theorem by165 : bytesT Tryz.prog 165 = some 8 := by kernel_rfl
@[go_sem] theorem ag165 : isAggT Tryz.prog 165 = some false := by kernel_rfl
@[go_sem] theorem el165 : elemT Tryz.prog 165 = none := by kernel_rfl
@[go_sem] theorem ze165 : zeroT Tryz.prog 165 = some (.nilFunc) := by kernel_rfl
@[go_sem] theorem sz166 : szT Tryz.prog 166 = some 1 := by kernel_rfl
@[go_sem] theorem by166 : bytesT Tryz.prog 166 = some 8 := by kernel_rfl
@[go_sem] theorem ag166 : isAggT Tryz.prog 166 = some false := by kernel_rfl
@[go_sem] theorem el166 : elemT Tryz.prog 166 = none := by kernel_rfl
@[go_sem] theorem ze166 : zeroT Tryz.prog 166 = some (.nilFunc) := by kernel_rfl
@[go_sem] theorem sz170 : szT Tryz.prog 170 = some 1 := by kernel_rfl
@[go_sem] theorem by170 : bytesT Tryz.prog 170 = some 8 := by kernel_rfl
@[go_sem] theorem ag170 : isAggT Tryz.prog 170 = some false := by kernel_rfl
@[go_sem] theorem el170 : elemT Tryz.prog 170 = none := by kernel_rfl
@[go_sem] theorem ze170 : zeroT Tryz.prog 170 = some (.int .u64 0) := by kernel_rfl
@[go_sem] theorem sz173 : szT Tryz.prog 173 = some 1 := by kernel_rfl
@[go_sem] theorem by173 : bytesT Tryz.prog 173 = some 8 := by kernel_rfl
@[go_sem] theorem ag173 : isAggT Tryz.prog 173 = some false := by kernel_rfl
@[go_sem] theorem el173 : elemT Tryz.prog 173 = none := by kernel_rfl
@[go_sem] theorem ze173 : zeroT Tryz.prog 173 = some (.nilFunc) := by kernel_rfl
@[go_sem] theorem sz174 : szT Tryz.prog 174 = some 1 := by kernel_rfl
@[go_sem] theorem by174 : bytesT Tryz.prog 174 = some 8 := by kernel_rfl
@[go_sem] theorem ag174 : isAggT Tryz.prog 174 = some false := by kernel_rfl
@[go_sem] theorem el174 : elemT Tryz.prog 174 = none := by kernel_rfl
@[go_sem] theorem ze174 : zeroT Tryz.prog 174 = some (.nilFunc) := by kernel_rfl
@[go_sem] theorem sz176 : szT Tryz.prog 176 = some 1 := by kernel_rfl
@[go_sem] theorem by176 : bytesT Tryz.prog 176 = some 8 := by kernel_rfl
@[go_sem] theorem ag176 : isAggT Tryz.prog 176 = some false := by kernel_rfl
@[go_sem] theorem el176 : elemT Tryz.prog 176 = none := by kernel_rfl
@[go_sem] theorem ze176 : zeroT Tryz.prog 176 = some (.int .i64 0) := by kernel_rfl
@[go_sem] theorem un176 : Tryz.prog.underlying 176 = some (.int .i64) := by kernel_rfl
@[go_sem] theorem sz200 : szT Tryz.prog 200 = some 4 := by kernel_rfl
@[go_sem] theorem by200 : bytesT Tryz.prog 200 = some 40 := by kernel_rfl
@[go_sem] theorem ag200 : isAggT Tryz.prog 200 = some true := by kernel_rfl
@[go_sem] theorem el200 : elemT Tryz.prog 200 = none := by kernel_rfl
@[go_sem] theorem ze200 : zeroT Tryz.prog 200 = some (.agg #[.pointer none, .pointer none, .pointer none, .string ⟨#[]⟩]) := by kernel_rfl
@[go_sem] theorem fo200x0 : (fieldOf Tryz.prog 200 0).map (fun f => (f.type, f.offset)) = some (17, 0) := by kernel_rfl
@[go_sem] theorem fo200x1 : (fieldOf Tryz.prog 200 1).map (fun f => (f.type, f.offset)) = some (17, 1) := by kernel_rfl
@[go_sem] theorem fo200x2 : (fieldOf Tryz.prog 200 2).map (fun f => (f.type, f.offset)) = some (17, 2) := by kernel_rfl
@[go_sem] theorem fo200x3 : (fieldOf Tryz.prog 200 3).map (fun f => (f.type, f.offset)) = some (9, 3) := by kernel_rfl
@[go_sem] theorem ar201 : arrayT Tryz.prog 201 = some (0, 16) := by kernel_rfl
@[go_sem] theorem sz203 : szT Tryz.prog 203 = some 0 := by kernel_rfl
@[go_sem] theorem by203 : bytesT Tryz.prog 203 = some 0 := by kernel_rfl
@[go_sem] theorem ag203 : isAggT Tryz.prog 203 = some true := by kernel_rfl
@[go_sem] theorem el203 : elemT Tryz.prog 203 = none := by kernel_rfl
@[go_sem] theorem ze203 : zeroT Tryz.prog 203 = some (.agg #[]) := by kernel_rfl
@[go_sem] theorem fo203x0 : (fieldOf Tryz.prog 203 0).map (fun f => (f.type, f.offset)) = some (201, 0) := by kernel_rfl
@[go_sem] theorem sz211 : szT Tryz.prog 211 = some 11 := by kernel_rfl
@[go_sem] theorem by211 : bytesT Tryz.prog 211 = some 48 := by kernel_rfl
@[go_sem] theorem ag211 : isAggT Tryz.prog 211 = some true := by kernel_rfl
@[go_sem] theorem el211 : elemT Tryz.prog 211 = none := by kernel_rfl
@[go_sem] theorem ze211 : zeroT Tryz.prog 211 = some (.agg #[.int .u64 0, .int .u64 0, .int .u32 0, .int .u8 0, .int .u8 0, .int .u8 0, .int .u8 0, .nilFunc, .pointer none, .int .i32 0, .int .i32 0]) := by kernel_rfl
@[go_sem] theorem fo211x0 : (fieldOf Tryz.prog 211 0).map (fun f => (f.type, f.offset)) = some (12, 0) := by kernel_rfl
@[go_sem] theorem fo211x1 : (fieldOf Tryz.prog 211 1).map (fun f => (f.type, f.offset)) = some (12, 1) := by kernel_rfl
@[go_sem] theorem fo211x2 : (fieldOf Tryz.prog 211 2).map (fun f => (f.type, f.offset)) = some (184, 2) := by kernel_rfl
@[go_sem] theorem fo211x3 : (fieldOf Tryz.prog 211 3).map (fun f => (f.type, f.offset)) = some (204, 3) := by kernel_rfl
@[go_sem] theorem fo211x4 : (fieldOf Tryz.prog 211 4).map (fun f => (f.type, f.offset)) = some (5, 4) := by kernel_rfl
@[go_sem] theorem fo211x5 : (fieldOf Tryz.prog 211 5).map (fun f => (f.type, f.offset)) = some (5, 5) := by kernel_rfl
@[go_sem] theorem fo211x6 : (fieldOf Tryz.prog 211 6).map (fun f => (f.type, f.offset)) = some (205, 6) := by kernel_rfl
@[go_sem] theorem fo211x7 : (fieldOf Tryz.prog 211 7).map (fun f => (f.type, f.offset)) = some (206, 7) := by kernel_rfl
@[go_sem] theorem fo211x8 : (fieldOf Tryz.prog 211 8).map (fun f => (f.type, f.offset)) = some (207, 8) := by kernel_rfl
@[go_sem] theorem fo211x9 : (fieldOf Tryz.prog 211 9).map (fun f => (f.type, f.offset)) = some (208, 9) := by kernel_rfl
@[go_sem] theorem fo211x10 : (fieldOf Tryz.prog 211 10).map (fun f => (f.type, f.offset)) = some (209, 10) := by kernel_rfl
@[go_sem] theorem ok3 : okFn Tryz.prog 3 = true := by kernel_rfl
@[go_sem] theorem res3 : Tryz.f3.results.toList = [.tmp 6] := rfl
@[go_sem] theorem ok4 : okFn Tryz.prog 4 = true := by kernel_rfl
@[go_sem] theorem res4 : Tryz.f4.results.toList = [.tmp 10] := rfl
@[go_sem] theorem ok5 : okFn Tryz.prog 5 = true := by kernel_rfl
@[go_sem] theorem res5 : Tryz.f5.results.toList = [.tmp 4] := rfl
@[go_sem] theorem ok6 : okFn Tryz.prog 6 = true := by kernel_rfl
@[go_sem] theorem res6 : Tryz.f6.results.toList = [.tmp 12] := rfl
@[go_sem] theorem ok8 : okFn Tryz.prog 8 = true := by kernel_rfl
@[go_sem] theorem res8 : Tryz.f8.results.toList = [.tmp 0] := rfl
@[go_sem] theorem ok9 : okFn Tryz.prog 9 = true := by kernel_rfl
@[go_sem] theorem res9 : Tryz.f9.results.toList = [.tmp 2] := rfl
@[go_sem] theorem ok10 : okFn Tryz.prog 10 = true := by kernel_rfl
@[go_sem] theorem res10 : Tryz.f10.results.toList = [.tmp 2] := rfl
@[go_sem] theorem ok11 : okFn Tryz.prog 11 = true := by kernel_rfl
@[go_sem] theorem res11 : Tryz.f11.results.toList = [.tmp 6, .tmp 7, .tmp 8] := rfl
@[go_sem] theorem ok12 : okFn Tryz.prog 12 = true := by kernel_rfl
@[go_sem] theorem res12 : Tryz.f12.results.toList = [.tmp 6, .tmp 7, .tmp 8] := rfl
@[go_sem] theorem ok13 : okFn Tryz.prog 13 = true := by kernel_rfl
@[go_sem] theorem res13 : Tryz.f13.results.toList = [.tmp 4, .tmp 5] := rfl
@[go_sem] theorem ok14 : okFn Tryz.prog 14 = true := by kernel_rfl
@[go_sem] theorem res14 : Tryz.f14.results.toList = [.cell 4 37] := rfl
@[go_sem] theorem ok15 : okFn Tryz.prog 15 = true := by kernel_rfl
@[go_sem] theorem res15 : Tryz.f15.results.toList = [.tmp 4, .tmp 5] := rfl
@[go_sem] theorem ok16 : okFn Tryz.prog 16 = true := by kernel_rfl
@[go_sem] theorem res16 : Tryz.f16.results.toList = [.cell 4 37] := rfl
@[go_sem] theorem ok17 : okFn Tryz.prog 17 = true := by kernel_rfl
@[go_sem] theorem res17 : Tryz.f17.results.toList = [.tmp 4] := rfl
@[go_sem] theorem ok18 : okFn Tryz.prog 18 = true := by kernel_rfl
@[go_sem] theorem res18 : Tryz.f18.results.toList = [.tmp 4, .tmp 5, .tmp 6] := rfl
@[go_sem] theorem ok19 : okFn Tryz.prog 19 = true := by kernel_rfl
@[go_sem] theorem res19 : Tryz.f19.results.toList = [.tmp 4, .tmp 5] := rfl
@[go_sem] theorem ok20 : okFn Tryz.prog 20 = true := by kernel_rfl
@[go_sem] theorem res20 : Tryz.f20.results.toList = [.tmp 6] := rfl
@[go_sem] theorem ok21 : okFn Tryz.prog 21 = true := by kernel_rfl
@[go_sem] theorem res21 : Tryz.f21.results.toList = [.tmp 6] := rfl
@[go_sem] theorem ok22 : okFn Tryz.prog 22 = true := by kernel_rfl
@[go_sem] theorem res22 : Tryz.f22.results.toList = [.tmp 6] := rfl
@[go_sem] theorem ok23 : okFn Tryz.prog 23 = true := by kernel_rfl
@[go_sem] theorem res23 : Tryz.f23.results.toList = [.tmp 4, .tmp 5] := rfl
@[go_sem] theorem ok24 : okFn Tryz.prog 24 = true := by kernel_rfl
@[go_sem] theorem res24 : Tryz.f24.results.toList = [.cell 4 37] := rfl
@[go_sem] theorem ok25 : okFn Tryz.prog 25 = true := by kernel_rfl
@[go_sem] theorem res25 : Tryz.f25.results.toList = [.tmp 4, .tmp 5] := rfl
@[go_sem] theorem ok26 : okFn Tryz.prog 26 = true := by kernel_rfl
@[go_sem] theorem res26 : Tryz.f26.results.toList = [.cell 4 37] := rfl
@[go_sem] theorem ok27 : okFn Tryz.prog 27 = true := by kernel_rfl
@[go_sem] theorem res27 : Tryz.f27.results.toList = [.tmp 2] := rfl
@[go_sem] theorem ok28 : okFn Tryz.prog 28 = true := by kernel_rfl
@[go_sem] theorem res28 : Tryz.f28.results.toList = [.tmp 4, .tmp 5, .tmp 6, .tmp 7] := rfl
@[go_sem] theorem ok29 : okFn Tryz.prog 29 = true := by kernel_rfl
@[go_sem] theorem res29 : Tryz.f29.results.toList = [.tmp 4, .tmp 5] := rfl
@[go_sem] theorem ok30 : okFn Tryz.prog 30 = true := by kernel_rfl
@[go_sem] theorem res30 : Tryz.f30.results.toList = [.tmp 8, .tmp 9] := rfl
@[go_sem] theorem ok31 : okFn Tryz.prog 31 = true := by kernel_rfl
@[go_sem] theorem res31 : Tryz.f31.results.toList = [.tmp 8] := rfl
@[go_sem] theorem ok32 : okFn Tryz.prog 32 = true := by kernel_rfl
@[go_sem] theorem res32 : Tryz.f32.results.toList = [.tmp 8, .tmp 9] := rfl
@[go_sem] theorem ok36 : okFn Tryz.prog 36 = true := by kernel_rfl
@[go_sem] theorem res36 : Tryz.f36.results.toList = [.tmp 6, .tmp 7] := rfl
@[go_sem] theorem ok38 : okFn Tryz.prog 38 = true := by kernel_rfl
@[go_sem] theorem res38 : Tryz.f38.results.toList = [.tmp 4, .tmp 5, .tmp 6] := rfl
@[go_sem] theorem ok40 : okFn Tryz.prog 40 = true := by kernel_rfl
@[go_sem] theorem res40 : Tryz.f40.results.toList = [.tmp 6, .tmp 7] := rfl
@[go_sem] theorem ok42 : okFn Tryz.prog 42 = true := by kernel_rfl
@[go_sem] theorem res42 : Tryz.f42.results.toList = [.tmp 4] := rfl
@[go_sem] theorem ok43 : okFn Tryz.prog 43 = true := by kernel_rfl
@[go_sem] theorem res43 : Tryz.f43.results.toList = [.cell 4 79] := rfl
@[go_sem] theorem ok44 : okFn Tryz.prog 44 = true := by kernel_rfl
@[go_sem] theorem res44 : Tryz.f44.results.toList = [.tmp 6] := rfl
@[go_sem] theorem ok45 : okFn Tryz.prog 45 = true := by kernel_rfl
@[go_sem] theorem res45 : Tryz.f45.results.toList = [.tmp 6] := rfl
@[go_sem] theorem ok46 : okFn Tryz.prog 46 = true := by kernel_rfl
@[go_sem] theorem res46 : Tryz.f46.results.toList = [.tmp 4] := rfl
@[go_sem] theorem ok47 : okFn Tryz.prog 47 = true := by kernel_rfl
@[go_sem] theorem res47 : Tryz.f47.results.toList = [.tmp 6] := rfl
@[go_sem] theorem ok48 : okFn Tryz.prog 48 = true := by kernel_rfl
@[go_sem] theorem res48 : Tryz.f48.results.toList = [.tmp 8] := rfl
@[go_sem] theorem ok49 : okFn Tryz.prog 49 = true := by kernel_rfl
@[go_sem] theorem res49 : Tryz.f49.results.toList = [.cell 4 86, .tmp 5] := rfl
@[go_sem] theorem ok50 : okFn Tryz.prog 50 = true := by kernel_rfl
@[go_sem] theorem res50 : Tryz.f50.results.toList = [.tmp 4] := rfl
@[go_sem] theorem ok51 : okFn Tryz.prog 51 = true := by kernel_rfl
@[go_sem] theorem res51 : Tryz.f51.results.toList = [.tmp 4] := rfl
@[go_sem] theorem ok52 : okFn Tryz.prog 52 = true := by kernel_rfl
@[go_sem] theorem res52 : Tryz.f52.results.toList = [.tmp 4] := rfl
@[go_sem] theorem ok53 : okFn Tryz.prog 53 = true := by kernel_rfl
@[go_sem] theorem res53 : Tryz.f53.results.toList = [.tmp 2] := rfl
@[go_sem] theorem ok54 : okFn Tryz.prog 54 = true := by kernel_rfl
@[go_sem] theorem res54 : Tryz.f54.results.toList = [.tmp 4] := rfl
@[go_sem] theorem ok55 : okFn Tryz.prog 55 = true := by kernel_rfl
@[go_sem] theorem res55 : Tryz.f55.results.toList = [.tmp 6] := rfl
@[go_sem] theorem ok56 : okFn Tryz.prog 56 = true := by kernel_rfl
@[go_sem] theorem res56 : Tryz.f56.results.toList = [.tmp 6] := rfl
@[go_sem] theorem ok57 : okFn Tryz.prog 57 = true := by kernel_rfl
@[go_sem] theorem res57 : Tryz.f57.results.toList = [.tmp 6] := rfl
@[go_sem] theorem ok58 : okFn Tryz.prog 58 = true := by kernel_rfl
@[go_sem] theorem res58 : Tryz.f58.results.toList = [.tmp 6] := rfl
@[go_sem] theorem ok59 : okFn Tryz.prog 59 = true := by kernel_rfl
@[go_sem] theorem res59 : Tryz.f59.results.toList = [.tmp 6] := rfl
@[go_sem] theorem ok60 : okFn Tryz.prog 60 = true := by kernel_rfl
@[go_sem] theorem res60 : Tryz.f60.results.toList = [.tmp 4] := rfl
@[go_sem] theorem ok61 : okFn Tryz.prog 61 = true := by kernel_rfl
@[go_sem] theorem res61 : Tryz.f61.results.toList = [.tmp 4] := rfl
@[go_sem] theorem ok62 : okFn Tryz.prog 62 = true := by kernel_rfl
@[go_sem] theorem res62 : Tryz.f62.results.toList = [.cell 4 25] := rfl
@[go_sem] theorem ok63 : okFn Tryz.prog 63 = true := by kernel_rfl
@[go_sem] theorem res63 : Tryz.f63.results.toList = [.cell 4 25] := rfl
@[go_sem] theorem ok64 : okFn Tryz.prog 64 = true := by kernel_rfl
@[go_sem] theorem res64 : Tryz.f64.results.toList = [.tmp 4] := rfl
@[go_sem] theorem ok65 : okFn Tryz.prog 65 = true := by kernel_rfl
@[go_sem] theorem res65 : Tryz.f65.results.toList = [.tmp 5] := rfl
@[go_sem] theorem ok66 : okFn Tryz.prog 66 = true := by kernel_rfl
@[go_sem] theorem res66 : Tryz.f66.results.toList = [.tmp 4] := rfl
@[go_sem] theorem ok67 : okFn Tryz.prog 67 = true := by kernel_rfl
@[go_sem] theorem res67 : Tryz.f67.results.toList = [.tmp 4] := rfl
@[go_sem] theorem ok68 : okFn Tryz.prog 68 = true := by kernel_rfl
@[go_sem] theorem res68 : Tryz.f68.results.toList = [.tmp 4] := rfl
@[go_sem] theorem ok69 : okFn Tryz.prog 69 = true := by kernel_rfl
@[go_sem] theorem res69 : Tryz.f69.results.toList = [.tmp 4] := rfl
@[go_sem] theorem ok70 : okFn Tryz.prog 70 = true := by kernel_rfl
@[go_sem] theorem res70 : Tryz.f70.results.toList = [.tmp 4] := rfl
@[go_sem] theorem ok71 : okFn Tryz.prog 71 = true := by kernel_rfl
@[go_sem] theorem res71 : Tryz.f71.results.toList = [.tmp 2, .tmp 3] := rfl
@[go_sem] theorem ok72 : okFn Tryz.prog 72 = true := by kernel_rfl
@[go_sem] theorem res72 : Tryz.f72.results.toList = [.tmp 4] := rfl
@[go_sem] theorem ok73 : okFn Tryz.prog 73 = true := by kernel_rfl
@[go_sem] theorem res73 : Tryz.f73.results.toList = [.tmp 6] := rfl
@[go_sem] theorem ok74 : okFn Tryz.prog 74 = true := by kernel_rfl
@[go_sem] theorem res74 : Tryz.f74.results.toList = [.tmp 2] := rfl
@[go_sem] theorem ok75 : okFn Tryz.prog 75 = true := by kernel_rfl
@[go_sem] theorem res75 : Tryz.f75.results.toList = [.tmp 2] := rfl
@[go_sem] theorem ok76 : okFn Tryz.prog 76 = true := by kernel_rfl
@[go_sem] theorem res76 : Tryz.f76.results.toList = [.tmp 2] := rfl
@[go_sem] theorem ok79 : okFn Tryz.prog 79 = true := by kernel_rfl
@[go_sem] theorem res79 : Tryz.f79.results.toList = [.tmp 4] := rfl
@[go_sem] theorem ok80 : okFn Tryz.prog 80 = true := by kernel_rfl
@[go_sem] theorem res80 : Tryz.f80.results.toList = [.tmp 4] := rfl
@[go_sem] theorem ok82 : okFn Tryz.prog 82 = true := by kernel_rfl
@[go_sem] theorem res82 : Tryz.f82.results.toList = [.tmp 3] := rfl
@[go_sem] theorem ok83 : okFn Tryz.prog 83 = true := by kernel_rfl
@[go_sem] theorem res83 : Tryz.f83.results.toList = [.tmp 4] := rfl
@[go_sem] theorem ok84 : okFn Tryz.prog 84 = true := by kernel_rfl
@[go_sem] theorem res84 : Tryz.f84.results.toList = [.tmp 3] := rfl
@[go_sem] theorem ok86 : okFn Tryz.prog 86 = true := by kernel_rfl
@[go_sem] theorem res86 : Tryz.f86.results.toList = [.tmp 2] := rfl
@[go_sem] theorem ok87 : okFn Tryz.prog 87 = true := by kernel_rfl
@[go_sem] theorem res87 : Tryz.f87.results.toList = [.tmp 6] := rfl
@[go_sem] theorem ok88 : okFn Tryz.prog 88 = true := by kernel_rfl
@[go_sem] theorem res88 : Tryz.f88.results.toList = [.tmp 4] := rfl
@[go_sem] theorem ok89 : okFn Tryz.prog 89 = true := by kernel_rfl
@[go_sem] theorem res89 : Tryz.f89.results.toList = [.tmp 4] := rfl
@[go_sem] theorem ok90 : okFn Tryz.prog 90 = true := by kernel_rfl
@[go_sem] theorem res90 : Tryz.f90.results.toList = [.tmp 4] := rfl
@[go_sem] theorem ok91 : okFn Tryz.prog 91 = true := by kernel_rfl
@[go_sem] theorem res91 : Tryz.f91.results.toList = [.tmp 3] := rfl
@[go_sem] theorem ok92 : okFn Tryz.prog 92 = true := by kernel_rfl
@[go_sem] theorem res92 : Tryz.f92.results.toList = [.tmp 2] := rfl
@[go_sem] theorem ok93 : okFn Tryz.prog 93 = true := by kernel_rfl
@[go_sem] theorem res93 : Tryz.f93.results.toList = [.tmp 4] := rfl
@[go_sem] theorem ok94 : okFn Tryz.prog 94 = true := by kernel_rfl
@[go_sem] theorem res94 : Tryz.f94.results.toList = [.cell 6 126] := rfl
@[go_sem] theorem ok95 : okFn Tryz.prog 95 = true := by kernel_rfl
@[go_sem] theorem res95 : Tryz.f95.results.toList = [.tmp 2] := rfl
@[go_sem] theorem ok96 : okFn Tryz.prog 96 = true := by kernel_rfl
@[go_sem] theorem res96 : Tryz.f96.results.toList = [.tmp 6] := rfl
@[go_sem] theorem ok97 : okFn Tryz.prog 97 = true := by kernel_rfl
@[go_sem] theorem res97 : Tryz.f97.results.toList = [.tmp 4] := rfl
@[go_sem] theorem ok98 : okFn Tryz.prog 98 = true := by kernel_rfl
@[go_sem] theorem res98 : Tryz.f98.results.toList = [.cell 2 79] := rfl
@[go_sem] theorem ok99 : okFn Tryz.prog 99 = true := by kernel_rfl
@[go_sem] theorem res99 : Tryz.f99.results.toList = [.tmp 2] := rfl
@[go_sem] theorem ok100 : okFn Tryz.prog 100 = true := by kernel_rfl
@[go_sem] theorem res100 : Tryz.f100.results.toList = [.tmp 2] := rfl
@[go_sem] theorem ok101 : okFn Tryz.prog 101 = true := by kernel_rfl
@[go_sem] theorem res101 : Tryz.f101.results.toList = [] := rfl
@[go_sem] theorem ok102 : okFn Tryz.prog 102 = true := by kernel_rfl
@[go_sem] theorem res102 : Tryz.f102.results.toList = [.tmp 4] := rfl
@[go_sem] theorem ok103 : okFn Tryz.prog 103 = true := by kernel_rfl
@[go_sem] theorem res103 : Tryz.f103.results.toList = [.tmp 6, .tmp 7] := rfl
@[go_sem] theorem ok104 : okFn Tryz.prog 104 = true := by kernel_rfl
@[go_sem] theorem res104 : Tryz.f104.results.toList = [.tmp 4] := rfl
@[go_sem] theorem ok108 : okFn Tryz.prog 108 = true := by kernel_rfl
@[go_sem] theorem res108 : Tryz.f108.results.toList = [.tmp 4] := rfl
@[go_sem] theorem ok112 : okFn Tryz.prog 112 = true := by kernel_rfl
@[go_sem] theorem res112 : Tryz.f112.results.toList = [.tmp 2] := rfl
@[go_sem] theorem ok113 : okFn Tryz.prog 113 = true := by kernel_rfl
@[go_sem] theorem res113 : Tryz.f113.results.toList = [] := rfl
@[go_sem] theorem ok114 : okFn Tryz.prog 114 = true := by kernel_rfl
@[go_sem] theorem res114 : Tryz.f114.results.toList = [.tmp 4] := rfl
@[go_sem] theorem ok115 : okFn Tryz.prog 115 = true := by kernel_rfl
@[go_sem] theorem res115 : Tryz.f115.results.toList = [.tmp 4] := rfl
@[go_sem] theorem ok116 : okFn Tryz.prog 116 = true := by kernel_rfl
@[go_sem] theorem res116 : Tryz.f116.results.toList = [.tmp 4] := rfl
@[go_sem] theorem ok117 : okFn Tryz.prog 117 = true := by kernel_rfl
@[go_sem] theorem res117 : Tryz.f117.results.toList = [.tmp 2] := rfl
@[go_sem] theorem ok118 : okFn Tryz.prog 118 = true := by kernel_rfl
@[go_sem] theorem res118 : Tryz.f118.results.toList = [.cell 4 68, .tmp 5] := rfl
@[go_sem] theorem ok119 : okFn Tryz.prog 119 = true := by kernel_rfl
@[go_sem] theorem res119 : Tryz.f119.results.toList = [.tmp 3] := rfl
@[go_sem] theorem ok120 : okFn Tryz.prog 120 = true := by kernel_rfl
@[go_sem] theorem res120 : Tryz.f120.results.toList = [.tmp 2] := rfl
@[go_sem] theorem ok121 : okFn Tryz.prog 121 = true := by kernel_rfl
@[go_sem] theorem res121 : Tryz.f121.results.toList = [.tmp 2] := rfl
@[go_sem] theorem ok122 : okFn Tryz.prog 122 = true := by kernel_rfl
@[go_sem] theorem res122 : Tryz.f122.results.toList = [.tmp 2] := rfl
@[go_sem] theorem ok123 : okFn Tryz.prog 123 = true := by kernel_rfl
@[go_sem] theorem res123 : Tryz.f123.results.toList = [] := rfl
@[go_sem] theorem ok124 : okFn Tryz.prog 124 = true := by kernel_rfl
@[go_sem] theorem res124 : Tryz.f124.results.toList = [.tmp 2] := rfl
@[go_sem] theorem ok125 : okFn Tryz.prog 125 = true := by kernel_rfl
@[go_sem] theorem res125 : Tryz.f125.results.toList = [.tmp 2] := rfl
@[go_sem] theorem ok128 : okFn Tryz.prog 128 = true := by kernel_rfl
@[go_sem] theorem res128 : Tryz.f128.results.toList = [] := rfl
@[go_sem] theorem ok129 : okFn Tryz.prog 129 = true := by kernel_rfl
@[go_sem] theorem res129 : Tryz.f129.results.toList = [.cell 4 145] := rfl
@[go_sem] theorem ok130 : okFn Tryz.prog 130 = true := by kernel_rfl
@[go_sem] theorem res130 : Tryz.f130.results.toList = [.tmp 4] := rfl
@[go_sem] theorem ok131 : okFn Tryz.prog 131 = true := by kernel_rfl
@[go_sem] theorem res131 : Tryz.f131.results.toList = [] := rfl
@[go_sem] theorem ok132 : okFn Tryz.prog 132 = true := by kernel_rfl
@[go_sem] theorem res132 : Tryz.f132.results.toList = [] := rfl
@[go_sem] theorem ok133 : okFn Tryz.prog 133 = true := by kernel_rfl
@[go_sem] theorem res133 : Tryz.f133.results.toList = [] := rfl
@[go_sem] theorem ok134 : okFn Tryz.prog 134 = true := by kernel_rfl
@[go_sem] theorem res134 : Tryz.f134.results.toList = [] := rfl
@[go_sem] theorem ok135 : okFn Tryz.prog 135 = true := by kernel_rfl
@[go_sem] theorem res135 : Tryz.f135.results.toList = [] := rfl
@[go_sem] theorem ok136 : okFn Tryz.prog 136 = true := by kernel_rfl
@[go_sem] theorem res136 : Tryz.f136.results.toList = [] := rfl
@[go_sem] theorem ok137 : okFn Tryz.prog 137 = true := by kernel_rfl
@[go_sem] theorem res137 : Tryz.f137.results.toList = [.tmp 6, .tmp 7] := rfl
@[go_sem] theorem ok138 : okFn Tryz.prog 138 = true := by kernel_rfl
@[go_sem] theorem res138 : Tryz.f138.results.toList = [] := rfl
@[go_sem] theorem ok139 : okFn Tryz.prog 139 = true := by kernel_rfl
@[go_sem] theorem res139 : Tryz.f139.results.toList = [.tmp 6] := rfl
@[go_sem] theorem ok140 : okFn Tryz.prog 140 = true := by kernel_rfl
@[go_sem] theorem res140 : Tryz.f140.results.toList = [.tmp 4] := rfl
@[go_sem] theorem ok141 : okFn Tryz.prog 141 = true := by kernel_rfl
@[go_sem] theorem res141 : Tryz.f141.results.toList = [.tmp 8] := rfl
@[go_sem] theorem ok142 : okFn Tryz.prog 142 = true := by kernel_rfl
@[go_sem] theorem res142 : Tryz.f142.results.toList = [.tmp 8, .tmp 9] := rfl
@[go_sem] theorem ok146 : okFn Tryz.prog 146 = true := by kernel_rfl
@[go_sem] theorem res146 : Tryz.f146.results.toList = [.tmp 4] := rfl
@[go_sem] theorem ok152 : okFn Tryz.prog 152 = true := by kernel_rfl
@[go_sem] theorem res152 : Tryz.f152.results.toList = [.tmp 2] := rfl
theorem mixed : Tryz.prog.follows .mixedOrders = true := by kernel_rfl
end Go.Proofs.Tryz

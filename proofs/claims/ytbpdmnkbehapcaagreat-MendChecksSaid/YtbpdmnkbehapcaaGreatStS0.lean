/- Contracts of functions, walked. -/
import Derived.Test.YtbpdmnkbehapcaaGreatProg
import Derived.Test.YtbpdmnkbehapcaaGreatAwA
set_option linter.all false
namespace Go.Proofs.Tryz
open Go Go.Am Go.RowKit
set_option maxRecDepth 100000
@[go_sem] theorem sz3 : szT Tryz.prog 3 = some 1 := by kernel_rfl
@[go_sem] theorem by3 : bytesT Tryz.prog 3 = some 8 := by kernel_rfl
@[go_sem] theorem ag3 : isAggT Tryz.prog 3 = some false := by kernel_rfl
@[go_sem] theorem el3 : elemT Tryz.prog 3 = none := by kernel_rfl
@[go_sem] theorem ze3 : zeroT Tryz.prog 3 = some (.int .i64 0) := by kernel_rfl
@[go_sem] theorem un3 : Tryz.prog.underlying 3 = some (.int .i64) := by kernel_rfl
@[go_sem] theorem sz4 : szT Tryz.prog 4 = some 1 := by kernel_rfl
@[go_sem] theorem by4 : bytesT Tryz.prog 4 = some 1 := by kernel_rfl
@[go_sem] theorem ag4 : isAggT Tryz.prog 4 = some false := by kernel_rfl
@[go_sem] theorem el4 : elemT Tryz.prog 4 = none := by kernel_rfl
@[go_sem] theorem ze4 : zeroT Tryz.prog 4 = some (.bool false) := by kernel_rfl
@[go_sem] theorem un4 : Tryz.prog.underlying 4 = some .bool := by kernel_rfl
@[go_sem] theorem fo7x0 : (fieldOf Tryz.prog 7 0).map (fun f => (f.type, f.offset)) = some (2, 0) := by kernel_rfl
@[go_sem] theorem fo7x1 : (fieldOf Tryz.prog 7 1).map (fun f => (f.type, f.offset)) = some (3, 1) := by kernel_rfl
@[go_sem] theorem fo7x2 : (fieldOf Tryz.prog 7 2).map (fun f => (f.type, f.offset)) = some (4, 2) := by kernel_rfl
@[go_sem] theorem fo7x3 : (fieldOf Tryz.prog 7 3).map (fun f => (f.type, f.offset)) = some (6, 3) := by kernel_rfl
@[go_sem] theorem fo8x0 : (fieldOf Tryz.prog 8 0).map (fun f => (f.type, f.offset)) = some (2, 0) := by kernel_rfl
@[go_sem] theorem fo8x1 : (fieldOf Tryz.prog 8 1).map (fun f => (f.type, f.offset)) = some (3, 1) := by kernel_rfl
@[go_sem] theorem fo8x2 : (fieldOf Tryz.prog 8 2).map (fun f => (f.type, f.offset)) = some (4, 2) := by kernel_rfl
@[go_sem] theorem fo8x3 : (fieldOf Tryz.prog 8 3).map (fun f => (f.type, f.offset)) = some (6, 3) := by kernel_rfl
@[go_sem] theorem fo14x0 : (fieldOf Tryz.prog 14 0).map (fun f => (f.type, f.offset)) = some (9, 0) := by kernel_rfl
@[go_sem] theorem fo14x1 : (fieldOf Tryz.prog 14 1).map (fun f => (f.type, f.offset)) = some (12, 1) := by kernel_rfl
@[go_sem] theorem fo19x0 : (fieldOf Tryz.prog 19 0).map (fun f => (f.type, f.offset)) = some (17, 0) := by kernel_rfl
@[go_sem] theorem sz22 : szT Tryz.prog 22 = some 1 := by kernel_rfl
@[go_sem] theorem by22 : bytesT Tryz.prog 22 = some 24 := by kernel_rfl
@[go_sem] theorem ag22 : isAggT Tryz.prog 22 = some false := by kernel_rfl
@[go_sem] theorem el22 : elemT Tryz.prog 22 = some 3 := by kernel_rfl
@[go_sem] theorem ze22 : zeroT Tryz.prog 22 = some (.slice none 0 0) := by kernel_rfl
@[go_sem] theorem sz23 : szT Tryz.prog 23 = some 1 := by kernel_rfl
@[go_sem] theorem by23 : bytesT Tryz.prog 23 = some 24 := by kernel_rfl
@[go_sem] theorem ag23 : isAggT Tryz.prog 23 = some false := by kernel_rfl
@[go_sem] theorem el23 : elemT Tryz.prog 23 = some 69 := by kernel_rfl
@[go_sem] theorem ze23 : zeroT Tryz.prog 23 = some (.slice none 0 0) := by kernel_rfl
@[go_sem] theorem sz25 : szT Tryz.prog 25 = some 3 := by kernel_rfl
@[go_sem] theorem by25 : bytesT Tryz.prog 25 = some 56 := by kernel_rfl
@[go_sem] theorem ag25 : isAggT Tryz.prog 25 = some true := by kernel_rfl
@[go_sem] theorem el25 : elemT Tryz.prog 25 = none := by kernel_rfl
@[go_sem] theorem ze25 : zeroT Tryz.prog 25 = some (.agg #[.int .i64 0, .slice none 0 0, .slice none 0 0]) := by kernel_rfl
@[go_sem] theorem fo25x0 : (fieldOf Tryz.prog 25 0).map (fun f => (f.type, f.offset)) = some (3, 0) := by kernel_rfl
@[go_sem] theorem fo25x1 : (fieldOf Tryz.prog 25 1).map (fun f => (f.type, f.offset)) = some (22, 1) := by kernel_rfl
@[go_sem] theorem fo25x2 : (fieldOf Tryz.prog 25 2).map (fun f => (f.type, f.offset)) = some (23, 2) := by kernel_rfl
@[go_sem] theorem sz27 : szT Tryz.prog 27 = some 2 := by kernel_rfl
@[go_sem] theorem by27 : bytesT Tryz.prog 27 = some 16 := by kernel_rfl
@[go_sem] theorem ag27 : isAggT Tryz.prog 27 = some true := by kernel_rfl
@[go_sem] theorem el27 : elemT Tryz.prog 27 = none := by kernel_rfl
@[go_sem] theorem ze27 : zeroT Tryz.prog 27 = some (.agg #[.int .i64 0, .int .i64 0]) := by kernel_rfl
@[go_sem] theorem fo27x0 : (fieldOf Tryz.prog 27 0).map (fun f => (f.type, f.offset)) = some (3, 0) := by kernel_rfl
@[go_sem] theorem fo27x1 : (fieldOf Tryz.prog 27 1).map (fun f => (f.type, f.offset)) = some (3, 1) := by kernel_rfl
@[go_sem] theorem sz30 : szT Tryz.prog 30 = some 1 := by kernel_rfl
@[go_sem] theorem by30 : bytesT Tryz.prog 30 = some 8 := by kernel_rfl
@[go_sem] theorem ag30 : isAggT Tryz.prog 30 = some false := by kernel_rfl
@[go_sem] theorem el30 : elemT Tryz.prog 30 = none := by kernel_rfl
@[go_sem] theorem ze30 : zeroT Tryz.prog 30 = some (.int .i64 0) := by kernel_rfl
@[go_sem] theorem un30 : Tryz.prog.underlying 30 = some (.int .i64) := by kernel_rfl
@[go_sem] theorem sz34 : szT Tryz.prog 34 = some 2 := by kernel_rfl
@[go_sem] theorem by34 : bytesT Tryz.prog 34 = some 32 := by kernel_rfl
@[go_sem] theorem ag34 : isAggT Tryz.prog 34 = some true := by kernel_rfl
@[go_sem] theorem el34 : elemT Tryz.prog 34 = none := by kernel_rfl
@[go_sem] theorem ze34 : zeroT Tryz.prog 34 = some (.agg #[.slice none 0 0, .int .i64 0]) := by kernel_rfl
@[go_sem] theorem fo34x0 : (fieldOf Tryz.prog 34 0).map (fun f => (f.type, f.offset)) = some (22, 0) := by kernel_rfl
@[go_sem] theorem fo34x1 : (fieldOf Tryz.prog 34 1).map (fun f => (f.type, f.offset)) = some (30, 1) := by kernel_rfl
@[go_sem] theorem fo48x0 : (fieldOf Tryz.prog 48 0).map (fun f => (f.type, f.offset)) = some (22, 0) := by kernel_rfl
@[go_sem] theorem fo48x1 : (fieldOf Tryz.prog 48 1).map (fun f => (f.type, f.offset)) = some (3, 1) := by kernel_rfl
@[go_sem] theorem fo48x2 : (fieldOf Tryz.prog 48 2).map (fun f => (f.type, f.offset)) = some (46, 2) := by kernel_rfl
@[go_sem] theorem fo60x0 : (fieldOf Tryz.prog 60 0).map (fun f => (f.type, f.offset)) = some (22, 0) := by kernel_rfl
@[go_sem] theorem fo60x1 : (fieldOf Tryz.prog 60 1).map (fun f => (f.type, f.offset)) = some (22, 1) := by kernel_rfl
@[go_sem] theorem fo60x2 : (fieldOf Tryz.prog 60 2).map (fun f => (f.type, f.offset)) = some (30, 2) := by kernel_rfl
@[go_sem] theorem sz69 : szT Tryz.prog 69 = some 4 := by kernel_rfl
@[go_sem] theorem by69 : bytesT Tryz.prog 69 = some 32 := by kernel_rfl
@[go_sem] theorem ag69 : isAggT Tryz.prog 69 = some true := by kernel_rfl
@[go_sem] theorem el69 : elemT Tryz.prog 69 = none := by kernel_rfl
@[go_sem] theorem ze69 : zeroT Tryz.prog 69 = some (.agg #[.int .i64 0, .int .i64 0, .int .i64 0, .int .i64 0]) := by kernel_rfl
@[go_sem] theorem fo69x0 : (fieldOf Tryz.prog 69 0).map (fun f => (f.type, f.offset)) = some (3, 0) := by kernel_rfl
@[go_sem] theorem fo69x1 : (fieldOf Tryz.prog 69 1).map (fun f => (f.type, f.offset)) = some (27, 1) := by kernel_rfl
@[go_sem] theorem fo69x2 : (fieldOf Tryz.prog 69 2).map (fun f => (f.type, f.offset)) = some (3, 3) := by kernel_rfl
@[go_sem] theorem fo73x0 : (fieldOf Tryz.prog 73 0).map (fun f => (f.type, f.offset)) = some (3, 0) := by kernel_rfl
@[go_sem] theorem fo73x1 : (fieldOf Tryz.prog 73 1).map (fun f => (f.type, f.offset)) = some (3, 1) := by kernel_rfl
@[go_sem] theorem fo73x2 : (fieldOf Tryz.prog 73 2).map (fun f => (f.type, f.offset)) = some (22, 2) := by kernel_rfl
@[go_sem] theorem sz74 : szT Tryz.prog 74 = some 1 := by kernel_rfl
@[go_sem] theorem by74 : bytesT Tryz.prog 74 = some 24 := by kernel_rfl
@[go_sem] theorem ag74 : isAggT Tryz.prog 74 = some false := by kernel_rfl
@[go_sem] theorem el74 : elemT Tryz.prog 74 = some 22 := by kernel_rfl
@[go_sem] theorem ze74 : zeroT Tryz.prog 74 = some (.slice none 0 0) := by kernel_rfl
@[go_sem] theorem fo78x0 : (fieldOf Tryz.prog 78 0).map (fun f => (f.type, f.offset)) = some (74, 0) := by kernel_rfl
@[go_sem] theorem fo78x1 : (fieldOf Tryz.prog 78 1).map (fun f => (f.type, f.offset)) = some (30, 1) := by kernel_rfl
@[go_sem] theorem fo83x0 : (fieldOf Tryz.prog 83 0).map (fun f => (f.type, f.offset)) = some (25, 0) := by kernel_rfl
@[go_sem] theorem fo83x1 : (fieldOf Tryz.prog 83 1).map (fun f => (f.type, f.offset)) = some (30, 3) := by kernel_rfl
@[go_sem] theorem fo100x0 : (fieldOf Tryz.prog 100 0).map (fun f => (f.type, f.offset)) = some (22, 0) := by kernel_rfl
@[go_sem] theorem fo100x1 : (fieldOf Tryz.prog 100 1).map (fun f => (f.type, f.offset)) = some (98, 1) := by kernel_rfl
@[go_sem] theorem fo104x0 : (fieldOf Tryz.prog 104 0).map (fun f => (f.type, f.offset)) = some (22, 0) := by kernel_rfl
@[go_sem] theorem fo104x1 : (fieldOf Tryz.prog 104 1).map (fun f => (f.type, f.offset)) = some (3, 1) := by kernel_rfl
@[go_sem] theorem fo104x2 : (fieldOf Tryz.prog 104 2).map (fun f => (f.type, f.offset)) = some (3, 2) := by kernel_rfl
@[go_sem] theorem fo104x3 : (fieldOf Tryz.prog 104 3).map (fun f => (f.type, f.offset)) = some (3, 3) := by kernel_rfl
@[go_sem] theorem sz114 : szT Tryz.prog 114 = some 120 := by kernel_rfl
@[go_sem] theorem by114 : bytesT Tryz.prog 114 = some 960 := by kernel_rfl
@[go_sem] theorem ag114 : isAggT Tryz.prog 114 = some true := by kernel_rfl
@[go_sem] theorem el114 : elemT Tryz.prog 114 = none := by kernel_rfl
@[go_sem] theorem ar114 : arrayT Tryz.prog 114 = some (120, 3) := by kernel_rfl
@[go_sem] theorem sz116 : szT Tryz.prog 116 = some 121 := by kernel_rfl
@[go_sem] theorem by116 : bytesT Tryz.prog 116 = some 984 := by kernel_rfl
@[go_sem] theorem ag116 : isAggT Tryz.prog 116 = some true := by kernel_rfl
@[go_sem] theorem el116 : elemT Tryz.prog 116 = none := by kernel_rfl
@[go_sem] theorem fo116x0 : (fieldOf Tryz.prog 116 0).map (fun f => (f.type, f.offset)) = some (23, 0) := by kernel_rfl
@[go_sem] theorem fo116x1 : (fieldOf Tryz.prog 116 1).map (fun f => (f.type, f.offset)) = some (114, 1) := by kernel_rfl
@[go_sem] theorem sz119 : szT Tryz.prog 119 = some 1 := by kernel_rfl
@[go_sem] theorem by119 : bytesT Tryz.prog 119 = some 8 := by kernel_rfl
@[go_sem] theorem ag119 : isAggT Tryz.prog 119 = some false := by kernel_rfl
@[go_sem] theorem el119 : elemT Tryz.prog 119 = none := by kernel_rfl
@[go_sem] theorem ze119 : zeroT Tryz.prog 119 = some (.nilFunc) := by kernel_rfl
@[go_sem] theorem sz120 : szT Tryz.prog 120 = some 1 := by kernel_rfl
@[go_sem] theorem by120 : bytesT Tryz.prog 120 = some 8 := by kernel_rfl
@[go_sem] theorem ag120 : isAggT Tryz.prog 120 = some false := by kernel_rfl
@[go_sem] theorem el120 : elemT Tryz.prog 120 = none := by kernel_rfl
@[go_sem] theorem ze120 : zeroT Tryz.prog 120 = some (.nilFunc) := by kernel_rfl
@[go_sem] theorem sz127 : szT Tryz.prog 127 = some 1 := by kernel_rfl
@[go_sem] theorem by127 : bytesT Tryz.prog 127 = some 8 := by kernel_rfl
@[go_sem] theorem ag127 : isAggT Tryz.prog 127 = some false := by kernel_rfl
@[go_sem] theorem el127 : elemT Tryz.prog 127 = none := by kernel_rfl
@[go_sem] theorem ze127 : zeroT Tryz.prog 127 = some (.nilFunc) := by kernel_rfl
@[go_sem] theorem sz131 : szT Tryz.prog 131 = some 1 := by kernel_rfl
@[go_sem] theorem by131 : bytesT Tryz.prog 131 = some 8 := by kernel_rfl
@[go_sem] theorem ag131 : isAggT Tryz.prog 131 = some false := by kernel_rfl
@[go_sem] theorem el131 : elemT Tryz.prog 131 = none := by kernel_rfl
@[go_sem] theorem ze131 : zeroT Tryz.prog 131 = some (.map none) := by kernel_rfl
@[go_sem] theorem ma131 : mapT Tryz.prog 131 = some (3, 4) := by kernel_rfl
@[go_sem] theorem sz145 : szT Tryz.prog 145 = some 1 := by kernel_rfl
@[go_sem] theorem by145 : bytesT Tryz.prog 145 = some 8 := by kernel_rfl
@[go_sem] theorem ag145 : isAggT Tryz.prog 145 = some false := by kernel_rfl
@[go_sem] theorem el145 : elemT Tryz.prog 145 = none := by kernel_rfl
@[go_sem] theorem ze145 : zeroT Tryz.prog 145 = some (.pointer none) := by kernel_rfl
@[go_sem] theorem sz158 : szT Tryz.prog 158 = some 1 := by kernel_rfl
@[go_sem] theorem by158 : bytesT Tryz.prog 158 = some 8 := by kernel_rfl
@[go_sem] theorem ag158 : isAggT Tryz.prog 158 = some false := by kernel_rfl
@[go_sem] theorem el158 : elemT Tryz.prog 158 = none := by kernel_rfl
@[go_sem] theorem ze158 : zeroT Tryz.prog 158 = some (.map none) := by kernel_rfl
@[go_sem] theorem ma158 : mapT Tryz.prog 158 = some (3, 3) := by kernel_rfl
@[go_sem] theorem fo168x0 : (fieldOf Tryz.prog 168 0).map (fun f => (f.type, f.offset)) = some (25, 0) := by kernel_rfl
@[go_sem] theorem fo168x1 : (fieldOf Tryz.prog 168 1).map (fun f => (f.type, f.offset)) = some (25, 3) := by kernel_rfl
@[go_sem] theorem fo168x2 : (fieldOf Tryz.prog 168 2).map (fun f => (f.type, f.offset)) = some (22, 6) := by kernel_rfl
@[go_sem] theorem fo168x3 : (fieldOf Tryz.prog 168 3).map (fun f => (f.type, f.offset)) = some (166, 7) := by kernel_rfl
@[go_sem] theorem sz169 : szT Tryz.prog 169 = some 1 := by kernel_rfl
@[go_sem] theorem by169 : bytesT Tryz.prog 169 = some 8 := by kernel_rfl
@[go_sem] theorem ag169 : isAggT Tryz.prog 169 = some false := by kernel_rfl
@[go_sem] theorem el169 : elemT Tryz.prog 169 = none := by kernel_rfl
@[go_sem] theorem ze169 : zeroT Tryz.prog 169 = some (.nilFunc) := by kernel_rfl
@[go_sem] theorem fo172x0 : (fieldOf Tryz.prog 172 0).map (fun f => (f.type, f.offset)) = some (3, 0) := by kernel_rfl
@[go_sem] theorem fo172x1 : (fieldOf Tryz.prog 172 1).map (fun f => (f.type, f.offset)) = some (3, 1) := by kernel_rfl
@[go_sem] theorem fo172x2 : (fieldOf Tryz.prog 172 2).map (fun f => (f.type, f.offset)) = some (3, 2) := by kernel_rfl
@[go_sem] theorem fo172x3 : (fieldOf Tryz.prog 172 3).map (fun f => (f.type, f.offset)) = some (3, 3) := by kernel_rfl
@[go_sem] theorem fo172x4 : (fieldOf Tryz.prog 172 4).map (fun f => (f.type, f.offset)) = some (3, 4) := by kernel_rfl
@[go_sem] theorem fo172x5 : (fieldOf Tryz.prog 172 5).map (fun f => (f.type, f.offset)) = some (3, 5) := by kernel_rfl
@[go_sem] theorem ma173 : mapT Tryz.prog 173 = some (3, 172) := by kernel_rfl
@[go_sem] theorem fo179x0 : (fieldOf Tryz.prog 179 0).map (fun f => (f.type, f.offset)) = some (177, 0) := by kernel_rfl
@[go_sem] theorem fo179x1 : (fieldOf Tryz.prog 179 1).map (fun f => (f.type, f.offset)) = some (3, 1) := by kernel_rfl
@[go_sem] theorem fo181x0 : (fieldOf Tryz.prog 181 0).map (fun f => (f.type, f.offset)) = some (179, 0) := by kernel_rfl
@[go_sem] theorem fo181x1 : (fieldOf Tryz.prog 181 1).map (fun f => (f.type, f.offset)) = some (22, 2) := by kernel_rfl
@[go_sem] theorem fo181x2 : (fieldOf Tryz.prog 181 2).map (fun f => (f.type, f.offset)) = some (22, 3) := by kernel_rfl
@[go_sem] theorem fo200x0 : (fieldOf Tryz.prog 200 0).map (fun f => (f.type, f.offset)) = some (25, 0) := by kernel_rfl
@[go_sem] theorem fo200x1 : (fieldOf Tryz.prog 200 1).map (fun f => (f.type, f.offset)) = some (22, 3) := by kernel_rfl
@[go_sem] theorem fo200x2 : (fieldOf Tryz.prog 200 2).map (fun f => (f.type, f.offset)) = some (166, 4) := by kernel_rfl
@[go_sem] theorem ar216 : arrayT Tryz.prog 216 = some (4, 3) := by kernel_rfl
@[go_sem] theorem fo219x0 : (fieldOf Tryz.prog 219 0).map (fun f => (f.type, f.offset)) = some (22, 0) := by kernel_rfl
@[go_sem] theorem fo219x1 : (fieldOf Tryz.prog 219 1).map (fun f => (f.type, f.offset)) = some (114, 1) := by kernel_rfl
@[go_sem] theorem fo219x2 : (fieldOf Tryz.prog 219 2).map (fun f => (f.type, f.offset)) = some (3, 121) := by kernel_rfl
@[go_sem] theorem ar235 : arrayT Tryz.prog 235 = some (2, 3) := by kernel_rfl
@[go_sem] theorem fo237x0 : (fieldOf Tryz.prog 237 0).map (fun f => (f.type, f.offset)) = some (235, 0) := by kernel_rfl
@[go_sem] theorem fo237x1 : (fieldOf Tryz.prog 237 1).map (fun f => (f.type, f.offset)) = some (4, 2) := by kernel_rfl
@[go_sem] theorem fo239x0 : (fieldOf Tryz.prog 239 0).map (fun f => (f.type, f.offset)) = some (27, 0) := by kernel_rfl
@[go_sem] theorem fo239x1 : (fieldOf Tryz.prog 239 1).map (fun f => (f.type, f.offset)) = some (237, 2) := by kernel_rfl
@[go_sem] theorem fo281x0 : (fieldOf Tryz.prog 281 0).map (fun f => (f.type, f.offset)) = some (17, 0) := by kernel_rfl
@[go_sem] theorem fo281x1 : (fieldOf Tryz.prog 281 1).map (fun f => (f.type, f.offset)) = some (17, 1) := by kernel_rfl
@[go_sem] theorem fo281x2 : (fieldOf Tryz.prog 281 2).map (fun f => (f.type, f.offset)) = some (17, 2) := by kernel_rfl
@[go_sem] theorem fo281x3 : (fieldOf Tryz.prog 281 3).map (fun f => (f.type, f.offset)) = some (9, 3) := by kernel_rfl
@[go_sem] theorem ar282 : arrayT Tryz.prog 282 = some (0, 16) := by kernel_rfl
@[go_sem] theorem fo284x0 : (fieldOf Tryz.prog 284 0).map (fun f => (f.type, f.offset)) = some (282, 0) := by kernel_rfl
@[go_sem] theorem fo292x0 : (fieldOf Tryz.prog 292 0).map (fun f => (f.type, f.offset)) = some (12, 0) := by kernel_rfl
@[go_sem] theorem fo292x1 : (fieldOf Tryz.prog 292 1).map (fun f => (f.type, f.offset)) = some (12, 1) := by kernel_rfl
@[go_sem] theorem fo292x2 : (fieldOf Tryz.prog 292 2).map (fun f => (f.type, f.offset)) = some (230, 2) := by kernel_rfl
@[go_sem] theorem fo292x3 : (fieldOf Tryz.prog 292 3).map (fun f => (f.type, f.offset)) = some (285, 3) := by kernel_rfl
@[go_sem] theorem fo292x4 : (fieldOf Tryz.prog 292 4).map (fun f => (f.type, f.offset)) = some (5, 4) := by kernel_rfl
@[go_sem] theorem fo292x5 : (fieldOf Tryz.prog 292 5).map (fun f => (f.type, f.offset)) = some (5, 5) := by kernel_rfl
@[go_sem] theorem fo292x6 : (fieldOf Tryz.prog 292 6).map (fun f => (f.type, f.offset)) = some (286, 6) := by kernel_rfl
@[go_sem] theorem fo292x7 : (fieldOf Tryz.prog 292 7).map (fun f => (f.type, f.offset)) = some (287, 7) := by kernel_rfl
@[go_sem] theorem fo292x8 : (fieldOf Tryz.prog 292 8).map (fun f => (f.type, f.offset)) = some (288, 8) := by kernel_rfl
@[go_sem] theorem fo292x9 : (fieldOf Tryz.prog 292 9).map (fun f => (f.type, f.offset)) = some (289, 9) := by kernel_rfl
@[go_sem] theorem fo292x10 : (fieldOf Tryz.prog 292 10).map (fun f => (f.type, f.offset)) = some (290, 10) := by kernel_rfl
@[go_sem] theorem ok3 : okFn Tryz.prog 3 = true := by kernel_rfl
@[go_sem] theorem res3 : Tryz.f3.results.toList = [.tmp 8] := rfl
@[go_sem] theorem ok12 : okFn Tryz.prog 12 = true := by kernel_rfl
@[go_sem] theorem res12 : Tryz.f12.results.toList = [.tmp 0] := rfl
@[go_sem] theorem ok13 : okFn Tryz.prog 13 = true := by kernel_rfl
@[go_sem] theorem res13 : Tryz.f13.results.toList = [.tmp 2] := rfl
@[go_sem] theorem ok14 : okFn Tryz.prog 14 = true := by kernel_rfl
@[go_sem] theorem res14 : Tryz.f14.results.toList = [.tmp 2, .tmp 3] := rfl
@[go_sem] theorem ok15 : okFn Tryz.prog 15 = true := by kernel_rfl
@[go_sem] theorem res15 : Tryz.f15.results.toList = [.cell 2 34] := rfl
@[go_sem] theorem ok16 : okFn Tryz.prog 16 = true := by kernel_rfl
@[go_sem] theorem res16 : Tryz.f16.results.toList = [.tmp 4, .tmp 5, .tmp 6] := rfl
@[go_sem] theorem ok17 : okFn Tryz.prog 17 = true := by kernel_rfl
@[go_sem] theorem res17 : Tryz.f17.results.toList = [.tmp 4, .tmp 5, .tmp 6] := rfl
@[go_sem] theorem ok18 : okFn Tryz.prog 18 = true := by kernel_rfl
@[go_sem] theorem res18 : Tryz.f18.results.toList = [.tmp 4, .tmp 5] := rfl
@[go_sem] theorem ok19 : okFn Tryz.prog 19 = true := by kernel_rfl
@[go_sem] theorem res19 : Tryz.f19.results.toList = [.tmp 4, .tmp 5] := rfl
@[go_sem] theorem ok20 : okFn Tryz.prog 20 = true := by kernel_rfl
@[go_sem] theorem res20 : Tryz.f20.results.toList = [.cell 4 27, .tmp 5, .tmp 6] := rfl
@[go_sem] theorem ok21 : okFn Tryz.prog 21 = true := by kernel_rfl
@[go_sem] theorem res21 : Tryz.f21.results.toList = [.cell 4 27, .tmp 5, .tmp 6] := rfl
@[go_sem] theorem ok22 : okFn Tryz.prog 22 = true := by kernel_rfl
@[go_sem] theorem res22 : Tryz.f22.results.toList = [.tmp 4] := rfl
@[go_sem] theorem ok23 : okFn Tryz.prog 23 = true := by kernel_rfl
@[go_sem] theorem res23 : Tryz.f23.results.toList = [.tmp 2] := rfl
@[go_sem] theorem ok24 : okFn Tryz.prog 24 = true := by kernel_rfl
@[go_sem] theorem res24 : Tryz.f24.results.toList = [.tmp 2] := rfl
@[go_sem] theorem ok25 : okFn Tryz.prog 25 = true := by kernel_rfl
@[go_sem] theorem res25 : Tryz.f25.results.toList = [.tmp 6] := rfl
@[go_sem] theorem ok26 : okFn Tryz.prog 26 = true := by kernel_rfl
@[go_sem] theorem res26 : Tryz.f26.results.toList = [.tmp 6] := rfl
@[go_sem] theorem ok70 : okFn Tryz.prog 70 = true := by kernel_rfl
@[go_sem] theorem res70 : Tryz.f70.results.toList = [.cell 4 116] := rfl
@[go_sem] theorem ok71 : okFn Tryz.prog 71 = true := by kernel_rfl
@[go_sem] theorem res71 : Tryz.f71.results.toList = [.tmp 2] := rfl
@[go_sem] theorem ok72 : okFn Tryz.prog 72 = true := by kernel_rfl
@[go_sem] theorem res72 : Tryz.f72.results.toList = [.tmp 4] := rfl
@[go_sem] theorem ok73 : okFn Tryz.prog 73 = true := by kernel_rfl
@[go_sem] theorem res73 : Tryz.f73.results.toList = [.tmp 4] := rfl
@[go_sem] theorem ok74 : okFn Tryz.prog 74 = true := by kernel_rfl
@[go_sem] theorem res74 : Tryz.f74.results.toList = [.tmp 4] := rfl
@[go_sem] theorem ok75 : okFn Tryz.prog 75 = true := by kernel_rfl
@[go_sem] theorem res75 : Tryz.f75.results.toList = [.tmp 6] := rfl
@[go_sem] theorem ok76 : okFn Tryz.prog 76 = true := by kernel_rfl
@[go_sem] theorem res76 : Tryz.f76.results.toList = [.tmp 4] := rfl
@[go_sem] theorem ok77 : okFn Tryz.prog 77 = true := by kernel_rfl
@[go_sem] theorem res77 : Tryz.f77.results.toList = [.cell 4 27, .tmp 5] := rfl
@[go_sem] theorem ok78 : okFn Tryz.prog 78 = true := by kernel_rfl
@[go_sem] theorem res78 : Tryz.f78.results.toList = [.tmp 4] := rfl
@[go_sem] theorem ok79 : okFn Tryz.prog 79 = true := by kernel_rfl
@[go_sem] theorem res79 : Tryz.f79.results.toList = [.tmp 4] := rfl
@[go_sem] theorem ok80 : okFn Tryz.prog 80 = true := by kernel_rfl
@[go_sem] theorem res80 : Tryz.f80.results.toList = [.tmp 6] := rfl
@[go_sem] theorem ok81 : okFn Tryz.prog 81 = true := by kernel_rfl
@[go_sem] theorem res81 : Tryz.f81.results.toList = [.tmp 4] := rfl
@[go_sem] theorem ok82 : okFn Tryz.prog 82 = true := by kernel_rfl
@[go_sem] theorem res82 : Tryz.f82.results.toList = [.tmp 4] := rfl
@[go_sem] theorem ok83 : okFn Tryz.prog 83 = true := by kernel_rfl
@[go_sem] theorem res83 : Tryz.f83.results.toList = [.tmp 6] := rfl
@[go_sem] theorem ok84 : okFn Tryz.prog 84 = true := by kernel_rfl
@[go_sem] theorem res84 : Tryz.f84.results.toList = [.tmp 4] := rfl
@[go_sem] theorem ok85 : okFn Tryz.prog 85 = true := by kernel_rfl
@[go_sem] theorem res85 : Tryz.f85.results.toList = [.tmp 4] := rfl
@[go_sem] theorem ok86 : okFn Tryz.prog 86 = true := by kernel_rfl
@[go_sem] theorem res86 : Tryz.f86.results.toList = [.tmp 6] := rfl
@[go_sem] theorem ok116 : okFn Tryz.prog 116 = true := by kernel_rfl
@[go_sem] theorem res116 : Tryz.f116.results.toList = [.tmp 2] := rfl
@[go_sem] theorem ok137 : okFn Tryz.prog 137 = true := by kernel_rfl
@[go_sem] theorem res137 : Tryz.f137.results.toList = [.tmp 2] := rfl
@[go_sem] theorem ok138 : okFn Tryz.prog 138 = true := by kernel_rfl
@[go_sem] theorem res138 : Tryz.f138.results.toList = [.tmp 4] := rfl
@[go_sem] theorem ok139 : okFn Tryz.prog 139 = true := by kernel_rfl
@[go_sem] theorem res139 : Tryz.f139.results.toList = [.tmp 4] := rfl
@[go_sem] theorem ok140 : okFn Tryz.prog 140 = true := by kernel_rfl
@[go_sem] theorem res140 : Tryz.f140.results.toList = [] := rfl
@[go_sem] theorem ok141 : okFn Tryz.prog 141 = true := by kernel_rfl
@[go_sem] theorem res141 : Tryz.f141.results.toList = [.tmp 8] := rfl
@[go_sem] theorem ok142 : okFn Tryz.prog 142 = true := by kernel_rfl
@[go_sem] theorem res142 : Tryz.f142.results.toList = [.tmp 4] := rfl
@[go_sem] theorem ok143 : okFn Tryz.prog 143 = true := by kernel_rfl
@[go_sem] theorem res143 : Tryz.f143.results.toList = [.tmp 6] := rfl
@[go_sem] theorem ok144 : okFn Tryz.prog 144 = true := by kernel_rfl
@[go_sem] theorem res144 : Tryz.f144.results.toList = [.tmp 4] := rfl
@[go_sem] theorem ok145 : okFn Tryz.prog 145 = true := by kernel_rfl
@[go_sem] theorem res145 : Tryz.f145.results.toList = [.tmp 4] := rfl
@[go_sem] theorem ok146 : okFn Tryz.prog 146 = true := by kernel_rfl
@[go_sem] theorem res146 : Tryz.f146.results.toList = [.tmp 2] := rfl
@[go_sem] theorem ok147 : okFn Tryz.prog 147 = true := by kernel_rfl
@[go_sem] theorem res147 : Tryz.f147.results.toList = [.tmp 4] := rfl
@[go_sem] theorem ok148 : okFn Tryz.prog 148 = true := by kernel_rfl
@[go_sem] theorem res148 : Tryz.f148.results.toList = [.tmp 4] := rfl
@[go_sem] theorem ok149 : okFn Tryz.prog 149 = true := by kernel_rfl
@[go_sem] theorem res149 : Tryz.f149.results.toList = [.tmp 4] := rfl
@[go_sem] theorem ok153 : okFn Tryz.prog 153 = true := by kernel_rfl
@[go_sem] theorem res153 : Tryz.f153.results.toList = [.tmp 4] := rfl
@[go_sem] theorem ok175 : okFn Tryz.prog 175 = true := by kernel_rfl
@[go_sem] theorem res175 : Tryz.f175.results.toList = [.tmp 4] := rfl
@[go_sem] theorem ok176 : okFn Tryz.prog 176 = true := by kernel_rfl
@[go_sem] theorem res176 : Tryz.f176.results.toList = [.tmp 3] := rfl
@[go_sem] theorem ok207 : okFn Tryz.prog 207 = true := by kernel_rfl
@[go_sem] theorem res207 : Tryz.f207.results.toList = [.tmp 4] := rfl
theorem mixed : Tryz.prog.follows .mixedOrders = true := by kernel_rfl
end Go.Proofs.Tryz

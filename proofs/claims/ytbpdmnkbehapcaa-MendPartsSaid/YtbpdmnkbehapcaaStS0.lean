/- Contracts of functions, walked. -/
import Derived.Test.YtbpdmnkbehapcaaProg
import Derived.Test.YtbpdmnkbehapcaaAwA
set_option linter.all false
namespace Go.Proofs.Try
open Go Go.Am Go.RowKit
set_option maxRecDepth 100000
@[go_sem] theorem sz2 : szT Try.prog 2 = some 1 := by kernel_rfl
@[go_sem] theorem by2 : bytesT Try.prog 2 = some 8 := by kernel_rfl
@[go_sem] theorem ag2 : isAggT Try.prog 2 = some false := by kernel_rfl
@[go_sem] theorem el2 : elemT Try.prog 2 = none := by kernel_rfl
@[go_sem] theorem ze2 : zeroT Try.prog 2 = some (.int .i64 0) := by kernel_rfl
@[go_sem] theorem un2 : Try.prog.underlying 2 = some (.int .i64) := by kernel_rfl
@[go_sem] theorem sz3 : szT Try.prog 3 = some 1 := by kernel_rfl
@[go_sem] theorem by3 : bytesT Try.prog 3 = some 8 := by kernel_rfl
@[go_sem] theorem ag3 : isAggT Try.prog 3 = some false := by kernel_rfl
@[go_sem] theorem el3 : elemT Try.prog 3 = none := by kernel_rfl
@[go_sem] theorem ze3 : zeroT Try.prog 3 = some (.int .i64 0) := by kernel_rfl
@[go_sem] theorem un3 : Try.prog.underlying 3 = some (.int .i64) := by kernel_rfl
@[go_sem] theorem sz4 : szT Try.prog 4 = some 1 := by kernel_rfl
@[go_sem] theorem by4 : bytesT Try.prog 4 = some 1 := by kernel_rfl
@[go_sem] theorem ag4 : isAggT Try.prog 4 = some false := by kernel_rfl
@[go_sem] theorem el4 : elemT Try.prog 4 = none := by kernel_rfl
@[go_sem] theorem ze4 : zeroT Try.prog 4 = some (.bool false) := by kernel_rfl
@[go_sem] theorem un4 : Try.prog.underlying 4 = some .bool := by kernel_rfl
@[go_sem] theorem sz5 : szT Try.prog 5 = some 1 := by kernel_rfl
@[go_sem] theorem by5 : bytesT Try.prog 5 = some 1 := by kernel_rfl
@[go_sem] theorem ag5 : isAggT Try.prog 5 = some false := by kernel_rfl
@[go_sem] theorem el5 : elemT Try.prog 5 = none := by kernel_rfl
@[go_sem] theorem ze5 : zeroT Try.prog 5 = some (.int .u8 0) := by kernel_rfl
@[go_sem] theorem fo7x0 : (fieldOf Try.prog 7 0).map (fun f => (f.type, f.offset)) = some (2, 0) := by kernel_rfl
@[go_sem] theorem fo7x1 : (fieldOf Try.prog 7 1).map (fun f => (f.type, f.offset)) = some (3, 1) := by kernel_rfl
@[go_sem] theorem fo7x2 : (fieldOf Try.prog 7 2).map (fun f => (f.type, f.offset)) = some (4, 2) := by kernel_rfl
@[go_sem] theorem fo7x3 : (fieldOf Try.prog 7 3).map (fun f => (f.type, f.offset)) = some (6, 3) := by kernel_rfl
@[go_sem] theorem fo8x0 : (fieldOf Try.prog 8 0).map (fun f => (f.type, f.offset)) = some (2, 0) := by kernel_rfl
@[go_sem] theorem fo8x1 : (fieldOf Try.prog 8 1).map (fun f => (f.type, f.offset)) = some (3, 1) := by kernel_rfl
@[go_sem] theorem fo8x2 : (fieldOf Try.prog 8 2).map (fun f => (f.type, f.offset)) = some (4, 2) := by kernel_rfl
@[go_sem] theorem fo8x3 : (fieldOf Try.prog 8 3).map (fun f => (f.type, f.offset)) = some (6, 3) := by kernel_rfl
@[go_sem] theorem fo14x0 : (fieldOf Try.prog 14 0).map (fun f => (f.type, f.offset)) = some (9, 0) := by kernel_rfl
@[go_sem] theorem fo14x1 : (fieldOf Try.prog 14 1).map (fun f => (f.type, f.offset)) = some (12, 1) := by kernel_rfl
@[go_sem] theorem fo19x0 : (fieldOf Try.prog 19 0).map (fun f => (f.type, f.offset)) = some (17, 0) := by kernel_rfl
@[go_sem] theorem sz22 : szT Try.prog 22 = some 1 := by kernel_rfl
@[go_sem] theorem by22 : bytesT Try.prog 22 = some 24 := by kernel_rfl
@[go_sem] theorem ag22 : isAggT Try.prog 22 = some false := by kernel_rfl
@[go_sem] theorem el22 : elemT Try.prog 22 = some 3 := by kernel_rfl
@[go_sem] theorem ze22 : zeroT Try.prog 22 = some (.slice none 0 0) := by kernel_rfl
@[go_sem] theorem sz23 : szT Try.prog 23 = some 1 := by kernel_rfl
@[go_sem] theorem by23 : bytesT Try.prog 23 = some 24 := by kernel_rfl
@[go_sem] theorem ag23 : isAggT Try.prog 23 = some false := by kernel_rfl
@[go_sem] theorem el23 : elemT Try.prog 23 = some 32 := by kernel_rfl
@[go_sem] theorem ze23 : zeroT Try.prog 23 = some (.slice none 0 0) := by kernel_rfl
@[go_sem] theorem sz25 : szT Try.prog 25 = some 3 := by kernel_rfl
@[go_sem] theorem by25 : bytesT Try.prog 25 = some 56 := by kernel_rfl
@[go_sem] theorem ag25 : isAggT Try.prog 25 = some true := by kernel_rfl
@[go_sem] theorem el25 : elemT Try.prog 25 = none := by kernel_rfl
@[go_sem] theorem ze25 : zeroT Try.prog 25 = some (.agg #[.int .i64 0, .slice none 0 0, .slice none 0 0]) := by kernel_rfl
@[go_sem] theorem fo25x0 : (fieldOf Try.prog 25 0).map (fun f => (f.type, f.offset)) = some (3, 0) := by kernel_rfl
@[go_sem] theorem fo25x1 : (fieldOf Try.prog 25 1).map (fun f => (f.type, f.offset)) = some (22, 1) := by kernel_rfl
@[go_sem] theorem fo25x2 : (fieldOf Try.prog 25 2).map (fun f => (f.type, f.offset)) = some (23, 2) := by kernel_rfl
@[go_sem] theorem sz26 : szT Try.prog 26 = some 1 := by kernel_rfl
@[go_sem] theorem by26 : bytesT Try.prog 26 = some 24 := by kernel_rfl
@[go_sem] theorem ag26 : isAggT Try.prog 26 = some false := by kernel_rfl
@[go_sem] theorem el26 : elemT Try.prog 26 = some 30 := by kernel_rfl
@[go_sem] theorem ze26 : zeroT Try.prog 26 = some (.slice none 0 0) := by kernel_rfl
@[go_sem] theorem sz28 : szT Try.prog 28 = some 3 := by kernel_rfl
@[go_sem] theorem by28 : bytesT Try.prog 28 = some 56 := by kernel_rfl
@[go_sem] theorem ag28 : isAggT Try.prog 28 = some true := by kernel_rfl
@[go_sem] theorem el28 : elemT Try.prog 28 = none := by kernel_rfl
@[go_sem] theorem ze28 : zeroT Try.prog 28 = some (.agg #[.slice none 0 0, .int .i64 0, .slice none 0 0]) := by kernel_rfl
@[go_sem] theorem fo28x0 : (fieldOf Try.prog 28 0).map (fun f => (f.type, f.offset)) = some (22, 0) := by kernel_rfl
@[go_sem] theorem fo28x1 : (fieldOf Try.prog 28 1).map (fun f => (f.type, f.offset)) = some (3, 1) := by kernel_rfl
@[go_sem] theorem fo28x2 : (fieldOf Try.prog 28 2).map (fun f => (f.type, f.offset)) = some (26, 2) := by kernel_rfl
@[go_sem] theorem sz30 : szT Try.prog 30 = some 2 := by kernel_rfl
@[go_sem] theorem by30 : bytesT Try.prog 30 = some 16 := by kernel_rfl
@[go_sem] theorem ag30 : isAggT Try.prog 30 = some true := by kernel_rfl
@[go_sem] theorem el30 : elemT Try.prog 30 = none := by kernel_rfl
@[go_sem] theorem ze30 : zeroT Try.prog 30 = some (.agg #[.int .i64 0, .int .i64 0]) := by kernel_rfl
@[go_sem] theorem fo30x0 : (fieldOf Try.prog 30 0).map (fun f => (f.type, f.offset)) = some (3, 0) := by kernel_rfl
@[go_sem] theorem fo30x1 : (fieldOf Try.prog 30 1).map (fun f => (f.type, f.offset)) = some (3, 1) := by kernel_rfl
@[go_sem] theorem sz32 : szT Try.prog 32 = some 4 := by kernel_rfl
@[go_sem] theorem by32 : bytesT Try.prog 32 = some 32 := by kernel_rfl
@[go_sem] theorem ag32 : isAggT Try.prog 32 = some true := by kernel_rfl
@[go_sem] theorem el32 : elemT Try.prog 32 = none := by kernel_rfl
@[go_sem] theorem ze32 : zeroT Try.prog 32 = some (.agg #[.int .i64 0, .int .i64 0, .int .i64 0, .int .i64 0]) := by kernel_rfl
@[go_sem] theorem fo32x0 : (fieldOf Try.prog 32 0).map (fun f => (f.type, f.offset)) = some (3, 0) := by kernel_rfl
@[go_sem] theorem fo32x1 : (fieldOf Try.prog 32 1).map (fun f => (f.type, f.offset)) = some (30, 1) := by kernel_rfl
@[go_sem] theorem fo32x2 : (fieldOf Try.prog 32 2).map (fun f => (f.type, f.offset)) = some (3, 3) := by kernel_rfl
@[go_sem] theorem sz36 : szT Try.prog 36 = some 1 := by kernel_rfl
@[go_sem] theorem by36 : bytesT Try.prog 36 = some 8 := by kernel_rfl
@[go_sem] theorem ag36 : isAggT Try.prog 36 = some false := by kernel_rfl
@[go_sem] theorem el36 : elemT Try.prog 36 = none := by kernel_rfl
@[go_sem] theorem ze36 : zeroT Try.prog 36 = some (.int .i64 0) := by kernel_rfl
@[go_sem] theorem un36 : Try.prog.underlying 36 = some (.int .i64) := by kernel_rfl
@[go_sem] theorem sz65 : szT Try.prog 65 = some 1 := by kernel_rfl
@[go_sem] theorem by65 : bytesT Try.prog 65 = some 24 := by kernel_rfl
@[go_sem] theorem ag65 : isAggT Try.prog 65 = some false := by kernel_rfl
@[go_sem] theorem el65 : elemT Try.prog 65 = some 22 := by kernel_rfl
@[go_sem] theorem ze65 : zeroT Try.prog 65 = some (.slice none 0 0) := by kernel_rfl
@[go_sem] theorem sz69 : szT Try.prog 69 = some 3 := by kernel_rfl
@[go_sem] theorem by69 : bytesT Try.prog 69 = some 40 := by kernel_rfl
@[go_sem] theorem ag69 : isAggT Try.prog 69 = some true := by kernel_rfl
@[go_sem] theorem el69 : elemT Try.prog 69 = none := by kernel_rfl
@[go_sem] theorem ze69 : zeroT Try.prog 69 = some (.agg #[.int .i64 0, .int .i64 0, .slice none 0 0]) := by kernel_rfl
@[go_sem] theorem fo69x0 : (fieldOf Try.prog 69 0).map (fun f => (f.type, f.offset)) = some (3, 0) := by kernel_rfl
@[go_sem] theorem fo69x1 : (fieldOf Try.prog 69 1).map (fun f => (f.type, f.offset)) = some (3, 1) := by kernel_rfl
@[go_sem] theorem fo69x2 : (fieldOf Try.prog 69 2).map (fun f => (f.type, f.offset)) = some (22, 2) := by kernel_rfl
@[go_sem] theorem sz70 : szT Try.prog 70 = some 1 := by kernel_rfl
@[go_sem] theorem by70 : bytesT Try.prog 70 = some 24 := by kernel_rfl
@[go_sem] theorem ag70 : isAggT Try.prog 70 = some false := by kernel_rfl
@[go_sem] theorem el70 : elemT Try.prog 70 = some 69 := by kernel_rfl
@[go_sem] theorem ze70 : zeroT Try.prog 70 = some (.slice none 0 0) := by kernel_rfl
@[go_sem] theorem sz82 : szT Try.prog 82 = some 120 := by kernel_rfl
@[go_sem] theorem by82 : bytesT Try.prog 82 = some 960 := by kernel_rfl
@[go_sem] theorem ag82 : isAggT Try.prog 82 = some true := by kernel_rfl
@[go_sem] theorem el82 : elemT Try.prog 82 = none := by kernel_rfl
@[go_sem] theorem ar82 : arrayT Try.prog 82 = some (120, 3) := by kernel_rfl
@[go_sem] theorem sz84 : szT Try.prog 84 = some 121 := by kernel_rfl
@[go_sem] theorem by84 : bytesT Try.prog 84 = some 984 := by kernel_rfl
@[go_sem] theorem ag84 : isAggT Try.prog 84 = some true := by kernel_rfl
@[go_sem] theorem el84 : elemT Try.prog 84 = none := by kernel_rfl
@[go_sem] theorem fo84x0 : (fieldOf Try.prog 84 0).map (fun f => (f.type, f.offset)) = some (23, 0) := by kernel_rfl
@[go_sem] theorem fo84x1 : (fieldOf Try.prog 84 1).map (fun f => (f.type, f.offset)) = some (82, 1) := by kernel_rfl
@[go_sem] theorem sz90 : szT Try.prog 90 = some 1 := by kernel_rfl
@[go_sem] theorem by90 : bytesT Try.prog 90 = some 8 := by kernel_rfl
@[go_sem] theorem ag90 : isAggT Try.prog 90 = some false := by kernel_rfl
@[go_sem] theorem el90 : elemT Try.prog 90 = none := by kernel_rfl
@[go_sem] theorem ze90 : zeroT Try.prog 90 = some (.nilFunc) := by kernel_rfl
@[go_sem] theorem sz97 : szT Try.prog 97 = some 1 := by kernel_rfl
@[go_sem] theorem by97 : bytesT Try.prog 97 = some 8 := by kernel_rfl
@[go_sem] theorem ag97 : isAggT Try.prog 97 = some false := by kernel_rfl
@[go_sem] theorem el97 : elemT Try.prog 97 = none := by kernel_rfl
@[go_sem] theorem ze97 : zeroT Try.prog 97 = some (.nilFunc) := by kernel_rfl
@[go_sem] theorem sz100 : szT Try.prog 100 = some 1 := by kernel_rfl
@[go_sem] theorem by100 : bytesT Try.prog 100 = some 8 := by kernel_rfl
@[go_sem] theorem ag100 : isAggT Try.prog 100 = some false := by kernel_rfl
@[go_sem] theorem el100 : elemT Try.prog 100 = none := by kernel_rfl
@[go_sem] theorem ze100 : zeroT Try.prog 100 = some (.pointer none) := by kernel_rfl
@[go_sem] theorem sz104 : szT Try.prog 104 = some 1 := by kernel_rfl
@[go_sem] theorem by104 : bytesT Try.prog 104 = some 8 := by kernel_rfl
@[go_sem] theorem ag104 : isAggT Try.prog 104 = some false := by kernel_rfl
@[go_sem] theorem el104 : elemT Try.prog 104 = none := by kernel_rfl
@[go_sem] theorem ze104 : zeroT Try.prog 104 = some (.nilFunc) := by kernel_rfl
@[go_sem] theorem sz105 : szT Try.prog 105 = some 1 := by kernel_rfl
@[go_sem] theorem by105 : bytesT Try.prog 105 = some 8 := by kernel_rfl
@[go_sem] theorem ag105 : isAggT Try.prog 105 = some false := by kernel_rfl
@[go_sem] theorem el105 : elemT Try.prog 105 = none := by kernel_rfl
@[go_sem] theorem ze105 : zeroT Try.prog 105 = some (.nilFunc) := by kernel_rfl
@[go_sem] theorem sz110 : szT Try.prog 110 = some 1 := by kernel_rfl
@[go_sem] theorem by110 : bytesT Try.prog 110 = some 8 := by kernel_rfl
@[go_sem] theorem ag110 : isAggT Try.prog 110 = some false := by kernel_rfl
@[go_sem] theorem el110 : elemT Try.prog 110 = none := by kernel_rfl
@[go_sem] theorem ze110 : zeroT Try.prog 110 = some (.map none) := by kernel_rfl
@[go_sem] theorem ma110 : mapT Try.prog 110 = some (3, 3) := by kernel_rfl
@[go_sem] theorem sz117 : szT Try.prog 117 = some 1 := by kernel_rfl
@[go_sem] theorem by117 : bytesT Try.prog 117 = some 8 := by kernel_rfl
@[go_sem] theorem ag117 : isAggT Try.prog 117 = some false := by kernel_rfl
@[go_sem] theorem el117 : elemT Try.prog 117 = none := by kernel_rfl
@[go_sem] theorem ze117 : zeroT Try.prog 117 = some (.map none) := by kernel_rfl
@[go_sem] theorem ma117 : mapT Try.prog 117 = some (3, 4) := by kernel_rfl
@[go_sem] theorem sz124 : szT Try.prog 124 = some 122 := by kernel_rfl
@[go_sem] theorem by124 : bytesT Try.prog 124 = some 992 := by kernel_rfl
@[go_sem] theorem ag124 : isAggT Try.prog 124 = some true := by kernel_rfl
@[go_sem] theorem el124 : elemT Try.prog 124 = none := by kernel_rfl
@[go_sem] theorem fo124x0 : (fieldOf Try.prog 124 0).map (fun f => (f.type, f.offset)) = some (22, 0) := by kernel_rfl
@[go_sem] theorem fo124x1 : (fieldOf Try.prog 124 1).map (fun f => (f.type, f.offset)) = some (82, 1) := by kernel_rfl
@[go_sem] theorem fo124x2 : (fieldOf Try.prog 124 2).map (fun f => (f.type, f.offset)) = some (3, 121) := by kernel_rfl
@[go_sem] theorem sz133 : szT Try.prog 133 = some 1 := by kernel_rfl
@[go_sem] theorem by133 : bytesT Try.prog 133 = some 8 := by kernel_rfl
@[go_sem] theorem ag133 : isAggT Try.prog 133 = some false := by kernel_rfl
@[go_sem] theorem el133 : elemT Try.prog 133 = none := by kernel_rfl
@[go_sem] theorem ze133 : zeroT Try.prog 133 = some (.nilFunc) := by kernel_rfl
@[go_sem] theorem sz137 : szT Try.prog 137 = some 1 := by kernel_rfl
@[go_sem] theorem by137 : bytesT Try.prog 137 = some 8 := by kernel_rfl
@[go_sem] theorem ag137 : isAggT Try.prog 137 = some false := by kernel_rfl
@[go_sem] theorem el137 : elemT Try.prog 137 = none := by kernel_rfl
@[go_sem] theorem ze137 : zeroT Try.prog 137 = some (.nilFunc) := by kernel_rfl
@[go_sem] theorem fo163x0 : (fieldOf Try.prog 163 0).map (fun f => (f.type, f.offset)) = some (17, 0) := by kernel_rfl
@[go_sem] theorem fo163x1 : (fieldOf Try.prog 163 1).map (fun f => (f.type, f.offset)) = some (17, 1) := by kernel_rfl
@[go_sem] theorem fo163x2 : (fieldOf Try.prog 163 2).map (fun f => (f.type, f.offset)) = some (17, 2) := by kernel_rfl
@[go_sem] theorem fo163x3 : (fieldOf Try.prog 163 3).map (fun f => (f.type, f.offset)) = some (9, 3) := by kernel_rfl
@[go_sem] theorem ar164 : arrayT Try.prog 164 = some (0, 16) := by kernel_rfl
@[go_sem] theorem fo166x0 : (fieldOf Try.prog 166 0).map (fun f => (f.type, f.offset)) = some (164, 0) := by kernel_rfl
@[go_sem] theorem fo174x0 : (fieldOf Try.prog 174 0).map (fun f => (f.type, f.offset)) = some (12, 0) := by kernel_rfl
@[go_sem] theorem fo174x1 : (fieldOf Try.prog 174 1).map (fun f => (f.type, f.offset)) = some (12, 1) := by kernel_rfl
@[go_sem] theorem fo174x2 : (fieldOf Try.prog 174 2).map (fun f => (f.type, f.offset)) = some (148, 2) := by kernel_rfl
@[go_sem] theorem fo174x3 : (fieldOf Try.prog 174 3).map (fun f => (f.type, f.offset)) = some (167, 3) := by kernel_rfl
@[go_sem] theorem fo174x4 : (fieldOf Try.prog 174 4).map (fun f => (f.type, f.offset)) = some (5, 4) := by kernel_rfl
@[go_sem] theorem fo174x5 : (fieldOf Try.prog 174 5).map (fun f => (f.type, f.offset)) = some (5, 5) := by kernel_rfl
@[go_sem] theorem fo174x6 : (fieldOf Try.prog 174 6).map (fun f => (f.type, f.offset)) = some (168, 6) := by kernel_rfl
@[go_sem] theorem fo174x7 : (fieldOf Try.prog 174 7).map (fun f => (f.type, f.offset)) = some (169, 7) := by kernel_rfl
@[go_sem] theorem fo174x8 : (fieldOf Try.prog 174 8).map (fun f => (f.type, f.offset)) = some (170, 8) := by kernel_rfl
@[go_sem] theorem fo174x9 : (fieldOf Try.prog 174 9).map (fun f => (f.type, f.offset)) = some (171, 9) := by kernel_rfl
@[go_sem] theorem fo174x10 : (fieldOf Try.prog 174 10).map (fun f => (f.type, f.offset)) = some (172, 10) := by kernel_rfl
@[go_sem] theorem ok4 : okFn Try.prog 4 = true := by kernel_rfl
@[go_sem] theorem res4 : Try.f4.results.toList = [.tmp 10] := rfl
@[go_sem] theorem ok7 : okFn Try.prog 7 = true := by kernel_rfl
@[go_sem] theorem res7 : Try.f7.results.toList = [.tmp 8] := rfl
@[go_sem] theorem ok8 : okFn Try.prog 8 = true := by kernel_rfl
@[go_sem] theorem res8 : Try.f8.results.toList = [.tmp 6] := rfl
@[go_sem] theorem ok9 : okFn Try.prog 9 = true := by kernel_rfl
@[go_sem] theorem res9 : Try.f9.results.toList = [.tmp 6] := rfl
@[go_sem] theorem ok11 : okFn Try.prog 11 = true := by kernel_rfl
@[go_sem] theorem res11 : Try.f11.results.toList = [.tmp 0] := rfl
@[go_sem] theorem ok12 : okFn Try.prog 12 = true := by kernel_rfl
@[go_sem] theorem res12 : Try.f12.results.toList = [.tmp 2] := rfl
@[go_sem] theorem ok14 : okFn Try.prog 14 = true := by kernel_rfl
@[go_sem] theorem res14 : Try.f14.results.toList = [.cell 2 28, .tmp 3] := rfl
@[go_sem] theorem ok15 : okFn Try.prog 15 = true := by kernel_rfl
@[go_sem] theorem res15 : Try.f15.results.toList = [.tmp 2, .tmp 3] := rfl
@[go_sem] theorem ok17 : okFn Try.prog 17 = true := by kernel_rfl
@[go_sem] theorem res17 : Try.f17.results.toList = [.tmp 4, .tmp 5, .tmp 6] := rfl
@[go_sem] theorem ok20 : okFn Try.prog 20 = true := by kernel_rfl
@[go_sem] theorem res20 : Try.f20.results.toList = [.tmp 4, .tmp 5] := rfl
@[go_sem] theorem ok21 : okFn Try.prog 21 = true := by kernel_rfl
@[go_sem] theorem res21 : Try.f21.results.toList = [.cell 4 30, .tmp 5, .tmp 6] := rfl
@[go_sem] theorem ok22 : okFn Try.prog 22 = true := by kernel_rfl
@[go_sem] theorem res22 : Try.f22.results.toList = [.tmp 6] := rfl
@[go_sem] theorem ok23 : okFn Try.prog 23 = true := by kernel_rfl
@[go_sem] theorem res23 : Try.f23.results.toList = [.tmp 4] := rfl
@[go_sem] theorem ok27 : okFn Try.prog 27 = true := by kernel_rfl
@[go_sem] theorem res27 : Try.f27.results.toList = [.cell 4 25, .tmp 5] := rfl
@[go_sem] theorem ok30 : okFn Try.prog 30 = true := by kernel_rfl
@[go_sem] theorem res30 : Try.f30.results.toList = [.tmp 6, .tmp 7] := rfl
@[go_sem] theorem ok31 : okFn Try.prog 31 = true := by kernel_rfl
@[go_sem] theorem res31 : Try.f31.results.toList = [.tmp 4] := rfl
@[go_sem] theorem ok38 : okFn Try.prog 38 = true := by kernel_rfl
@[go_sem] theorem res38 : Try.f38.results.toList = [.tmp 2] := rfl
@[go_sem] theorem ok39 : okFn Try.prog 39 = true := by kernel_rfl
@[go_sem] theorem res39 : Try.f39.results.toList = [.cell 4 84] := rfl
@[go_sem] theorem ok40 : okFn Try.prog 40 = true := by kernel_rfl
@[go_sem] theorem res40 : Try.f40.results.toList = [] := rfl
@[go_sem] theorem ok41 : okFn Try.prog 41 = true := by kernel_rfl
@[go_sem] theorem res41 : Try.f41.results.toList = [.cell 2 28] := rfl
@[go_sem] theorem ok42 : okFn Try.prog 42 = true := by kernel_rfl
@[go_sem] theorem res42 : Try.f42.results.toList = [.cell 4 84, .tmp 5] := rfl
@[go_sem] theorem ok43 : okFn Try.prog 43 = true := by kernel_rfl
@[go_sem] theorem res43 : Try.f43.results.toList = [.tmp 2] := rfl
@[go_sem] theorem ok44 : okFn Try.prog 44 = true := by kernel_rfl
@[go_sem] theorem res44 : Try.f44.results.toList = [.tmp 4] := rfl
@[go_sem] theorem ok45 : okFn Try.prog 45 = true := by kernel_rfl
@[go_sem] theorem res45 : Try.f45.results.toList = [.tmp 4] := rfl
@[go_sem] theorem ok47 : okFn Try.prog 47 = true := by kernel_rfl
@[go_sem] theorem res47 : Try.f47.results.toList = [.tmp 4] := rfl
@[go_sem] theorem ok48 : okFn Try.prog 48 = true := by kernel_rfl
@[go_sem] theorem res48 : Try.f48.results.toList = [.tmp 2] := rfl
@[go_sem] theorem ok49 : okFn Try.prog 49 = true := by kernel_rfl
@[go_sem] theorem res49 : Try.f49.results.toList = [] := rfl
@[go_sem] theorem ok50 : okFn Try.prog 50 = true := by kernel_rfl
@[go_sem] theorem res50 : Try.f50.results.toList = [.tmp 4] := rfl
@[go_sem] theorem ok51 : okFn Try.prog 51 = true := by kernel_rfl
@[go_sem] theorem res51 : Try.f51.results.toList = [.tmp 4] := rfl
@[go_sem] theorem ok60 : okFn Try.prog 60 = true := by kernel_rfl
@[go_sem] theorem res60 : Try.f60.results.toList = [.cell 4 25] := rfl
@[go_sem] theorem ok63 : okFn Try.prog 63 = true := by kernel_rfl
@[go_sem] theorem res63 : Try.f63.results.toList = [.tmp 4] := rfl
@[go_sem] theorem ok64 : okFn Try.prog 64 = true := by kernel_rfl
@[go_sem] theorem res64 : Try.f64.results.toList = [.tmp 2] := rfl
@[go_sem] theorem ok66 : okFn Try.prog 66 = true := by kernel_rfl
@[go_sem] theorem res66 : Try.f66.results.toList = [.tmp 8] := rfl
@[go_sem] theorem ok70 : okFn Try.prog 70 = true := by kernel_rfl
@[go_sem] theorem res70 : Try.f70.results.toList = [.tmp 6] := rfl
@[go_sem] theorem ok71 : okFn Try.prog 71 = true := by kernel_rfl
@[go_sem] theorem res71 : Try.f71.results.toList = [.tmp 4] := rfl
@[go_sem] theorem ok72 : okFn Try.prog 72 = true := by kernel_rfl
@[go_sem] theorem res72 : Try.f72.results.toList = [.tmp 4] := rfl
@[go_sem] theorem ok73 : okFn Try.prog 73 = true := by kernel_rfl
@[go_sem] theorem res73 : Try.f73.results.toList = [.cell 4 30] := rfl
@[go_sem] theorem ok74 : okFn Try.prog 74 = true := by kernel_rfl
@[go_sem] theorem res74 : Try.f74.results.toList = [.tmp 4] := rfl
@[go_sem] theorem ok75 : okFn Try.prog 75 = true := by kernel_rfl
@[go_sem] theorem res75 : Try.f75.results.toList = [.tmp 4] := rfl
@[go_sem] theorem ok76 : okFn Try.prog 76 = true := by kernel_rfl
@[go_sem] theorem res76 : Try.f76.results.toList = [.tmp 4] := rfl
@[go_sem] theorem ok77 : okFn Try.prog 77 = true := by kernel_rfl
@[go_sem] theorem res77 : Try.f77.results.toList = [.tmp 4] := rfl
@[go_sem] theorem ok78 : okFn Try.prog 78 = true := by kernel_rfl
@[go_sem] theorem res78 : Try.f78.results.toList = [.cell 4 124] := rfl
@[go_sem] theorem ok79 : okFn Try.prog 79 = true := by kernel_rfl
@[go_sem] theorem res79 : Try.f79.results.toList = [.tmp 4] := rfl
@[go_sem] theorem ok80 : okFn Try.prog 80 = true := by kernel_rfl
@[go_sem] theorem res80 : Try.f80.results.toList = [.tmp 3] := rfl
@[go_sem] theorem ok81 : okFn Try.prog 81 = true := by kernel_rfl
@[go_sem] theorem res81 : Try.f81.results.toList = [.tmp 4] := rfl
@[go_sem] theorem ok82 : okFn Try.prog 82 = true := by kernel_rfl
@[go_sem] theorem res82 : Try.f82.results.toList = [.tmp 6] := rfl
@[go_sem] theorem ok89 : okFn Try.prog 89 = true := by kernel_rfl
@[go_sem] theorem res89 : Try.f89.results.toList = [.tmp 4] := rfl
@[go_sem] theorem ok91 : okFn Try.prog 91 = true := by kernel_rfl
@[go_sem] theorem res91 : Try.f91.results.toList = [.tmp 2] := rfl
@[go_sem] theorem ok92 : okFn Try.prog 92 = true := by kernel_rfl
@[go_sem] theorem res92 : Try.f92.results.toList = [.tmp 2] := rfl
@[go_sem] theorem ok93 : okFn Try.prog 93 = true := by kernel_rfl
@[go_sem] theorem res93 : Try.f93.results.toList = [.tmp 3] := rfl
@[go_sem] theorem ok94 : okFn Try.prog 94 = true := by kernel_rfl
@[go_sem] theorem res94 : Try.f94.results.toList = [.tmp 3] := rfl
@[go_sem] theorem ok95 : okFn Try.prog 95 = true := by kernel_rfl
@[go_sem] theorem res95 : Try.f95.results.toList = [.tmp 3, .tmp 4] := rfl
@[go_sem] theorem ok96 : okFn Try.prog 96 = true := by kernel_rfl
@[go_sem] theorem res96 : Try.f96.results.toList = [.tmp 4] := rfl
@[go_sem] theorem ok97 : okFn Try.prog 97 = true := by kernel_rfl
@[go_sem] theorem res97 : Try.f97.results.toList = [.tmp 3] := rfl
@[go_sem] theorem ok109 : okFn Try.prog 109 = true := by kernel_rfl
@[go_sem] theorem res109 : Try.f109.results.toList = [] := rfl
@[go_sem] theorem ok110 : okFn Try.prog 110 = true := by kernel_rfl
@[go_sem] theorem res110 : Try.f110.results.toList = [.tmp 4] := rfl
theorem mixed : Try.prog.follows .mixedOrders = true := by kernel_rfl
end Go.Proofs.Try

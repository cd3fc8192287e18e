/- Contracts of functions, walked. -/
import Derived.Test.YtgddlpegljkgpaaProg
import Derived.Test.YtgddlpegljkgpaaAwA
set_option linter.all false
namespace Go.Proofs.Try
open Go Go.Am Go.RowKit
set_option maxRecDepth 100000
@[go_sem] theorem sz3 : szT Try.prog 3 = some 1 := by kernel_rfl
@[go_sem] theorem by3 : bytesT Try.prog 3 = some 8 := by kernel_rfl
@[go_sem] theorem ag3 : isAggT Try.prog 3 = some false := by kernel_rfl
@[go_sem] theorem el3 : elemT Try.prog 3 = none := by kernel_rfl
@[go_sem] theorem ze3 : zeroT Try.prog 3 = some (.int .i64 0) := by kernel_rfl
@[go_sem] theorem un3 : Try.prog.underlying 3 = some (.int .i64) := by kernel_rfl
@[go_sem] theorem sz4 : szT Try.prog 4 = some 1 := by kernel_rfl
@[go_sem] theorem by4 : bytesT Try.prog 4 = some 1 := by kernel_rfl
@[go_sem] theorem ag4 : isAggT Try.prog 4 = some false := by kernel_rfl
@[go_sem] theorem el4 : elemT Try.prog 4 = none := by kernel_rfl
@[go_sem] theorem ze4 : zeroT Try.prog 4 = some (.bool false) := by kernel_rfl
@[go_sem] theorem un4 : Try.prog.underlying 4 = some .bool := by kernel_rfl
@[go_sem] theorem sz5 : szT Try.prog 5 = some 1 := by kernel_rfl
@[go_sem] theorem by5 : bytesT Try.prog 5 = some 1 := by kernel_rfl
@[go_sem] theorem ag5 : isAggT Try.prog 5 = some false := by kernel_rfl
@[go_sem] theorem el5 : elemT Try.prog 5 = none := by kernel_rfl
@[go_sem] theorem ze5 : zeroT Try.prog 5 = some (.int .u8 0) := by kernel_rfl
@[go_sem] theorem sz7 : szT Try.prog 7 = some 4 := by kernel_rfl
@[go_sem] theorem by7 : bytesT Try.prog 7 = some 24 := by kernel_rfl
@[go_sem] theorem ag7 : isAggT Try.prog 7 = some true := by kernel_rfl
@[go_sem] theorem el7 : elemT Try.prog 7 = none := by kernel_rfl
@[go_sem] theorem ze7 : zeroT Try.prog 7 = some (.agg #[.int .i64 0, .int .i64 0, .bool false, .int .u8 0]) := by kernel_rfl
@[go_sem] theorem fo7x0 : (fieldOf Try.prog 7 0).map (fun f => (f.type, f.offset)) = some (2, 0) := by kernel_rfl
@[go_sem] theorem fo7x1 : (fieldOf Try.prog 7 1).map (fun f => (f.type, f.offset)) = some (3, 1) := by kernel_rfl
@[go_sem] theorem fo7x2 : (fieldOf Try.prog 7 2).map (fun f => (f.type, f.offset)) = some (4, 2) := by kernel_rfl
@[go_sem] theorem fo7x3 : (fieldOf Try.prog 7 3).map (fun f => (f.type, f.offset)) = some (6, 3) := by kernel_rfl
@[go_sem] theorem sz8 : szT Try.prog 8 = some 4 := by kernel_rfl
@[go_sem] theorem by8 : bytesT Try.prog 8 = some 24 := by kernel_rfl
@[go_sem] theorem ag8 : isAggT Try.prog 8 = some true := by kernel_rfl
@[go_sem] theorem el8 : elemT Try.prog 8 = none := by kernel_rfl
@[go_sem] theorem ze8 : zeroT Try.prog 8 = some (.agg #[.int .i64 0, .int .i64 0, .bool false, .int .u8 0]) := by kernel_rfl
@[go_sem] theorem fo8x0 : (fieldOf Try.prog 8 0).map (fun f => (f.type, f.offset)) = some (2, 0) := by kernel_rfl
@[go_sem] theorem fo8x1 : (fieldOf Try.prog 8 1).map (fun f => (f.type, f.offset)) = some (3, 1) := by kernel_rfl
@[go_sem] theorem fo8x2 : (fieldOf Try.prog 8 2).map (fun f => (f.type, f.offset)) = some (4, 2) := by kernel_rfl
@[go_sem] theorem fo8x3 : (fieldOf Try.prog 8 3).map (fun f => (f.type, f.offset)) = some (6, 3) := by kernel_rfl
@[go_sem] theorem sz14 : szT Try.prog 14 = some 2 := by kernel_rfl
@[go_sem] theorem by14 : bytesT Try.prog 14 = some 24 := by kernel_rfl
@[go_sem] theorem ag14 : isAggT Try.prog 14 = some true := by kernel_rfl
@[go_sem] theorem el14 : elemT Try.prog 14 = none := by kernel_rfl
@[go_sem] theorem ze14 : zeroT Try.prog 14 = some (.agg #[.string ⟨#[]⟩, .int .u64 0]) := by kernel_rfl
@[go_sem] theorem fo14x0 : (fieldOf Try.prog 14 0).map (fun f => (f.type, f.offset)) = some (9, 0) := by kernel_rfl
@[go_sem] theorem fo14x1 : (fieldOf Try.prog 14 1).map (fun f => (f.type, f.offset)) = some (12, 1) := by kernel_rfl
@[go_sem] theorem sz19 : szT Try.prog 19 = some 1 := by kernel_rfl
@[go_sem] theorem by19 : bytesT Try.prog 19 = some 8 := by kernel_rfl
@[go_sem] theorem ag19 : isAggT Try.prog 19 = some true := by kernel_rfl
@[go_sem] theorem el19 : elemT Try.prog 19 = none := by kernel_rfl
@[go_sem] theorem ze19 : zeroT Try.prog 19 = some (.agg #[.pointer none]) := by kernel_rfl
@[go_sem] theorem fo19x0 : (fieldOf Try.prog 19 0).map (fun f => (f.type, f.offset)) = some (17, 0) := by kernel_rfl
@[go_sem] theorem sz22 : szT Try.prog 22 = some 1 := by kernel_rfl
@[go_sem] theorem by22 : bytesT Try.prog 22 = some 24 := by kernel_rfl
@[go_sem] theorem ag22 : isAggT Try.prog 22 = some false := by kernel_rfl
@[go_sem] theorem el22 : elemT Try.prog 22 = some 3 := by kernel_rfl
@[go_sem] theorem ze22 : zeroT Try.prog 22 = some (.slice none 0 0) := by kernel_rfl
@[go_sem] theorem sz23 : szT Try.prog 23 = some 1 := by kernel_rfl
@[go_sem] theorem by23 : bytesT Try.prog 23 = some 24 := by kernel_rfl
@[go_sem] theorem ag23 : isAggT Try.prog 23 = some false := by kernel_rfl
@[go_sem] theorem el23 : elemT Try.prog 23 = some 61 := by kernel_rfl
@[go_sem] theorem ze23 : zeroT Try.prog 23 = some (.slice none 0 0) := by kernel_rfl
@[go_sem] theorem sz25 : szT Try.prog 25 = some 2 := by kernel_rfl
@[go_sem] theorem by25 : bytesT Try.prog 25 = some 48 := by kernel_rfl
@[go_sem] theorem ag25 : isAggT Try.prog 25 = some true := by kernel_rfl
@[go_sem] theorem el25 : elemT Try.prog 25 = none := by kernel_rfl
@[go_sem] theorem ze25 : zeroT Try.prog 25 = some (.agg #[.slice none 0 0, .slice none 0 0]) := by kernel_rfl
@[go_sem] theorem fo25x0 : (fieldOf Try.prog 25 0).map (fun f => (f.type, f.offset)) = some (22, 0) := by kernel_rfl
@[go_sem] theorem fo25x1 : (fieldOf Try.prog 25 1).map (fun f => (f.type, f.offset)) = some (23, 1) := by kernel_rfl
@[go_sem] theorem sz27 : szT Try.prog 27 = some 4 := by kernel_rfl
@[go_sem] theorem by27 : bytesT Try.prog 27 = some 48 := by kernel_rfl
@[go_sem] theorem ag27 : isAggT Try.prog 27 = some true := by kernel_rfl
@[go_sem] theorem el27 : elemT Try.prog 27 = none := by kernel_rfl
@[go_sem] theorem ze27 : zeroT Try.prog 27 = some (.agg #[.slice none 0 0, .int .i64 0, .int .i64 0, .int .i64 0]) := by kernel_rfl
@[go_sem] theorem fo27x0 : (fieldOf Try.prog 27 0).map (fun f => (f.type, f.offset)) = some (22, 0) := by kernel_rfl
@[go_sem] theorem fo27x1 : (fieldOf Try.prog 27 1).map (fun f => (f.type, f.offset)) = some (3, 1) := by kernel_rfl
@[go_sem] theorem fo27x2 : (fieldOf Try.prog 27 2).map (fun f => (f.type, f.offset)) = some (3, 2) := by kernel_rfl
@[go_sem] theorem fo27x3 : (fieldOf Try.prog 27 3).map (fun f => (f.type, f.offset)) = some (3, 3) := by kernel_rfl
@[go_sem] theorem sz31 : szT Try.prog 31 = some 1 := by kernel_rfl
@[go_sem] theorem by31 : bytesT Try.prog 31 = some 8 := by kernel_rfl
@[go_sem] theorem ag31 : isAggT Try.prog 31 = some false := by kernel_rfl
@[go_sem] theorem el31 : elemT Try.prog 31 = none := by kernel_rfl
@[go_sem] theorem ze31 : zeroT Try.prog 31 = some (.int .i64 0) := by kernel_rfl
@[go_sem] theorem un31 : Try.prog.underlying 31 = some (.int .i64) := by kernel_rfl
@[go_sem] theorem sz35 : szT Try.prog 35 = some 2 := by kernel_rfl
@[go_sem] theorem by35 : bytesT Try.prog 35 = some 32 := by kernel_rfl
@[go_sem] theorem ag35 : isAggT Try.prog 35 = some true := by kernel_rfl
@[go_sem] theorem el35 : elemT Try.prog 35 = none := by kernel_rfl
@[go_sem] theorem ze35 : zeroT Try.prog 35 = some (.agg #[.slice none 0 0, .int .i64 0]) := by kernel_rfl
@[go_sem] theorem fo35x0 : (fieldOf Try.prog 35 0).map (fun f => (f.type, f.offset)) = some (22, 0) := by kernel_rfl
@[go_sem] theorem fo35x1 : (fieldOf Try.prog 35 1).map (fun f => (f.type, f.offset)) = some (31, 1) := by kernel_rfl
@[go_sem] theorem sz37 : szT Try.prog 37 = some 1 := by kernel_rfl
@[go_sem] theorem by37 : bytesT Try.prog 37 = some 24 := by kernel_rfl
@[go_sem] theorem ag37 : isAggT Try.prog 37 = some false := by kernel_rfl
@[go_sem] theorem el37 : elemT Try.prog 37 = some 87 := by kernel_rfl
@[go_sem] theorem ze37 : zeroT Try.prog 37 = some (.slice none 0 0) := by kernel_rfl
@[go_sem] theorem sz41 : szT Try.prog 41 = some 2 := by kernel_rfl
@[go_sem] theorem by41 : bytesT Try.prog 41 = some 32 := by kernel_rfl
@[go_sem] theorem ag41 : isAggT Try.prog 41 = some true := by kernel_rfl
@[go_sem] theorem el41 : elemT Try.prog 41 = none := by kernel_rfl
@[go_sem] theorem ze41 : zeroT Try.prog 41 = some (.agg #[.slice none 0 0, .int .i64 0]) := by kernel_rfl
@[go_sem] theorem fo41x0 : (fieldOf Try.prog 41 0).map (fun f => (f.type, f.offset)) = some (37, 0) := by kernel_rfl
@[go_sem] theorem fo41x1 : (fieldOf Try.prog 41 1).map (fun f => (f.type, f.offset)) = some (31, 1) := by kernel_rfl
@[go_sem] theorem sz51 : szT Try.prog 51 = some 3 := by kernel_rfl
@[go_sem] theorem by51 : bytesT Try.prog 51 = some 56 := by kernel_rfl
@[go_sem] theorem ag51 : isAggT Try.prog 51 = some true := by kernel_rfl
@[go_sem] theorem el51 : elemT Try.prog 51 = none := by kernel_rfl
@[go_sem] theorem ze51 : zeroT Try.prog 51 = some (.agg #[.slice none 0 0, .slice none 0 0, .int .i64 0]) := by kernel_rfl
@[go_sem] theorem fo51x0 : (fieldOf Try.prog 51 0).map (fun f => (f.type, f.offset)) = some (22, 0) := by kernel_rfl
@[go_sem] theorem fo51x1 : (fieldOf Try.prog 51 1).map (fun f => (f.type, f.offset)) = some (22, 1) := by kernel_rfl
@[go_sem] theorem fo51x2 : (fieldOf Try.prog 51 2).map (fun f => (f.type, f.offset)) = some (31, 2) := by kernel_rfl
@[go_sem] theorem sz56 : szT Try.prog 56 = some 1 := by kernel_rfl
@[go_sem] theorem by56 : bytesT Try.prog 56 = some 24 := by kernel_rfl
@[go_sem] theorem ag56 : isAggT Try.prog 56 = some false := by kernel_rfl
@[go_sem] theorem el56 : elemT Try.prog 56 = some 25 := by kernel_rfl
@[go_sem] theorem ze56 : zeroT Try.prog 56 = some (.slice none 0 0) := by kernel_rfl
@[go_sem] theorem sz61 : szT Try.prog 61 = some 6 := by kernel_rfl
@[go_sem] theorem by61 : bytesT Try.prog 61 = some 48 := by kernel_rfl
@[go_sem] theorem ag61 : isAggT Try.prog 61 = some true := by kernel_rfl
@[go_sem] theorem el61 : elemT Try.prog 61 = none := by kernel_rfl
@[go_sem] theorem ze61 : zeroT Try.prog 61 = some (.agg #[.int .i64 0, .int .i64 0, .int .i64 0, .int .i64 0, .int .i64 0, .int .i64 0]) := by kernel_rfl
@[go_sem] theorem fo61x0 : (fieldOf Try.prog 61 0).map (fun f => (f.type, f.offset)) = some (3, 0) := by kernel_rfl
@[go_sem] theorem fo61x1 : (fieldOf Try.prog 61 1).map (fun f => (f.type, f.offset)) = some (3, 1) := by kernel_rfl
@[go_sem] theorem fo61x2 : (fieldOf Try.prog 61 2).map (fun f => (f.type, f.offset)) = some (3, 2) := by kernel_rfl
@[go_sem] theorem fo61x3 : (fieldOf Try.prog 61 3).map (fun f => (f.type, f.offset)) = some (3, 3) := by kernel_rfl
@[go_sem] theorem fo61x4 : (fieldOf Try.prog 61 4).map (fun f => (f.type, f.offset)) = some (3, 4) := by kernel_rfl
@[go_sem] theorem fo61x5 : (fieldOf Try.prog 61 5).map (fun f => (f.type, f.offset)) = some (3, 5) := by kernel_rfl
@[go_sem] theorem sz65 : szT Try.prog 65 = some 3 := by kernel_rfl
@[go_sem] theorem by65 : bytesT Try.prog 65 = some 56 := by kernel_rfl
@[go_sem] theorem ag65 : isAggT Try.prog 65 = some true := by kernel_rfl
@[go_sem] theorem el65 : elemT Try.prog 65 = none := by kernel_rfl
@[go_sem] theorem ze65 : zeroT Try.prog 65 = some (.agg #[.slice none 0 0, .slice none 0 0, .int .i64 0]) := by kernel_rfl
@[go_sem] theorem fo65x0 : (fieldOf Try.prog 65 0).map (fun f => (f.type, f.offset)) = some (25, 0) := by kernel_rfl
@[go_sem] theorem fo65x1 : (fieldOf Try.prog 65 1).map (fun f => (f.type, f.offset)) = some (31, 2) := by kernel_rfl
@[go_sem] theorem sz87 : szT Try.prog 87 = some 2 := by kernel_rfl
@[go_sem] theorem by87 : bytesT Try.prog 87 = some 16 := by kernel_rfl
@[go_sem] theorem ag87 : isAggT Try.prog 87 = some true := by kernel_rfl
@[go_sem] theorem el87 : elemT Try.prog 87 = none := by kernel_rfl
@[go_sem] theorem ze87 : zeroT Try.prog 87 = some (.agg #[.int .i64 0, .int .i64 0]) := by kernel_rfl
@[go_sem] theorem fo87x0 : (fieldOf Try.prog 87 0).map (fun f => (f.type, f.offset)) = some (3, 0) := by kernel_rfl
@[go_sem] theorem fo87x1 : (fieldOf Try.prog 87 1).map (fun f => (f.type, f.offset)) = some (3, 1) := by kernel_rfl
@[go_sem] theorem sz91 : szT Try.prog 91 = some 1 := by kernel_rfl
@[go_sem] theorem by91 : bytesT Try.prog 91 = some 2 := by kernel_rfl
@[go_sem] theorem ag91 : isAggT Try.prog 91 = some false := by kernel_rfl
@[go_sem] theorem el91 : elemT Try.prog 91 = none := by kernel_rfl
@[go_sem] theorem ze91 : zeroT Try.prog 91 = some (.int .u16 0) := by kernel_rfl
@[go_sem] theorem sz92 : szT Try.prog 92 = some 1 := by kernel_rfl
@[go_sem] theorem by92 : bytesT Try.prog 92 = some 24 := by kernel_rfl
@[go_sem] theorem ag92 : isAggT Try.prog 92 = some false := by kernel_rfl
@[go_sem] theorem el92 : elemT Try.prog 92 = some 5 := by kernel_rfl
@[go_sem] theorem ze92 : zeroT Try.prog 92 = some (.slice none 0 0) := by kernel_rfl
@[go_sem] theorem sz93 : szT Try.prog 93 = some 1 := by kernel_rfl
@[go_sem] theorem by93 : bytesT Try.prog 93 = some 24 := by kernel_rfl
@[go_sem] theorem ag93 : isAggT Try.prog 93 = some false := by kernel_rfl
@[go_sem] theorem el93 : elemT Try.prog 93 = some 4 := by kernel_rfl
@[go_sem] theorem ze93 : zeroT Try.prog 93 = some (.slice none 0 0) := by kernel_rfl
@[go_sem] theorem sz100 : szT Try.prog 100 = some 1 := by kernel_rfl
@[go_sem] theorem by100 : bytesT Try.prog 100 = some 8 := by kernel_rfl
@[go_sem] theorem ag100 : isAggT Try.prog 100 = some false := by kernel_rfl
@[go_sem] theorem el100 : elemT Try.prog 100 = none := by kernel_rfl
@[go_sem] theorem ze100 : zeroT Try.prog 100 = some (.nilFunc) := by kernel_rfl
@[go_sem] theorem sz104 : szT Try.prog 104 = some 3 := by kernel_rfl
@[go_sem] theorem by104 : bytesT Try.prog 104 = some 24 := by kernel_rfl
@[go_sem] theorem ag104 : isAggT Try.prog 104 = some true := by kernel_rfl
@[go_sem] theorem el104 : elemT Try.prog 104 = none := by kernel_rfl
@[go_sem] theorem ze104 : zeroT Try.prog 104 = some (.agg #[.int .i64 0, .int .i64 0, .bool false]) := by kernel_rfl
@[go_sem] theorem fo104x0 : (fieldOf Try.prog 104 0).map (fun f => (f.type, f.offset)) = some (3, 0) := by kernel_rfl
@[go_sem] theorem fo104x1 : (fieldOf Try.prog 104 1).map (fun f => (f.type, f.offset)) = some (3, 1) := by kernel_rfl
@[go_sem] theorem fo104x2 : (fieldOf Try.prog 104 2).map (fun f => (f.type, f.offset)) = some (4, 2) := by kernel_rfl
@[go_sem] theorem sz107 : szT Try.prog 107 = some 1 := by kernel_rfl
@[go_sem] theorem by107 : bytesT Try.prog 107 = some 8 := by kernel_rfl
@[go_sem] theorem ag107 : isAggT Try.prog 107 = some false := by kernel_rfl
@[go_sem] theorem el107 : elemT Try.prog 107 = none := by kernel_rfl
@[go_sem] theorem ze107 : zeroT Try.prog 107 = some (.nilFunc) := by kernel_rfl
@[go_sem] theorem sz108 : szT Try.prog 108 = some 1 := by kernel_rfl
@[go_sem] theorem by108 : bytesT Try.prog 108 = some 8 := by kernel_rfl
@[go_sem] theorem ag108 : isAggT Try.prog 108 = some false := by kernel_rfl
@[go_sem] theorem el108 : elemT Try.prog 108 = none := by kernel_rfl
@[go_sem] theorem ze108 : zeroT Try.prog 108 = some (.nilFunc) := by kernel_rfl
@[go_sem] theorem sz111 : szT Try.prog 111 = some 1 := by kernel_rfl
@[go_sem] theorem by111 : bytesT Try.prog 111 = some 8 := by kernel_rfl
@[go_sem] theorem ag111 : isAggT Try.prog 111 = some false := by kernel_rfl
@[go_sem] theorem el111 : elemT Try.prog 111 = none := by kernel_rfl
@[go_sem] theorem ze111 : zeroT Try.prog 111 = some (.map none) := by kernel_rfl
@[go_sem] theorem ma111 : mapT Try.prog 111 = some (3, 61) := by kernel_rfl
@[go_sem] theorem sz116 : szT Try.prog 116 = some 1 := by kernel_rfl
@[go_sem] theorem by116 : bytesT Try.prog 116 = some 24 := by kernel_rfl
@[go_sem] theorem ag116 : isAggT Try.prog 116 = some false := by kernel_rfl
@[go_sem] theorem el116 : elemT Try.prog 116 = some 37 := by kernel_rfl
@[go_sem] theorem ze116 : zeroT Try.prog 116 = some (.slice none 0 0) := by kernel_rfl
@[go_sem] theorem sz118 : szT Try.prog 118 = some 2 := by kernel_rfl
@[go_sem] theorem by118 : bytesT Try.prog 118 = some 32 := by kernel_rfl
@[go_sem] theorem ag118 : isAggT Try.prog 118 = some true := by kernel_rfl
@[go_sem] theorem el118 : elemT Try.prog 118 = none := by kernel_rfl
@[go_sem] theorem ze118 : zeroT Try.prog 118 = some (.agg #[.slice none 0 0, .int .i64 0]) := by kernel_rfl
@[go_sem] theorem fo118x0 : (fieldOf Try.prog 118 0).map (fun f => (f.type, f.offset)) = some (116, 0) := by kernel_rfl
@[go_sem] theorem fo118x1 : (fieldOf Try.prog 118 1).map (fun f => (f.type, f.offset)) = some (3, 1) := by kernel_rfl
@[go_sem] theorem sz120 : szT Try.prog 120 = some 4 := by kernel_rfl
@[go_sem] theorem by120 : bytesT Try.prog 120 = some 80 := by kernel_rfl
@[go_sem] theorem ag120 : isAggT Try.prog 120 = some true := by kernel_rfl
@[go_sem] theorem el120 : elemT Try.prog 120 = none := by kernel_rfl
@[go_sem] theorem ze120 : zeroT Try.prog 120 = some (.agg #[.slice none 0 0, .int .i64 0, .slice none 0 0, .slice none 0 0]) := by kernel_rfl
@[go_sem] theorem fo120x0 : (fieldOf Try.prog 120 0).map (fun f => (f.type, f.offset)) = some (118, 0) := by kernel_rfl
@[go_sem] theorem fo120x1 : (fieldOf Try.prog 120 1).map (fun f => (f.type, f.offset)) = some (22, 2) := by kernel_rfl
@[go_sem] theorem fo120x2 : (fieldOf Try.prog 120 2).map (fun f => (f.type, f.offset)) = some (22, 3) := by kernel_rfl
@[go_sem] theorem sz125 : szT Try.prog 125 = some 1 := by kernel_rfl
@[go_sem] theorem by125 : bytesT Try.prog 125 = some 8 := by kernel_rfl
@[go_sem] theorem ag125 : isAggT Try.prog 125 = some false := by kernel_rfl
@[go_sem] theorem el125 : elemT Try.prog 125 = none := by kernel_rfl
@[go_sem] theorem ze125 : zeroT Try.prog 125 = some (.nilFunc) := by kernel_rfl
@[go_sem] theorem sz137 : szT Try.prog 137 = some 1 := by kernel_rfl
@[go_sem] theorem by137 : bytesT Try.prog 137 = some 8 := by kernel_rfl
@[go_sem] theorem ag137 : isAggT Try.prog 137 = some false := by kernel_rfl
@[go_sem] theorem el137 : elemT Try.prog 137 = none := by kernel_rfl
@[go_sem] theorem ze137 : zeroT Try.prog 137 = some (.nilFunc) := by kernel_rfl
@[go_sem] theorem sz143 : szT Try.prog 143 = some 1 := by kernel_rfl
@[go_sem] theorem by143 : bytesT Try.prog 143 = some 24 := by kernel_rfl
@[go_sem] theorem ag143 : isAggT Try.prog 143 = some false := by kernel_rfl
@[go_sem] theorem el143 : elemT Try.prog 143 = some 149 := by kernel_rfl
@[go_sem] theorem ze143 : zeroT Try.prog 143 = some (.slice none 0 0) := by kernel_rfl
@[go_sem] theorem sz145 : szT Try.prog 145 = some 2 := by kernel_rfl
@[go_sem] theorem by145 : bytesT Try.prog 145 = some 16 := by kernel_rfl
@[go_sem] theorem ag145 : isAggT Try.prog 145 = some true := by kernel_rfl
@[go_sem] theorem el145 : elemT Try.prog 145 = none := by kernel_rfl
@[go_sem] theorem ze145 : zeroT Try.prog 145 = some (.agg #[.int .i64 0, .int .i64 0]) := by kernel_rfl
@[go_sem] theorem ar145 : arrayT Try.prog 145 = some (2, 3) := by kernel_rfl
@[go_sem] theorem sz147 : szT Try.prog 147 = some 3 := by kernel_rfl
@[go_sem] theorem by147 : bytesT Try.prog 147 = some 24 := by kernel_rfl
@[go_sem] theorem ag147 : isAggT Try.prog 147 = some true := by kernel_rfl
@[go_sem] theorem el147 : elemT Try.prog 147 = none := by kernel_rfl
@[go_sem] theorem ze147 : zeroT Try.prog 147 = some (.agg #[.int .i64 0, .int .i64 0, .bool false]) := by kernel_rfl
@[go_sem] theorem fo147x0 : (fieldOf Try.prog 147 0).map (fun f => (f.type, f.offset)) = some (145, 0) := by kernel_rfl
@[go_sem] theorem fo147x1 : (fieldOf Try.prog 147 1).map (fun f => (f.type, f.offset)) = some (4, 2) := by kernel_rfl
@[go_sem] theorem sz149 : szT Try.prog 149 = some 5 := by kernel_rfl
@[go_sem] theorem by149 : bytesT Try.prog 149 = some 40 := by kernel_rfl
@[go_sem] theorem ag149 : isAggT Try.prog 149 = some true := by kernel_rfl
@[go_sem] theorem el149 : elemT Try.prog 149 = none := by kernel_rfl
@[go_sem] theorem ze149 : zeroT Try.prog 149 = some (.agg #[.int .i64 0, .int .i64 0, .int .i64 0, .int .i64 0, .bool false]) := by kernel_rfl
@[go_sem] theorem fo149x0 : (fieldOf Try.prog 149 0).map (fun f => (f.type, f.offset)) = some (87, 0) := by kernel_rfl
@[go_sem] theorem fo149x1 : (fieldOf Try.prog 149 1).map (fun f => (f.type, f.offset)) = some (147, 2) := by kernel_rfl
@[go_sem] theorem sz150 : szT Try.prog 150 = some 1 := by kernel_rfl
@[go_sem] theorem by150 : bytesT Try.prog 150 = some 8 := by kernel_rfl
@[go_sem] theorem ag150 : isAggT Try.prog 150 = some false := by kernel_rfl
@[go_sem] theorem el150 : elemT Try.prog 150 = none := by kernel_rfl
@[go_sem] theorem ze150 : zeroT Try.prog 150 = some (.nilFunc) := by kernel_rfl
@[go_sem] theorem sz151 : szT Try.prog 151 = some 1 := by kernel_rfl
@[go_sem] theorem by151 : bytesT Try.prog 151 = some 8 := by kernel_rfl
@[go_sem] theorem ag151 : isAggT Try.prog 151 = some false := by kernel_rfl
@[go_sem] theorem el151 : elemT Try.prog 151 = none := by kernel_rfl
@[go_sem] theorem ze151 : zeroT Try.prog 151 = some (.nilFunc) := by kernel_rfl
@[go_sem] theorem sz155 : szT Try.prog 155 = some 1 := by kernel_rfl
@[go_sem] theorem by155 : bytesT Try.prog 155 = some 8 := by kernel_rfl
@[go_sem] theorem ag155 : isAggT Try.prog 155 = some false := by kernel_rfl
@[go_sem] theorem el155 : elemT Try.prog 155 = none := by kernel_rfl
@[go_sem] theorem ze155 : zeroT Try.prog 155 = some (.nilFunc) := by kernel_rfl
@[go_sem] theorem sz157 : szT Try.prog 157 = some 1 := by kernel_rfl
@[go_sem] theorem by157 : bytesT Try.prog 157 = some 8 := by kernel_rfl
@[go_sem] theorem ag157 : isAggT Try.prog 157 = some false := by kernel_rfl
@[go_sem] theorem el157 : elemT Try.prog 157 = none := by kernel_rfl
@[go_sem] theorem ze157 : zeroT Try.prog 157 = some (.nilFunc) := by kernel_rfl
@[go_sem] theorem sz159 : szT Try.prog 159 = some 1 := by kernel_rfl
@[go_sem] theorem by159 : bytesT Try.prog 159 = some 24 := by kernel_rfl
@[go_sem] theorem ag159 : isAggT Try.prog 159 = some false := by kernel_rfl
@[go_sem] theorem el159 : elemT Try.prog 159 = some 27 := by kernel_rfl
@[go_sem] theorem ze159 : zeroT Try.prog 159 = some (.slice none 0 0) := by kernel_rfl
@[go_sem] theorem sz163 : szT Try.prog 163 = some 1 := by kernel_rfl
@[go_sem] theorem by163 : bytesT Try.prog 163 = some 8 := by kernel_rfl
@[go_sem] theorem ag163 : isAggT Try.prog 163 = some false := by kernel_rfl
@[go_sem] theorem el163 : elemT Try.prog 163 = none := by kernel_rfl
@[go_sem] theorem ze163 : zeroT Try.prog 163 = some (.map none) := by kernel_rfl
@[go_sem] theorem ma163 : mapT Try.prog 163 = some (3, 4) := by kernel_rfl
@[go_sem] theorem sz166 : szT Try.prog 166 = some 1 := by kernel_rfl
@[go_sem] theorem by166 : bytesT Try.prog 166 = some 8 := by kernel_rfl
@[go_sem] theorem ag166 : isAggT Try.prog 166 = some false := by kernel_rfl
@[go_sem] theorem el166 : elemT Try.prog 166 = none := by kernel_rfl
@[go_sem] theorem ze166 : zeroT Try.prog 166 = some (.nilFunc) := by kernel_rfl
@[go_sem] theorem sz167 : szT Try.prog 167 = some 1 := by kernel_rfl
@[go_sem] theorem by167 : bytesT Try.prog 167 = some 8 := by kernel_rfl
@[go_sem] theorem ag167 : isAggT Try.prog 167 = some false := by kernel_rfl
@[go_sem] theorem el167 : elemT Try.prog 167 = none := by kernel_rfl
@[go_sem] theorem ze167 : zeroT Try.prog 167 = some (.nilFunc) := by kernel_rfl
@[go_sem] theorem sz169 : szT Try.prog 169 = some 1 := by kernel_rfl
@[go_sem] theorem by169 : bytesT Try.prog 169 = some 8 := by kernel_rfl
@[go_sem] theorem ag169 : isAggT Try.prog 169 = some false := by kernel_rfl
@[go_sem] theorem el169 : elemT Try.prog 169 = none := by kernel_rfl
@[go_sem] theorem ze169 : zeroT Try.prog 169 = some (.nilFunc) := by kernel_rfl
@[go_sem] theorem sz170 : szT Try.prog 170 = some 1 := by kernel_rfl
@[go_sem] theorem by170 : bytesT Try.prog 170 = some 8 := by kernel_rfl
@[go_sem] theorem ag170 : isAggT Try.prog 170 = some false := by kernel_rfl
@[go_sem] theorem el170 : elemT Try.prog 170 = none := by kernel_rfl
@[go_sem] theorem ze170 : zeroT Try.prog 170 = some (.nilFunc) := by kernel_rfl
@[go_sem] theorem sz172 : szT Try.prog 172 = some 1 := by kernel_rfl
@[go_sem] theorem by172 : bytesT Try.prog 172 = some 8 := by kernel_rfl
@[go_sem] theorem ag172 : isAggT Try.prog 172 = some false := by kernel_rfl
@[go_sem] theorem el172 : elemT Try.prog 172 = none := by kernel_rfl
@[go_sem] theorem ze172 : zeroT Try.prog 172 = some (.nilFunc) := by kernel_rfl
@[go_sem] theorem sz173 : szT Try.prog 173 = some 1 := by kernel_rfl
@[go_sem] theorem by173 : bytesT Try.prog 173 = some 8 := by kernel_rfl
@[go_sem] theorem ag173 : isAggT Try.prog 173 = some false := by kernel_rfl
@[go_sem] theorem el173 : elemT Try.prog 173 = none := by kernel_rfl
@[go_sem] theorem ze173 : zeroT Try.prog 173 = some (.nilFunc) := by kernel_rfl
@[go_sem] theorem sz179 : szT Try.prog 179 = some 1 := by kernel_rfl
@[go_sem] theorem by179 : bytesT Try.prog 179 = some 8 := by kernel_rfl
@[go_sem] theorem ag179 : isAggT Try.prog 179 = some false := by kernel_rfl
@[go_sem] theorem el179 : elemT Try.prog 179 = none := by kernel_rfl
@[go_sem] theorem ze179 : zeroT Try.prog 179 = some (.int .u64 0) := by kernel_rfl
@[go_sem] theorem sz183 : szT Try.prog 183 = some 1 := by kernel_rfl
@[go_sem] theorem by183 : bytesT Try.prog 183 = some 8 := by kernel_rfl
@[go_sem] theorem ag183 : isAggT Try.prog 183 = some false := by kernel_rfl
@[go_sem] theorem el183 : elemT Try.prog 183 = none := by kernel_rfl
@[go_sem] theorem ze183 : zeroT Try.prog 183 = some (.nilFunc) := by kernel_rfl
@[go_sem] theorem sz184 : szT Try.prog 184 = some 1 := by kernel_rfl
@[go_sem] theorem by184 : bytesT Try.prog 184 = some 8 := by kernel_rfl
@[go_sem] theorem ag184 : isAggT Try.prog 184 = some false := by kernel_rfl
@[go_sem] theorem el184 : elemT Try.prog 184 = none := by kernel_rfl
@[go_sem] theorem ze184 : zeroT Try.prog 184 = some (.nilFunc) := by kernel_rfl
@[go_sem] theorem sz187 : szT Try.prog 187 = some 1 := by kernel_rfl
@[go_sem] theorem by187 : bytesT Try.prog 187 = some 8 := by kernel_rfl
@[go_sem] theorem ag187 : isAggT Try.prog 187 = some false := by kernel_rfl
@[go_sem] theorem el187 : elemT Try.prog 187 = none := by kernel_rfl
@[go_sem] theorem ze187 : zeroT Try.prog 187 = some (.int .i64 0) := by kernel_rfl
@[go_sem] theorem un187 : Try.prog.underlying 187 = some (.int .i64) := by kernel_rfl
@[go_sem] theorem sz210 : szT Try.prog 210 = some 4 := by kernel_rfl
@[go_sem] theorem by210 : bytesT Try.prog 210 = some 40 := by kernel_rfl
@[go_sem] theorem ag210 : isAggT Try.prog 210 = some true := by kernel_rfl
@[go_sem] theorem el210 : elemT Try.prog 210 = none := by kernel_rfl
@[go_sem] theorem ze210 : zeroT Try.prog 210 = some (.agg #[.pointer none, .pointer none, .pointer none, .string ⟨#[]⟩]) := by kernel_rfl
@[go_sem] theorem fo210x0 : (fieldOf Try.prog 210 0).map (fun f => (f.type, f.offset)) = some (17, 0) := by kernel_rfl
@[go_sem] theorem fo210x1 : (fieldOf Try.prog 210 1).map (fun f => (f.type, f.offset)) = some (17, 1) := by kernel_rfl
@[go_sem] theorem fo210x2 : (fieldOf Try.prog 210 2).map (fun f => (f.type, f.offset)) = some (17, 2) := by kernel_rfl
@[go_sem] theorem fo210x3 : (fieldOf Try.prog 210 3).map (fun f => (f.type, f.offset)) = some (9, 3) := by kernel_rfl
@[go_sem] theorem ar211 : arrayT Try.prog 211 = some (0, 16) := by kernel_rfl
@[go_sem] theorem sz213 : szT Try.prog 213 = some 0 := by kernel_rfl
@[go_sem] theorem by213 : bytesT Try.prog 213 = some 0 := by kernel_rfl
@[go_sem] theorem ag213 : isAggT Try.prog 213 = some true := by kernel_rfl
@[go_sem] theorem el213 : elemT Try.prog 213 = none := by kernel_rfl
@[go_sem] theorem ze213 : zeroT Try.prog 213 = some (.agg #[]) := by kernel_rfl
@[go_sem] theorem fo213x0 : (fieldOf Try.prog 213 0).map (fun f => (f.type, f.offset)) = some (211, 0) := by kernel_rfl
@[go_sem] theorem sz221 : szT Try.prog 221 = some 11 := by kernel_rfl
@[go_sem] theorem by221 : bytesT Try.prog 221 = some 48 := by kernel_rfl
@[go_sem] theorem ag221 : isAggT Try.prog 221 = some true := by kernel_rfl
@[go_sem] theorem el221 : elemT Try.prog 221 = none := by kernel_rfl
@[go_sem] theorem ze221 : zeroT Try.prog 221 = some (.agg #[.int .u64 0, .int .u64 0, .int .u32 0, .int .u8 0, .int .u8 0, .int .u8 0, .int .u8 0, .nilFunc, .pointer none, .int .i32 0, .int .i32 0]) := by kernel_rfl
@[go_sem] theorem fo221x0 : (fieldOf Try.prog 221 0).map (fun f => (f.type, f.offset)) = some (12, 0) := by kernel_rfl
@[go_sem] theorem fo221x1 : (fieldOf Try.prog 221 1).map (fun f => (f.type, f.offset)) = some (12, 1) := by kernel_rfl
@[go_sem] theorem fo221x2 : (fieldOf Try.prog 221 2).map (fun f => (f.type, f.offset)) = some (195, 2) := by kernel_rfl
@[go_sem] theorem fo221x3 : (fieldOf Try.prog 221 3).map (fun f => (f.type, f.offset)) = some (214, 3) := by kernel_rfl
@[go_sem] theorem fo221x4 : (fieldOf Try.prog 221 4).map (fun f => (f.type, f.offset)) = some (5, 4) := by kernel_rfl
@[go_sem] theorem fo221x5 : (fieldOf Try.prog 221 5).map (fun f => (f.type, f.offset)) = some (5, 5) := by kernel_rfl
@[go_sem] theorem fo221x6 : (fieldOf Try.prog 221 6).map (fun f => (f.type, f.offset)) = some (215, 6) := by kernel_rfl
@[go_sem] theorem fo221x7 : (fieldOf Try.prog 221 7).map (fun f => (f.type, f.offset)) = some (216, 7) := by kernel_rfl
@[go_sem] theorem fo221x8 : (fieldOf Try.prog 221 8).map (fun f => (f.type, f.offset)) = some (217, 8) := by kernel_rfl
@[go_sem] theorem fo221x9 : (fieldOf Try.prog 221 9).map (fun f => (f.type, f.offset)) = some (218, 9) := by kernel_rfl
@[go_sem] theorem fo221x10 : (fieldOf Try.prog 221 10).map (fun f => (f.type, f.offset)) = some (219, 10) := by kernel_rfl
@[go_sem] theorem ok3 : okFn Try.prog 3 = true := by kernel_rfl
@[go_sem] theorem res3 : Try.f3.results.toList = [.tmp 10] := rfl
@[go_sem] theorem ok4 : okFn Try.prog 4 = true := by kernel_rfl
@[go_sem] theorem res4 : Try.f4.results.toList = [.tmp 6] := rfl
@[go_sem] theorem ok5 : okFn Try.prog 5 = true := by kernel_rfl
@[go_sem] theorem res5 : Try.f5.results.toList = [.tmp 4] := rfl
@[go_sem] theorem ok7 : okFn Try.prog 7 = true := by kernel_rfl
@[go_sem] theorem res7 : Try.f7.results.toList = [.tmp 6] := rfl
@[go_sem] theorem ok8 : okFn Try.prog 8 = true := by kernel_rfl
@[go_sem] theorem res8 : Try.f8.results.toList = [.tmp 8] := rfl
@[go_sem] theorem ok9 : okFn Try.prog 9 = true := by kernel_rfl
@[go_sem] theorem res9 : Try.f9.results.toList = [.tmp 8] := rfl
@[go_sem] theorem ok10 : okFn Try.prog 10 = true := by kernel_rfl
@[go_sem] theorem res10 : Try.f10.results.toList = [.tmp 8] := rfl
@[go_sem] theorem ok11 : okFn Try.prog 11 = true := by kernel_rfl
@[go_sem] theorem res11 : Try.f11.results.toList = [.tmp 8] := rfl
@[go_sem] theorem ok12 : okFn Try.prog 12 = true := by kernel_rfl
@[go_sem] theorem res12 : Try.f12.results.toList = [.tmp 8] := rfl
@[go_sem] theorem ok13 : okFn Try.prog 13 = true := by kernel_rfl
@[go_sem] theorem res13 : Try.f13.results.toList = [.tmp 10] := rfl
@[go_sem] theorem ok14 : okFn Try.prog 14 = true := by kernel_rfl
@[go_sem] theorem res14 : Try.f14.results.toList = [.tmp 10] := rfl
@[go_sem] theorem ok15 : okFn Try.prog 15 = true := by kernel_rfl
@[go_sem] theorem res15 : Try.f15.results.toList = [.tmp 6] := rfl
@[go_sem] theorem ok16 : okFn Try.prog 16 = true := by kernel_rfl
@[go_sem] theorem res16 : Try.f16.results.toList = [.tmp 6] := rfl
@[go_sem] theorem ok17 : okFn Try.prog 17 = true := by kernel_rfl
@[go_sem] theorem res17 : Try.f17.results.toList = [.tmp 10] := rfl
@[go_sem] theorem ok18 : okFn Try.prog 18 = true := by kernel_rfl
@[go_sem] theorem res18 : Try.f18.results.toList = [.tmp 0] := rfl
@[go_sem] theorem ok19 : okFn Try.prog 19 = true := by kernel_rfl
@[go_sem] theorem res19 : Try.f19.results.toList = [.tmp 2] := rfl
@[go_sem] theorem ok20 : okFn Try.prog 20 = true := by kernel_rfl
@[go_sem] theorem res20 : Try.f20.results.toList = [.tmp 2] := rfl
@[go_sem] theorem ok21 : okFn Try.prog 21 = true := by kernel_rfl
@[go_sem] theorem res21 : Try.f21.results.toList = [.tmp 6, .tmp 7] := rfl
@[go_sem] theorem ok22 : okFn Try.prog 22 = true := by kernel_rfl
@[go_sem] theorem res22 : Try.f22.results.toList = [.cell 6 35] := rfl
@[go_sem] theorem ok23 : okFn Try.prog 23 = true := by kernel_rfl
@[go_sem] theorem res23 : Try.f23.results.toList = [.tmp 6, .tmp 7] := rfl
@[go_sem] theorem ok24 : okFn Try.prog 24 = true := by kernel_rfl
@[go_sem] theorem res24 : Try.f24.results.toList = [.cell 6 41] := rfl
@[go_sem] theorem ok25 : okFn Try.prog 25 = true := by kernel_rfl
@[go_sem] theorem res25 : Try.f25.results.toList = [.tmp 4] := rfl
@[go_sem] theorem ok26 : okFn Try.prog 26 = true := by kernel_rfl
@[go_sem] theorem res26 : Try.f26.results.toList = [.tmp 4] := rfl
@[go_sem] theorem ok27 : okFn Try.prog 27 = true := by kernel_rfl
@[go_sem] theorem res27 : Try.f27.results.toList = [.tmp 2] := rfl
@[go_sem] theorem ok28 : okFn Try.prog 28 = true := by kernel_rfl
@[go_sem] theorem res28 : Try.f28.results.toList = [.tmp 2] := rfl
@[go_sem] theorem ok29 : okFn Try.prog 29 = true := by kernel_rfl
@[go_sem] theorem res29 : Try.f29.results.toList = [.tmp 4] := rfl
@[go_sem] theorem ok30 : okFn Try.prog 30 = true := by kernel_rfl
@[go_sem] theorem res30 : Try.f30.results.toList = [.tmp 4] := rfl
@[go_sem] theorem ok31 : okFn Try.prog 31 = true := by kernel_rfl
@[go_sem] theorem res31 : Try.f31.results.toList = [.tmp 4, .tmp 5, .tmp 6] := rfl
@[go_sem] theorem ok32 : okFn Try.prog 32 = true := by kernel_rfl
@[go_sem] theorem res32 : Try.f32.results.toList = [.cell 4 51] := rfl
@[go_sem] theorem ok33 : okFn Try.prog 33 = true := by kernel_rfl
@[go_sem] theorem res33 : Try.f33.results.toList = [.tmp 6, .tmp 7, .tmp 8] := rfl
@[go_sem] theorem ok34 : okFn Try.prog 34 = true := by kernel_rfl
@[go_sem] theorem res34 : Try.f34.results.toList = [.cell 6 51] := rfl
@[go_sem] theorem ok35 : okFn Try.prog 35 = true := by kernel_rfl
@[go_sem] theorem res35 : Try.f35.results.toList = [.tmp 4, .tmp 5] := rfl
@[go_sem] theorem ok36 : okFn Try.prog 36 = true := by kernel_rfl
@[go_sem] theorem res36 : Try.f36.results.toList = [.cell 4 35] := rfl
@[go_sem] theorem ok39 : okFn Try.prog 39 = true := by kernel_rfl
@[go_sem] theorem res39 : Try.f39.results.toList = [.cell 4 25, .tmp 5] := rfl
@[go_sem] theorem ok42 : okFn Try.prog 42 = true := by kernel_rfl
@[go_sem] theorem res42 : Try.f42.results.toList = [.tmp 6, .tmp 7, .tmp 8] := rfl
@[go_sem] theorem ok43 : okFn Try.prog 43 = true := by kernel_rfl
@[go_sem] theorem res43 : Try.f43.results.toList = [.tmp 6, .tmp 7, .tmp 8] := rfl
@[go_sem] theorem ok44 : okFn Try.prog 44 = true := by kernel_rfl
@[go_sem] theorem res44 : Try.f44.results.toList = [.tmp 4] := rfl
@[go_sem] theorem ok45 : okFn Try.prog 45 = true := by kernel_rfl
@[go_sem] theorem res45 : Try.f45.results.toList = [.tmp 4] := rfl
@[go_sem] theorem ok46 : okFn Try.prog 46 = true := by kernel_rfl
@[go_sem] theorem res46 : Try.f46.results.toList = [.tmp 4, .tmp 5] := rfl
@[go_sem] theorem ok47 : okFn Try.prog 47 = true := by kernel_rfl
@[go_sem] theorem res47 : Try.f47.results.toList = [.tmp 4, .tmp 5] := rfl
@[go_sem] theorem ok48 : okFn Try.prog 48 = true := by kernel_rfl
@[go_sem] theorem res48 : Try.f48.results.toList = [.tmp 6, .tmp 7, .tmp 8] := rfl
@[go_sem] theorem ok49 : okFn Try.prog 49 = true := by kernel_rfl
@[go_sem] theorem res49 : Try.f49.results.toList = [.tmp 6] := rfl
@[go_sem] theorem ok50 : okFn Try.prog 50 = true := by kernel_rfl
@[go_sem] theorem res50 : Try.f50.results.toList = [.tmp 6] := rfl
@[go_sem] theorem ok51 : okFn Try.prog 51 = true := by kernel_rfl
@[go_sem] theorem res51 : Try.f51.results.toList = [.tmp 6] := rfl
@[go_sem] theorem ok52 : okFn Try.prog 52 = true := by kernel_rfl
@[go_sem] theorem res52 : Try.f52.results.toList = [.tmp 4, .tmp 5, .tmp 6] := rfl
@[go_sem] theorem ok53 : okFn Try.prog 53 = true := by kernel_rfl
@[go_sem] theorem res53 : Try.f53.results.toList = [.tmp 6] := rfl
@[go_sem] theorem ok54 : okFn Try.prog 54 = true := by kernel_rfl
@[go_sem] theorem res54 : Try.f54.results.toList = [.tmp 6, .tmp 7] := rfl
@[go_sem] theorem ok55 : okFn Try.prog 55 = true := by kernel_rfl
@[go_sem] theorem res55 : Try.f55.results.toList = [.cell 4 87, .tmp 5] := rfl
@[go_sem] theorem ok57 : okFn Try.prog 57 = true := by kernel_rfl
@[go_sem] theorem res57 : Try.f57.results.toList = [.tmp 4] := rfl
@[go_sem] theorem ok58 : okFn Try.prog 58 = true := by kernel_rfl
@[go_sem] theorem res58 : Try.f58.results.toList = [.tmp 6] := rfl
@[go_sem] theorem ok59 : okFn Try.prog 59 = true := by kernel_rfl
@[go_sem] theorem res59 : Try.f59.results.toList = [.tmp 4] := rfl
@[go_sem] theorem ok60 : okFn Try.prog 60 = true := by kernel_rfl
@[go_sem] theorem res60 : Try.f60.results.toList = [.tmp 6] := rfl
@[go_sem] theorem ok61 : okFn Try.prog 61 = true := by kernel_rfl
@[go_sem] theorem res61 : Try.f61.results.toList = [.tmp 2] := rfl
@[go_sem] theorem ok62 : okFn Try.prog 62 = true := by kernel_rfl
@[go_sem] theorem res62 : Try.f62.results.toList = [.cell 6 104] := rfl
@[go_sem] theorem ok63 : okFn Try.prog 63 = true := by kernel_rfl
@[go_sem] theorem res63 : Try.f63.results.toList = [.tmp 2] := rfl
@[go_sem] theorem ok64 : okFn Try.prog 64 = true := by kernel_rfl
@[go_sem] theorem res64 : Try.f64.results.toList = [.tmp 6] := rfl
@[go_sem] theorem ok65 : okFn Try.prog 65 = true := by kernel_rfl
@[go_sem] theorem res65 : Try.f65.results.toList = [.tmp 8] := rfl
@[go_sem] theorem ok66 : okFn Try.prog 66 = true := by kernel_rfl
@[go_sem] theorem res66 : Try.f66.results.toList = [.tmp 4] := rfl
@[go_sem] theorem ok67 : okFn Try.prog 67 = true := by kernel_rfl
@[go_sem] theorem res67 : Try.f67.results.toList = [.tmp 4] := rfl
@[go_sem] theorem ok68 : okFn Try.prog 68 = true := by kernel_rfl
@[go_sem] theorem res68 : Try.f68.results.toList = [.tmp 4] := rfl
@[go_sem] theorem ok69 : okFn Try.prog 69 = true := by kernel_rfl
@[go_sem] theorem res69 : Try.f69.results.toList = [.tmp 4] := rfl
@[go_sem] theorem ok70 : okFn Try.prog 70 = true := by kernel_rfl
@[go_sem] theorem res70 : Try.f70.results.toList = [.tmp 4] := rfl
@[go_sem] theorem ok71 : okFn Try.prog 71 = true := by kernel_rfl
@[go_sem] theorem res71 : Try.f71.results.toList = [.cell 4 120, .tmp 5] := rfl
@[go_sem] theorem ok72 : okFn Try.prog 72 = true := by kernel_rfl
@[go_sem] theorem res72 : Try.f72.results.toList = [.tmp 4] := rfl
@[go_sem] theorem ok73 : okFn Try.prog 73 = true := by kernel_rfl
@[go_sem] theorem res73 : Try.f73.results.toList = [.tmp 3] := rfl
@[go_sem] theorem ok74 : okFn Try.prog 74 = true := by kernel_rfl
@[go_sem] theorem res74 : Try.f74.results.toList = [.tmp 4] := rfl
@[go_sem] theorem ok75 : okFn Try.prog 75 = true := by kernel_rfl
@[go_sem] theorem res75 : Try.f75.results.toList = [.tmp 3] := rfl
@[go_sem] theorem ok76 : okFn Try.prog 76 = true := by kernel_rfl
@[go_sem] theorem res76 : Try.f76.results.toList = [.tmp 4] := rfl
@[go_sem] theorem ok77 : okFn Try.prog 77 = true := by kernel_rfl
@[go_sem] theorem res77 : Try.f77.results.toList = [.tmp 4] := rfl
@[go_sem] theorem ok78 : okFn Try.prog 78 = true := by kernel_rfl
@[go_sem] theorem res78 : Try.f78.results.toList = [.tmp 4] := rfl
@[go_sem] theorem ok79 : okFn Try.prog 79 = true := by kernel_rfl
@[go_sem] theorem res79 : Try.f79.results.toList = [.tmp 4] := rfl
@[go_sem] theorem ok80 : okFn Try.prog 80 = true := by kernel_rfl
@[go_sem] theorem res80 : Try.f80.results.toList = [.cell 6 120, .cell 7 120, .tmp 8] := rfl
@[go_sem] theorem ok81 : okFn Try.prog 81 = true := by kernel_rfl
@[go_sem] theorem res81 : Try.f81.results.toList = [.tmp 4] := rfl
@[go_sem] theorem ok82 : okFn Try.prog 82 = true := by kernel_rfl
@[go_sem] theorem res82 : Try.f82.results.toList = [.tmp 4] := rfl
@[go_sem] theorem ok83 : okFn Try.prog 83 = true := by kernel_rfl
@[go_sem] theorem res83 : Try.f83.results.toList = [.tmp 2] := rfl
@[go_sem] theorem ok84 : okFn Try.prog 84 = true := by kernel_rfl
@[go_sem] theorem res84 : Try.f84.results.toList = [.cell 4 118] := rfl
@[go_sem] theorem ok85 : okFn Try.prog 85 = true := by kernel_rfl
@[go_sem] theorem res85 : Try.f85.results.toList = [.tmp 2] := rfl
@[go_sem] theorem ok86 : okFn Try.prog 86 = true := by kernel_rfl
@[go_sem] theorem res86 : Try.f86.results.toList = [.tmp 2] := rfl
@[go_sem] theorem ok89 : okFn Try.prog 89 = true := by kernel_rfl
@[go_sem] theorem res89 : Try.f89.results.toList = [.cell 4 25] := rfl
@[go_sem] theorem ok91 : okFn Try.prog 91 = true := by kernel_rfl
@[go_sem] theorem res91 : Try.f91.results.toList = [.tmp 6] := rfl
@[go_sem] theorem ok92 : okFn Try.prog 92 = true := by kernel_rfl
@[go_sem] theorem res92 : Try.f92.results.toList = [.tmp 6] := rfl
@[go_sem] theorem ok93 : okFn Try.prog 93 = true := by kernel_rfl
@[go_sem] theorem res93 : Try.f93.results.toList = [.tmp 4] := rfl
@[go_sem] theorem ok94 : okFn Try.prog 94 = true := by kernel_rfl
@[go_sem] theorem res94 : Try.f94.results.toList = [.cell 2 118] := rfl
@[go_sem] theorem ok95 : okFn Try.prog 95 = true := by kernel_rfl
@[go_sem] theorem res95 : Try.f95.results.toList = [.tmp 2] := rfl
@[go_sem] theorem ok96 : okFn Try.prog 96 = true := by kernel_rfl
@[go_sem] theorem res96 : Try.f96.results.toList = [.tmp 2] := rfl
@[go_sem] theorem ok97 : okFn Try.prog 97 = true := by kernel_rfl
@[go_sem] theorem res97 : Try.f97.results.toList = [.tmp 4] := rfl
@[go_sem] theorem ok98 : okFn Try.prog 98 = true := by kernel_rfl
@[go_sem] theorem res98 : Try.f98.results.toList = [.tmp 4] := rfl
@[go_sem] theorem ok99 : okFn Try.prog 99 = true := by kernel_rfl
@[go_sem] theorem res99 : Try.f99.results.toList = [.tmp 2] := rfl
@[go_sem] theorem ok100 : okFn Try.prog 100 = true := by kernel_rfl
@[go_sem] theorem res100 : Try.f100.results.toList = [.tmp 2] := rfl
@[go_sem] theorem ok101 : okFn Try.prog 101 = true := by kernel_rfl
@[go_sem] theorem res101 : Try.f101.results.toList = [.tmp 4] := rfl
@[go_sem] theorem ok102 : okFn Try.prog 102 = true := by kernel_rfl
@[go_sem] theorem res102 : Try.f102.results.toList = [.tmp 3] := rfl
@[go_sem] theorem ok103 : okFn Try.prog 103 = true := by kernel_rfl
@[go_sem] theorem res103 : Try.f103.results.toList = [.cell 4 149, .tmp 5] := rfl
@[go_sem] theorem ok104 : okFn Try.prog 104 = true := by kernel_rfl
@[go_sem] theorem res104 : Try.f104.results.toList = [.tmp 3] := rfl
@[go_sem] theorem ok105 : okFn Try.prog 105 = true := by kernel_rfl
@[go_sem] theorem res105 : Try.f105.results.toList = [.tmp 2] := rfl
@[go_sem] theorem ok106 : okFn Try.prog 106 = true := by kernel_rfl
@[go_sem] theorem res106 : Try.f106.results.toList = [] := rfl
@[go_sem] theorem ok107 : okFn Try.prog 107 = true := by kernel_rfl
@[go_sem] theorem res107 : Try.f107.results.toList = [.tmp 4] := rfl
@[go_sem] theorem ok108 : okFn Try.prog 108 = true := by kernel_rfl
@[go_sem] theorem res108 : Try.f108.results.toList = [.tmp 2] := rfl
@[go_sem] theorem ok109 : okFn Try.prog 109 = true := by kernel_rfl
@[go_sem] theorem res109 : Try.f109.results.toList = [.tmp 2] := rfl
@[go_sem] theorem ok110 : okFn Try.prog 110 = true := by kernel_rfl
@[go_sem] theorem res110 : Try.f110.results.toList = [] := rfl
@[go_sem] theorem ok111 : okFn Try.prog 111 = true := by kernel_rfl
@[go_sem] theorem res111 : Try.f111.results.toList = [.tmp 4] := rfl
@[go_sem] theorem ok115 : okFn Try.prog 115 = true := by kernel_rfl
@[go_sem] theorem res115 : Try.f115.results.toList = [.tmp 4] := rfl
@[go_sem] theorem ok116 : okFn Try.prog 116 = true := by kernel_rfl
@[go_sem] theorem res116 : Try.f116.results.toList = [.tmp 3] := rfl
@[go_sem] theorem ok117 : okFn Try.prog 117 = true := by kernel_rfl
@[go_sem] theorem res117 : Try.f117.results.toList = [.tmp 6] := rfl
@[go_sem] theorem ok118 : okFn Try.prog 118 = true := by kernel_rfl
@[go_sem] theorem res118 : Try.f118.results.toList = [.tmp 2] := rfl
@[go_sem] theorem ok119 : okFn Try.prog 119 = true := by kernel_rfl
@[go_sem] theorem res119 : Try.f119.results.toList = [.tmp 2] := rfl
@[go_sem] theorem ok120 : okFn Try.prog 120 = true := by kernel_rfl
@[go_sem] theorem res120 : Try.f120.results.toList = [.tmp 2] := rfl
@[go_sem] theorem ok121 : okFn Try.prog 121 = true := by kernel_rfl
@[go_sem] theorem res121 : Try.f121.results.toList = [.tmp 4] := rfl
@[go_sem] theorem ok122 : okFn Try.prog 122 = true := by kernel_rfl
@[go_sem] theorem res122 : Try.f122.results.toList = [] := rfl
@[go_sem] theorem ok123 : okFn Try.prog 123 = true := by kernel_rfl
@[go_sem] theorem res123 : Try.f123.results.toList = [.cell 4 147] := rfl
@[go_sem] theorem ok124 : okFn Try.prog 124 = true := by kernel_rfl
@[go_sem] theorem res124 : Try.f124.results.toList = [.tmp 4] := rfl
@[go_sem] theorem ok125 : okFn Try.prog 125 = true := by kernel_rfl
@[go_sem] theorem res125 : Try.f125.results.toList = [] := rfl
@[go_sem] theorem ok126 : okFn Try.prog 126 = true := by kernel_rfl
@[go_sem] theorem res126 : Try.f126.results.toList = [.tmp 2] := rfl
@[go_sem] theorem ok128 : okFn Try.prog 128 = true := by kernel_rfl
@[go_sem] theorem res128 : Try.f128.results.toList = [.tmp 4] := rfl
@[go_sem] theorem ok129 : okFn Try.prog 129 = true := by kernel_rfl
@[go_sem] theorem res129 : Try.f129.results.toList = [.cell 4 87, .tmp 5] := rfl
@[go_sem] theorem ok130 : okFn Try.prog 130 = true := by kernel_rfl
@[go_sem] theorem res130 : Try.f130.results.toList = [.tmp 3] := rfl
@[go_sem] theorem ok131 : okFn Try.prog 131 = true := by kernel_rfl
@[go_sem] theorem res131 : Try.f131.results.toList = [] := rfl
@[go_sem] theorem ok132 : okFn Try.prog 132 = true := by kernel_rfl
@[go_sem] theorem res132 : Try.f132.results.toList = [] := rfl
@[go_sem] theorem ok133 : okFn Try.prog 133 = true := by kernel_rfl
@[go_sem] theorem res133 : Try.f133.results.toList = [] := rfl
@[go_sem] theorem ok134 : okFn Try.prog 134 = true := by kernel_rfl
@[go_sem] theorem res134 : Try.f134.results.toList = [.tmp 4] := rfl
@[go_sem] theorem ok135 : okFn Try.prog 135 = true := by kernel_rfl
@[go_sem] theorem res135 : Try.f135.results.toList = [] := rfl
@[go_sem] theorem ok136 : okFn Try.prog 136 = true := by kernel_rfl
@[go_sem] theorem res136 : Try.f136.results.toList = [] := rfl
@[go_sem] theorem ok137 : okFn Try.prog 137 = true := by kernel_rfl
@[go_sem] theorem res137 : Try.f137.results.toList = [] := rfl
@[go_sem] theorem ok138 : okFn Try.prog 138 = true := by kernel_rfl
@[go_sem] theorem res138 : Try.f138.results.toList = [.tmp 6, .tmp 7] := rfl
@[go_sem] theorem ok139 : okFn Try.prog 139 = true := by kernel_rfl
@[go_sem] theorem res139 : Try.f139.results.toList = [] := rfl
@[go_sem] theorem ok140 : okFn Try.prog 140 = true := by kernel_rfl
@[go_sem] theorem res140 : Try.f140.results.toList = [.tmp 6] := rfl
@[go_sem] theorem ok141 : okFn Try.prog 141 = true := by kernel_rfl
@[go_sem] theorem res141 : Try.f141.results.toList = [.tmp 4] := rfl
@[go_sem] theorem ok142 : okFn Try.prog 142 = true := by kernel_rfl
@[go_sem] theorem res142 : Try.f142.results.toList = [.tmp 8] := rfl
@[go_sem] theorem ok143 : okFn Try.prog 143 = true := by kernel_rfl
@[go_sem] theorem res143 : Try.f143.results.toList = [.tmp 8, .tmp 9] := rfl
@[go_sem] theorem ok152 : okFn Try.prog 152 = true := by kernel_rfl
@[go_sem] theorem res152 : Try.f152.results.toList = [.tmp 2] := rfl
theorem mixed : Try.prog.follows .mixedOrders = true := by kernel_rfl
end Go.Proofs.Try

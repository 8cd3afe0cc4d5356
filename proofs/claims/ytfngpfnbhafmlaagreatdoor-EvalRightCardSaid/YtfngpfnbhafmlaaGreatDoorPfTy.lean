/- What the run over plain data asks of each type of this seat's program, by program. -/
import Derived.Test.YtfngpfnbhafmlaaGreatDoorMPB
import Derived.Test.YtfngpfnbhafmlaaGreatDoorProg
import Derived.KernelRfl
namespace Go.Proofs.YtfngpfnbhafmlaaGreatDoor
open Go Go.RowKit
theorem sz0 : szB Tryz.prog 0 = some 1 := by kernel_rfl
theorem by0 : byB Tryz.prog 0 = some 0 := by kernel_rfl
theorem ag0 : aggB Tryz.prog 0 = some false := by kernel_rfl
theorem ze0 : zeroB Tryz.prog 0 = some [.x (Value.tuple #[])] := by kernel_rfl
theorem zm0 : zeroM Tryz.prog 0 = some (.x (Value.tuple #[])) := by kernel_rfl
theorem sz1 : szB Tryz.prog 1 = some 1 := by kernel_rfl
theorem by1 : byB Tryz.prog 1 = some 8 := by kernel_rfl
theorem ag1 : aggB Tryz.prog 1 = some false := by kernel_rfl
theorem sz2 : szB Tryz.prog 2 = some 1 := by kernel_rfl
theorem by2 : byB Tryz.prog 2 = some 8 := by kernel_rfl
theorem ag2 : aggB Tryz.prog 2 = some false := by kernel_rfl
theorem ze2 : zeroB Tryz.prog 2 = some [.x (Value.int IntKind.i64 0)] := by kernel_rfl
theorem zm2 : zeroM Tryz.prog 2 = some (.x (Value.int IntKind.i64 0)) := by kernel_rfl
theorem sz3 : szB Tryz.prog 3 = some 1 := by kernel_rfl
theorem by3 : byB Tryz.prog 3 = some 8 := by kernel_rfl
theorem ag3 : aggB Tryz.prog 3 = some false := by kernel_rfl
theorem ze3 : zeroB Tryz.prog 3 = some [.x (Value.int IntKind.i64 0)] := by kernel_rfl
theorem zm3 : zeroM Tryz.prog 3 = some (.x (Value.int IntKind.i64 0)) := by kernel_rfl
theorem sz4 : szB Tryz.prog 4 = some 1 := by kernel_rfl
theorem by4 : byB Tryz.prog 4 = some 1 := by kernel_rfl
theorem ag4 : aggB Tryz.prog 4 = some false := by kernel_rfl
theorem ze4 : zeroB Tryz.prog 4 = some [.x (Value.bool false)] := by kernel_rfl
theorem zm4 : zeroM Tryz.prog 4 = some (.x (Value.bool false)) := by kernel_rfl
theorem sz5 : szB Tryz.prog 5 = some 1 := by kernel_rfl
theorem by5 : byB Tryz.prog 5 = some 1 := by kernel_rfl
theorem ag5 : aggB Tryz.prog 5 = some false := by kernel_rfl
theorem ze5 : zeroB Tryz.prog 5 = some [.x (Value.int IntKind.u8 0)] := by kernel_rfl
theorem zm5 : zeroM Tryz.prog 5 = some (.x (Value.int IntKind.u8 0)) := by kernel_rfl
theorem sz6 : szB Tryz.prog 6 = some 1 := by kernel_rfl
theorem by6 : byB Tryz.prog 6 = some 1 := by kernel_rfl
theorem ag6 : aggB Tryz.prog 6 = some false := by kernel_rfl
theorem ze6 : zeroB Tryz.prog 6 = some [.x (Value.int IntKind.u8 0)] := by kernel_rfl
theorem zm6 : zeroM Tryz.prog 6 = some (.x (Value.int IntKind.u8 0)) := by kernel_rfl
theorem sz7 : szB Tryz.prog 7 = some 4 := by kernel_rfl
theorem by7 : byB Tryz.prog 7 = some 24 := by kernel_rfl
theorem ag7 : aggB Tryz.prog 7 = some true := by kernel_rfl
theorem ze7 : zeroB Tryz.prog 7 = some [.x (Value.int IntKind.i64 0), .x (Value.int IntKind.i64 0), .x (Value.bool false), .x (Value.int IntKind.u8 0)] := by kernel_rfl
theorem zm7 : zeroM Tryz.prog 7 = some (.agg [.x (Value.int IntKind.i64 0), .x (Value.int IntKind.i64 0), .x (Value.bool false), .x (Value.int IntKind.u8 0)]) := by kernel_rfl
theorem sz8 : szB Tryz.prog 8 = some 4 := by kernel_rfl
theorem by8 : byB Tryz.prog 8 = some 24 := by kernel_rfl
theorem ag8 : aggB Tryz.prog 8 = some true := by kernel_rfl
theorem ze8 : zeroB Tryz.prog 8 = some [.x (Value.int IntKind.i64 0), .x (Value.int IntKind.i64 0), .x (Value.bool false), .x (Value.int IntKind.u8 0)] := by kernel_rfl
theorem zm8 : zeroM Tryz.prog 8 = some (.agg [.x (Value.int IntKind.i64 0), .x (Value.int IntKind.i64 0), .x (Value.bool false), .x (Value.int IntKind.u8 0)]) := by kernel_rfl
theorem sz9 : szB Tryz.prog 9 = some 1 := by kernel_rfl
theorem by9 : byB Tryz.prog 9 = some 16 := by kernel_rfl
theorem ag9 : aggB Tryz.prog 9 = some false := by kernel_rfl
theorem ze9 : zeroB Tryz.prog 9 = some [.x (Value.string ⟨#[]⟩)] := by kernel_rfl
theorem zm9 : zeroM Tryz.prog 9 = some (.x (Value.string ⟨#[]⟩)) := by kernel_rfl
theorem sz10 : szB Tryz.prog 10 = some 1 := by kernel_rfl
theorem by10 : byB Tryz.prog 10 = some 16 := by kernel_rfl
theorem ag10 : aggB Tryz.prog 10 = some false := by kernel_rfl
theorem ze10 : zeroB Tryz.prog 10 = some [.x (Value.string ⟨#[]⟩)] := by kernel_rfl
theorem zm10 : zeroM Tryz.prog 10 = some (.x (Value.string ⟨#[]⟩)) := by kernel_rfl
theorem sz12 : szB Tryz.prog 12 = some 1 := by kernel_rfl
theorem by12 : byB Tryz.prog 12 = some 8 := by kernel_rfl
theorem ag12 : aggB Tryz.prog 12 = some false := by kernel_rfl
theorem ze12 : zeroB Tryz.prog 12 = some [.x (Value.int IntKind.u64 0)] := by kernel_rfl
theorem zm12 : zeroM Tryz.prog 12 = some (.x (Value.int IntKind.u64 0)) := by kernel_rfl
theorem sz16 : szB Tryz.prog 16 = some 1 := by kernel_rfl
theorem by16 : byB Tryz.prog 16 = some 8 := by kernel_rfl
theorem ag16 : aggB Tryz.prog 16 = some false := by kernel_rfl
theorem ze16 : zeroB Tryz.prog 16 = some [.x (Value.pointer none)] := by kernel_rfl
theorem zm16 : zeroM Tryz.prog 16 = some (.x (Value.pointer none)) := by kernel_rfl
theorem sz17 : szB Tryz.prog 17 = some 1 := by kernel_rfl
theorem by17 : byB Tryz.prog 17 = some 8 := by kernel_rfl
theorem ag17 : aggB Tryz.prog 17 = some false := by kernel_rfl
theorem ze17 : zeroB Tryz.prog 17 = some [.x (Value.pointer none)] := by kernel_rfl
theorem zm17 : zeroM Tryz.prog 17 = some (.x (Value.pointer none)) := by kernel_rfl
theorem sz20 : szB Tryz.prog 20 = some 1 := by kernel_rfl
theorem by20 : byB Tryz.prog 20 = some 16 := by kernel_rfl
theorem ag20 : aggB Tryz.prog 20 = some false := by kernel_rfl
theorem sz21 : szB Tryz.prog 21 = some 1 := by kernel_rfl
theorem by21 : byB Tryz.prog 21 = some 4 := by kernel_rfl
theorem ag21 : aggB Tryz.prog 21 = some false := by kernel_rfl
theorem ze21 : zeroB Tryz.prog 21 = some [.x (Value.int IntKind.i32 0)] := by kernel_rfl
theorem zm21 : zeroM Tryz.prog 21 = some (.x (Value.int IntKind.i32 0)) := by kernel_rfl
theorem sz22 : szB Tryz.prog 22 = some 3 := by kernel_rfl
theorem by22 : byB Tryz.prog 22 = some 32 := by kernel_rfl
theorem ag22 : aggB Tryz.prog 22 = some true := by kernel_rfl
theorem ze22 : zeroB Tryz.prog 22 = some [.x (Value.int IntKind.i64 0), .x (Value.int IntKind.i64 0), .x (Value.string ⟨#[]⟩)] := by kernel_rfl
theorem zm22 : zeroM Tryz.prog 22 = some (.agg [.x (Value.int IntKind.i64 0), .x (Value.int IntKind.i64 0), .x (Value.string ⟨#[]⟩)]) := by kernel_rfl
theorem sz23 : szB Tryz.prog 23 = some 3 := by kernel_rfl
theorem by23 : byB Tryz.prog 23 = some 32 := by kernel_rfl
theorem ag23 : aggB Tryz.prog 23 = some true := by kernel_rfl
theorem ze23 : zeroB Tryz.prog 23 = some [.x (Value.int IntKind.i64 0), .x (Value.int IntKind.i64 0), .x (Value.string ⟨#[]⟩)] := by kernel_rfl
theorem zm23 : zeroM Tryz.prog 23 = some (.agg [.x (Value.int IntKind.i64 0), .x (Value.int IntKind.i64 0), .x (Value.string ⟨#[]⟩)]) := by kernel_rfl
theorem sz24 : szB Tryz.prog 24 = some 3 := by kernel_rfl
theorem by24 : byB Tryz.prog 24 = some 32 := by kernel_rfl
theorem ag24 : aggB Tryz.prog 24 = some true := by kernel_rfl
theorem ze24 : zeroB Tryz.prog 24 = some [.x (Value.string ⟨#[]⟩), .x (Value.int IntKind.i64 0), .x (Value.int IntKind.i64 0)] := by kernel_rfl
theorem zm24 : zeroM Tryz.prog 24 = some (.agg [.x (Value.string ⟨#[]⟩), .x (Value.int IntKind.i64 0), .x (Value.int IntKind.i64 0)]) := by kernel_rfl
theorem sz25 : szB Tryz.prog 25 = some 3 := by kernel_rfl
theorem by25 : byB Tryz.prog 25 = some 32 := by kernel_rfl
theorem ag25 : aggB Tryz.prog 25 = some true := by kernel_rfl
theorem ze25 : zeroB Tryz.prog 25 = some [.x (Value.string ⟨#[]⟩), .x (Value.int IntKind.i64 0), .x (Value.int IntKind.i64 0)] := by kernel_rfl
theorem zm25 : zeroM Tryz.prog 25 = some (.agg [.x (Value.string ⟨#[]⟩), .x (Value.int IntKind.i64 0), .x (Value.int IntKind.i64 0)]) := by kernel_rfl
theorem sz26 : szB Tryz.prog 26 = some 1 := by kernel_rfl
theorem by26 : byB Tryz.prog 26 = some 24 := by kernel_rfl
theorem ag26 : aggB Tryz.prog 26 = some false := by kernel_rfl
theorem ze26 : zeroB Tryz.prog 26 = some [.sl true 0 [] none] := by kernel_rfl
theorem zm26 : zeroM Tryz.prog 26 = some (.sl true 0 [] none) := by kernel_rfl
theorem sz27 : szB Tryz.prog 27 = some 13 := by kernel_rfl
theorem by27 : byB Tryz.prog 27 = some 160 := by kernel_rfl
theorem ag27 : aggB Tryz.prog 27 = some true := by kernel_rfl
theorem ze27 : zeroB Tryz.prog 27 = some [.x (Value.int IntKind.i64 0), .x (Value.string ⟨#[]⟩), .x (Value.string ⟨#[]⟩), .x (Value.int IntKind.i64 0), .x (Value.int IntKind.i64 0), .x (Value.string ⟨#[]⟩), .x (Value.string ⟨#[]⟩), .x (Value.int IntKind.i64 0), .x (Value.int IntKind.i64 0), .x (Value.string ⟨#[]⟩), .x (Value.int IntKind.i64 0), .x (Value.int IntKind.i64 0), .sl true 0 [] none] := by kernel_rfl
theorem zm27 : zeroM Tryz.prog 27 = some (.agg [.x (Value.int IntKind.i64 0), .x (Value.string ⟨#[]⟩), .x (Value.string ⟨#[]⟩), .x (Value.int IntKind.i64 0), .x (Value.int IntKind.i64 0), .x (Value.string ⟨#[]⟩), .x (Value.string ⟨#[]⟩), .x (Value.int IntKind.i64 0), .x (Value.int IntKind.i64 0), .x (Value.string ⟨#[]⟩), .x (Value.int IntKind.i64 0), .x (Value.int IntKind.i64 0), .sl true 0 [] none]) := by kernel_rfl
theorem sz28 : szB Tryz.prog 28 = some 13 := by kernel_rfl
theorem by28 : byB Tryz.prog 28 = some 160 := by kernel_rfl
theorem ag28 : aggB Tryz.prog 28 = some true := by kernel_rfl
theorem ze28 : zeroB Tryz.prog 28 = some [.x (Value.int IntKind.i64 0), .x (Value.string ⟨#[]⟩), .x (Value.string ⟨#[]⟩), .x (Value.int IntKind.i64 0), .x (Value.int IntKind.i64 0), .x (Value.string ⟨#[]⟩), .x (Value.string ⟨#[]⟩), .x (Value.int IntKind.i64 0), .x (Value.int IntKind.i64 0), .x (Value.string ⟨#[]⟩), .x (Value.int IntKind.i64 0), .x (Value.int IntKind.i64 0), .sl true 0 [] none] := by kernel_rfl
theorem zm28 : zeroM Tryz.prog 28 = some (.agg [.x (Value.int IntKind.i64 0), .x (Value.string ⟨#[]⟩), .x (Value.string ⟨#[]⟩), .x (Value.int IntKind.i64 0), .x (Value.int IntKind.i64 0), .x (Value.string ⟨#[]⟩), .x (Value.string ⟨#[]⟩), .x (Value.int IntKind.i64 0), .x (Value.int IntKind.i64 0), .x (Value.string ⟨#[]⟩), .x (Value.int IntKind.i64 0), .x (Value.int IntKind.i64 0), .sl true 0 [] none]) := by kernel_rfl
theorem sz29 : szB Tryz.prog 29 = some 1 := by kernel_rfl
theorem by29 : byB Tryz.prog 29 = some 24 := by kernel_rfl
theorem ag29 : aggB Tryz.prog 29 = some false := by kernel_rfl
theorem ze29 : zeroB Tryz.prog 29 = some [.sl true 0 [] none] := by kernel_rfl
theorem zm29 : zeroM Tryz.prog 29 = some (.sl true 0 [] none) := by kernel_rfl
theorem sz32 : szB Tryz.prog 32 = some 6 := by kernel_rfl
theorem by32 : byB Tryz.prog 32 = some 64 := by kernel_rfl
theorem ag32 : aggB Tryz.prog 32 = some true := by kernel_rfl
theorem ze32 : zeroB Tryz.prog 32 = some [.x (Value.string ⟨#[]⟩), .x (Value.int IntKind.i64 0), .x (Value.int IntKind.i64 0), .x (Value.int IntKind.i64 0), .x (Value.int IntKind.i64 0), .x (Value.string ⟨#[]⟩)] := by kernel_rfl
theorem zm32 : zeroM Tryz.prog 32 = some (.agg [.x (Value.string ⟨#[]⟩), .x (Value.int IntKind.i64 0), .x (Value.int IntKind.i64 0), .x (Value.int IntKind.i64 0), .x (Value.int IntKind.i64 0), .x (Value.string ⟨#[]⟩)]) := by kernel_rfl
theorem sz33 : szB Tryz.prog 33 = some 6 := by kernel_rfl
theorem by33 : byB Tryz.prog 33 = some 64 := by kernel_rfl
theorem ag33 : aggB Tryz.prog 33 = some true := by kernel_rfl
theorem ze33 : zeroB Tryz.prog 33 = some [.x (Value.string ⟨#[]⟩), .x (Value.int IntKind.i64 0), .x (Value.int IntKind.i64 0), .x (Value.int IntKind.i64 0), .x (Value.int IntKind.i64 0), .x (Value.string ⟨#[]⟩)] := by kernel_rfl
theorem zm33 : zeroM Tryz.prog 33 = some (.agg [.x (Value.string ⟨#[]⟩), .x (Value.int IntKind.i64 0), .x (Value.int IntKind.i64 0), .x (Value.int IntKind.i64 0), .x (Value.int IntKind.i64 0), .x (Value.string ⟨#[]⟩)]) := by kernel_rfl
theorem sz37 : szB Tryz.prog 37 = some 1 := by kernel_rfl
theorem by37 : byB Tryz.prog 37 = some 24 := by kernel_rfl
theorem ag37 : aggB Tryz.prog 37 = some false := by kernel_rfl
theorem ze37 : zeroB Tryz.prog 37 = some [.sl true 0 [] none] := by kernel_rfl
theorem zm37 : zeroM Tryz.prog 37 = some (.sl true 0 [] none) := by kernel_rfl
theorem sz40 : szB Tryz.prog 40 = some 1 := by kernel_rfl
theorem by40 : byB Tryz.prog 40 = some 8 := by kernel_rfl
theorem ag40 : aggB Tryz.prog 40 = some false := by kernel_rfl
theorem sz44 : szB Tryz.prog 44 = some 1 := by kernel_rfl
theorem by44 : byB Tryz.prog 44 = some 8 := by kernel_rfl
theorem ag44 : aggB Tryz.prog 44 = some false := by kernel_rfl
theorem ze44 : zeroB Tryz.prog 44 = some [.x (Value.map none)] := by kernel_rfl
theorem zm44 : zeroM Tryz.prog 44 = some (.x (Value.map none)) := by kernel_rfl
theorem sz50 : szB Tryz.prog 50 = some 6 := by kernel_rfl
theorem by50 : byB Tryz.prog 50 = some 64 := by kernel_rfl
theorem ag50 : aggB Tryz.prog 50 = some true := by kernel_rfl
theorem ze50 : zeroB Tryz.prog 50 = some [.x (Value.string ⟨#[]⟩), .x (Value.int IntKind.i64 0), .x (Value.int IntKind.i64 0), .x (Value.string ⟨#[]⟩), .x (Value.int IntKind.i64 0), .x (Value.int IntKind.i64 0)] := by kernel_rfl
theorem zm50 : zeroM Tryz.prog 50 = some (.agg [.x (Value.string ⟨#[]⟩), .x (Value.int IntKind.i64 0), .x (Value.int IntKind.i64 0), .x (Value.string ⟨#[]⟩), .x (Value.int IntKind.i64 0), .x (Value.int IntKind.i64 0)]) := by kernel_rfl
theorem sz51 : szB Tryz.prog 51 = some 6 := by kernel_rfl
theorem by51 : byB Tryz.prog 51 = some 64 := by kernel_rfl
theorem ag51 : aggB Tryz.prog 51 = some true := by kernel_rfl
theorem ze51 : zeroB Tryz.prog 51 = some [.x (Value.string ⟨#[]⟩), .x (Value.int IntKind.i64 0), .x (Value.int IntKind.i64 0), .x (Value.string ⟨#[]⟩), .x (Value.int IntKind.i64 0), .x (Value.int IntKind.i64 0)] := by kernel_rfl
theorem zm51 : zeroM Tryz.prog 51 = some (.agg [.x (Value.string ⟨#[]⟩), .x (Value.int IntKind.i64 0), .x (Value.int IntKind.i64 0), .x (Value.string ⟨#[]⟩), .x (Value.int IntKind.i64 0), .x (Value.int IntKind.i64 0)]) := by kernel_rfl
theorem sz56 : szB Tryz.prog 56 = some 1 := by kernel_rfl
theorem by56 : byB Tryz.prog 56 = some 24 := by kernel_rfl
theorem ag56 : aggB Tryz.prog 56 = some false := by kernel_rfl
theorem ze56 : zeroB Tryz.prog 56 = some [.sl true 0 [] none] := by kernel_rfl
theorem zm56 : zeroM Tryz.prog 56 = some (.sl true 0 [] none) := by kernel_rfl
theorem sz58 : szB Tryz.prog 58 = some 1 := by kernel_rfl
theorem by58 : byB Tryz.prog 58 = some 0 := by kernel_rfl
theorem ag58 : aggB Tryz.prog 58 = some false := by kernel_rfl
theorem ze58 : zeroB Tryz.prog 58 = some [.x (Value.tuple #[Value.agg #[Value.int IntKind.i64 0, Value.int IntKind.i64 0, Value.string ⟨#[]⟩], Value.bool false])] := by kernel_rfl
theorem zm58 : zeroM Tryz.prog 58 = some (.x (Value.tuple #[Value.agg #[Value.int IntKind.i64 0, Value.int IntKind.i64 0, Value.string ⟨#[]⟩], Value.bool false])) := by kernel_rfl
theorem sz61 : szB Tryz.prog 61 = some 1 := by kernel_rfl
theorem by61 : byB Tryz.prog 61 = some 24 := by kernel_rfl
theorem ag61 : aggB Tryz.prog 61 = some false := by kernel_rfl
theorem ze61 : zeroB Tryz.prog 61 = some [.sl true 0 [] none] := by kernel_rfl
theorem zm61 : zeroM Tryz.prog 61 = some (.sl true 0 [] none) := by kernel_rfl
theorem sz64 : szB Tryz.prog 64 = some 1 := by kernel_rfl
theorem by64 : byB Tryz.prog 64 = some 0 := by kernel_rfl
theorem ag64 : aggB Tryz.prog 64 = some false := by kernel_rfl
theorem ze64 : zeroB Tryz.prog 64 = some [.x (Value.tuple #[Value.int IntKind.i64 0, Value.bool false])] := by kernel_rfl
theorem zm64 : zeroM Tryz.prog 64 = some (.x (Value.tuple #[Value.int IntKind.i64 0, Value.bool false])) := by kernel_rfl
theorem sz65 : szB Tryz.prog 65 = some 1 := by kernel_rfl
theorem by65 : byB Tryz.prog 65 = some 8 := by kernel_rfl
theorem ag65 : aggB Tryz.prog 65 = some false := by kernel_rfl
theorem sz70 : szB Tryz.prog 70 = some 1 := by kernel_rfl
theorem by70 : byB Tryz.prog 70 = some 8 := by kernel_rfl
theorem ag70 : aggB Tryz.prog 70 = some false := by kernel_rfl
theorem sz71 : szB Tryz.prog 71 = some 1 := by kernel_rfl
theorem by71 : byB Tryz.prog 71 = some 8 := by kernel_rfl
theorem ag71 : aggB Tryz.prog 71 = some false := by kernel_rfl
theorem sz72 : szB Tryz.prog 72 = some 1 := by kernel_rfl
theorem by72 : byB Tryz.prog 72 = some 8 := by kernel_rfl
theorem ag72 : aggB Tryz.prog 72 = some false := by kernel_rfl
theorem sz77 : szB Tryz.prog 77 = some 1 := by kernel_rfl
theorem by77 : byB Tryz.prog 77 = some 24 := by kernel_rfl
theorem ag77 : aggB Tryz.prog 77 = some false := by kernel_rfl
theorem ze77 : zeroB Tryz.prog 77 = some [.sl true 0 [] none] := by kernel_rfl
theorem zm77 : zeroM Tryz.prog 77 = some (.sl true 0 [] none) := by kernel_rfl
theorem sz78 : szB Tryz.prog 78 = some 1 := by kernel_rfl
theorem by78 : byB Tryz.prog 78 = some 8 := by kernel_rfl
theorem ag78 : aggB Tryz.prog 78 = some false := by kernel_rfl
theorem ze78 : zeroB Tryz.prog 78 = some [.x (Value.pointer none)] := by kernel_rfl
theorem zm78 : zeroM Tryz.prog 78 = some (.x (Value.pointer none)) := by kernel_rfl
theorem sz79 : szB Tryz.prog 79 = some 1 := by kernel_rfl
theorem by79 : byB Tryz.prog 79 = some 0 := by kernel_rfl
theorem ag79 : aggB Tryz.prog 79 = some false := by kernel_rfl
theorem ze79 : zeroB Tryz.prog 79 = some [.x (Value.tuple #[Value.int IntKind.i64 0, Value.agg #[Value.int IntKind.i64 0, Value.int IntKind.i64 0, Value.string ⟨#[]⟩], Value.bool false])] := by kernel_rfl
theorem zm79 : zeroM Tryz.prog 79 = some (.x (Value.tuple #[Value.int IntKind.i64 0, Value.agg #[Value.int IntKind.i64 0, Value.int IntKind.i64 0, Value.string ⟨#[]⟩], Value.bool false])) := by kernel_rfl
theorem sz87 : szB Tryz.prog 87 = some 1 := by kernel_rfl
theorem by87 : byB Tryz.prog 87 = some 0 := by kernel_rfl
theorem ag87 : aggB Tryz.prog 87 = some false := by kernel_rfl
theorem ze87 : zeroB Tryz.prog 87 = some [.x (Value.tuple #[Value.slice none 0 0, Value.bool false])] := by kernel_rfl
theorem zm87 : zeroM Tryz.prog 87 = some (.x (Value.tuple #[Value.slice none 0 0, Value.bool false])) := by kernel_rfl
theorem sz104 : szB Tryz.prog 104 = some 1 := by kernel_rfl
theorem by104 : byB Tryz.prog 104 = some 8 := by kernel_rfl
theorem ag104 : aggB Tryz.prog 104 = some false := by kernel_rfl
theorem sz116 : szB Tryz.prog 116 = some 8 := by kernel_rfl
theorem by116 : byB Tryz.prog 116 = some 128 := by kernel_rfl
theorem ag116 : aggB Tryz.prog 116 = some true := by kernel_rfl
theorem ze116 : zeroB Tryz.prog 116 = some [.x (Value.string ⟨#[]⟩), .x (Value.string ⟨#[]⟩), .x (Value.string ⟨#[]⟩), .x (Value.string ⟨#[]⟩), .x (Value.string ⟨#[]⟩), .x (Value.string ⟨#[]⟩), .x (Value.string ⟨#[]⟩), .x (Value.string ⟨#[]⟩)] := by kernel_rfl
theorem zm116 : zeroM Tryz.prog 116 = some (.agg [.x (Value.string ⟨#[]⟩), .x (Value.string ⟨#[]⟩), .x (Value.string ⟨#[]⟩), .x (Value.string ⟨#[]⟩), .x (Value.string ⟨#[]⟩), .x (Value.string ⟨#[]⟩), .x (Value.string ⟨#[]⟩), .x (Value.string ⟨#[]⟩)]) := by kernel_rfl
theorem sz117 : szB Tryz.prog 117 = some 1 := by kernel_rfl
theorem by117 : byB Tryz.prog 117 = some 24 := by kernel_rfl
theorem ag117 : aggB Tryz.prog 117 = some false := by kernel_rfl
theorem ze117 : zeroB Tryz.prog 117 = some [.sl true 0 [] none] := by kernel_rfl
theorem zm117 : zeroM Tryz.prog 117 = some (.sl true 0 [] none) := by kernel_rfl
theorem sz119 : szB Tryz.prog 119 = some 1 := by kernel_rfl
theorem by119 : byB Tryz.prog 119 = some 0 := by kernel_rfl
theorem ag119 : aggB Tryz.prog 119 = some false := by kernel_rfl
theorem ze119 : zeroB Tryz.prog 119 = some [.x (Value.tuple #[Value.bool false, Value.agg #[Value.int IntKind.i64 0, Value.int IntKind.i64 0, Value.string ⟨#[]⟩], Value.bool false])] := by kernel_rfl
theorem zm119 : zeroM Tryz.prog 119 = some (.x (Value.tuple #[Value.bool false, Value.agg #[Value.int IntKind.i64 0, Value.int IntKind.i64 0, Value.string ⟨#[]⟩], Value.bool false])) := by kernel_rfl
theorem sz121 : szB Tryz.prog 121 = some 1 := by kernel_rfl
theorem by121 : byB Tryz.prog 121 = some 8 := by kernel_rfl
theorem ag121 : aggB Tryz.prog 121 = some false := by kernel_rfl
theorem ze121 : zeroB Tryz.prog 121 = some [.x (Value.pointer none)] := by kernel_rfl
theorem zm121 : zeroM Tryz.prog 121 = some (.x (Value.pointer none)) := by kernel_rfl
theorem sz122 : szB Tryz.prog 122 = some 2 := by kernel_rfl
theorem by122 : byB Tryz.prog 122 = some 32 := by kernel_rfl
theorem ag122 : aggB Tryz.prog 122 = some true := by kernel_rfl
theorem ze122 : zeroB Tryz.prog 122 = some [.x (Value.pointer none), .sl true 0 [] none] := by kernel_rfl
theorem zm122 : zeroM Tryz.prog 122 = some (.agg [.x (Value.pointer none), .sl true 0 [] none]) := by kernel_rfl
theorem sz123 : szB Tryz.prog 123 = some 2 := by kernel_rfl
theorem by123 : byB Tryz.prog 123 = some 32 := by kernel_rfl
theorem ag123 : aggB Tryz.prog 123 = some true := by kernel_rfl
theorem ze123 : zeroB Tryz.prog 123 = some [.x (Value.pointer none), .sl true 0 [] none] := by kernel_rfl
theorem zm123 : zeroM Tryz.prog 123 = some (.agg [.x (Value.pointer none), .sl true 0 [] none]) := by kernel_rfl
theorem sz124 : szB Tryz.prog 124 = some 1 := by kernel_rfl
theorem by124 : byB Tryz.prog 124 = some 16 := by kernel_rfl
theorem ag124 : aggB Tryz.prog 124 = some false := by kernel_rfl
theorem sz125 : szB Tryz.prog 125 = some 1 := by kernel_rfl
theorem by125 : byB Tryz.prog 125 = some 16 := by kernel_rfl
theorem ag125 : aggB Tryz.prog 125 = some false := by kernel_rfl
theorem sz126 : szB Tryz.prog 126 = some 1 := by kernel_rfl
theorem by126 : byB Tryz.prog 126 = some 0 := by kernel_rfl
theorem ag126 : aggB Tryz.prog 126 = some false := by kernel_rfl
theorem ze126 : zeroB Tryz.prog 126 = some [.x (Value.tuple #[Value.int IntKind.i64 0, Value.nilIface])] := by kernel_rfl
theorem zm126 : zeroM Tryz.prog 126 = some (.x (Value.tuple #[Value.int IntKind.i64 0, Value.nilIface])) := by kernel_rfl
theorem sz129 : szB Tryz.prog 129 = some 1 := by kernel_rfl
theorem by129 : byB Tryz.prog 129 = some 8 := by kernel_rfl
theorem ag129 : aggB Tryz.prog 129 = some false := by kernel_rfl
theorem sz133 : szB Tryz.prog 133 = some 1 := by kernel_rfl
theorem by133 : byB Tryz.prog 133 = some 8 := by kernel_rfl
theorem ag133 : aggB Tryz.prog 133 = some false := by kernel_rfl
theorem ze133 : zeroB Tryz.prog 133 = some [.x (Value.int IntKind.u64 0)] := by kernel_rfl
theorem zm133 : zeroM Tryz.prog 133 = some (.x (Value.int IntKind.u64 0)) := by kernel_rfl
theorem sz135 : szB Tryz.prog 135 = some 1 := by kernel_rfl
theorem by135 : byB Tryz.prog 135 = some 8 := by kernel_rfl
theorem ag135 : aggB Tryz.prog 135 = some false := by kernel_rfl
theorem ze135 : zeroB Tryz.prog 135 = some [.x (Value.pointer none)] := by kernel_rfl
theorem zm135 : zeroM Tryz.prog 135 = some (.x (Value.pointer none)) := by kernel_rfl
theorem sz136 : szB Tryz.prog 136 = some 1 := by kernel_rfl
theorem by136 : byB Tryz.prog 136 = some 8 := by kernel_rfl
theorem ag136 : aggB Tryz.prog 136 = some false := by kernel_rfl
theorem sz139 : szB Tryz.prog 139 = some 1 := by kernel_rfl
theorem by139 : byB Tryz.prog 139 = some 8 := by kernel_rfl
theorem ag139 : aggB Tryz.prog 139 = some false := by kernel_rfl
theorem ze139 : zeroB Tryz.prog 139 = some [.x (Value.int IntKind.u64 0)] := by kernel_rfl
theorem zm139 : zeroM Tryz.prog 139 = some (.x (Value.int IntKind.u64 0)) := by kernel_rfl
theorem sz140 : szB Tryz.prog 140 = some 24 := by kernel_rfl
theorem by140 : byB Tryz.prog 140 = some 24 := by kernel_rfl
theorem ag140 : aggB Tryz.prog 140 = some true := by kernel_rfl
theorem ze140 : zeroB Tryz.prog 140 = some [.x (Value.int IntKind.u8 0), .x (Value.int IntKind.u8 0), .x (Value.int IntKind.u8 0), .x (Value.int IntKind.u8 0), .x (Value.int IntKind.u8 0), .x (Value.int IntKind.u8 0), .x (Value.int IntKind.u8 0), .x (Value.int IntKind.u8 0), .x (Value.int IntKind.u8 0), .x (Value.int IntKind.u8 0), .x (Value.int IntKind.u8 0), .x (Value.int IntKind.u8 0), .x (Value.int IntKind.u8 0), .x (Value.int IntKind.u8 0), .x (Value.int IntKind.u8 0), .x (Value.int IntKind.u8 0), .x (Value.int IntKind.u8 0), .x (Value.int IntKind.u8 0), .x (Value.int IntKind.u8 0), .x (Value.int IntKind.u8 0), .x (Value.int IntKind.u8 0), .x (Value.int IntKind.u8 0), .x (Value.int IntKind.u8 0), .x (Value.int IntKind.u8 0)] := by kernel_rfl
theorem zm140 : zeroM Tryz.prog 140 = some (.agg [.x (Value.int IntKind.u8 0), .x (Value.int IntKind.u8 0), .x (Value.int IntKind.u8 0), .x (Value.int IntKind.u8 0), .x (Value.int IntKind.u8 0), .x (Value.int IntKind.u8 0), .x (Value.int IntKind.u8 0), .x (Value.int IntKind.u8 0), .x (Value.int IntKind.u8 0), .x (Value.int IntKind.u8 0), .x (Value.int IntKind.u8 0), .x (Value.int IntKind.u8 0), .x (Value.int IntKind.u8 0), .x (Value.int IntKind.u8 0), .x (Value.int IntKind.u8 0), .x (Value.int IntKind.u8 0), .x (Value.int IntKind.u8 0), .x (Value.int IntKind.u8 0), .x (Value.int IntKind.u8 0), .x (Value.int IntKind.u8 0), .x (Value.int IntKind.u8 0), .x (Value.int IntKind.u8 0), .x (Value.int IntKind.u8 0), .x (Value.int IntKind.u8 0)]) := by kernel_rfl
theorem sz143 : szB Tryz.prog 143 = some 1 := by kernel_rfl
theorem by143 : byB Tryz.prog 143 = some 0 := by kernel_rfl
theorem ag143 : aggB Tryz.prog 143 = some false := by kernel_rfl
theorem ze143 : zeroB Tryz.prog 143 = some [.x (Value.tuple #[Value.slice none 0 0, Value.string ⟨#[]⟩])] := by kernel_rfl
theorem zm143 : zeroM Tryz.prog 143 = some (.x (Value.tuple #[Value.slice none 0 0, Value.string ⟨#[]⟩])) := by kernel_rfl
theorem sz145 : szB Tryz.prog 145 = some 1 := by kernel_rfl
theorem by145 : byB Tryz.prog 145 = some 4 := by kernel_rfl
theorem ag145 : aggB Tryz.prog 145 = some false := by kernel_rfl
theorem ze145 : zeroB Tryz.prog 145 = some [.x (Value.int IntKind.u32 0)] := by kernel_rfl
theorem zm145 : zeroM Tryz.prog 145 = some (.x (Value.int IntKind.u32 0)) := by kernel_rfl
theorem sz146 : szB Tryz.prog 146 = some 1 := by kernel_rfl
theorem by146 : byB Tryz.prog 146 = some 0 := by kernel_rfl
theorem ag146 : aggB Tryz.prog 146 = some false := by kernel_rfl
theorem ze146 : zeroB Tryz.prog 146 = some [.x (Value.tuple #[Value.int IntKind.u32 0, Value.int IntKind.u32 0])] := by kernel_rfl
theorem zm146 : zeroM Tryz.prog 146 = some (.x (Value.tuple #[Value.int IntKind.u32 0, Value.int IntKind.u32 0])) := by kernel_rfl
theorem sz149 : szB Tryz.prog 149 = some 20 := by kernel_rfl
theorem by149 : byB Tryz.prog 149 = some 160 := by kernel_rfl
theorem ag149 : aggB Tryz.prog 149 = some true := by kernel_rfl
theorem ze149 : zeroB Tryz.prog 149 = some [.x (Value.int IntKind.u64 0), .x (Value.int IntKind.u64 0), .x (Value.int IntKind.u64 0), .x (Value.int IntKind.u64 0), .x (Value.int IntKind.u64 0), .x (Value.int IntKind.u64 0), .x (Value.int IntKind.u64 0), .x (Value.int IntKind.u64 0), .x (Value.int IntKind.u64 0), .x (Value.int IntKind.u64 0), .x (Value.int IntKind.u64 0), .x (Value.int IntKind.u64 0), .x (Value.int IntKind.u64 0), .x (Value.int IntKind.u64 0), .x (Value.int IntKind.u64 0), .x (Value.int IntKind.u64 0), .x (Value.int IntKind.u64 0), .x (Value.int IntKind.u64 0), .x (Value.int IntKind.u64 0), .x (Value.int IntKind.u64 0)] := by kernel_rfl
theorem zm149 : zeroM Tryz.prog 149 = some (.agg [.x (Value.int IntKind.u64 0), .x (Value.int IntKind.u64 0), .x (Value.int IntKind.u64 0), .x (Value.int IntKind.u64 0), .x (Value.int IntKind.u64 0), .x (Value.int IntKind.u64 0), .x (Value.int IntKind.u64 0), .x (Value.int IntKind.u64 0), .x (Value.int IntKind.u64 0), .x (Value.int IntKind.u64 0), .x (Value.int IntKind.u64 0), .x (Value.int IntKind.u64 0), .x (Value.int IntKind.u64 0), .x (Value.int IntKind.u64 0), .x (Value.int IntKind.u64 0), .x (Value.int IntKind.u64 0), .x (Value.int IntKind.u64 0), .x (Value.int IntKind.u64 0), .x (Value.int IntKind.u64 0), .x (Value.int IntKind.u64 0)]) := by kernel_rfl
theorem sz150 : szB Tryz.prog 150 = some 65 := by kernel_rfl
theorem by150 : byB Tryz.prog 150 = some 65 := by kernel_rfl
theorem ag150 : aggB Tryz.prog 150 = some true := by kernel_rfl
theorem sz153 : szB Tryz.prog 153 = some 32 := by kernel_rfl
theorem by153 : byB Tryz.prog 153 = some 32 := by kernel_rfl
theorem ag153 : aggB Tryz.prog 153 = some true := by kernel_rfl
theorem ze153 : zeroB Tryz.prog 153 = some [.x (Value.int IntKind.u8 0), .x (Value.int IntKind.u8 0), .x (Value.int IntKind.u8 0), .x (Value.int IntKind.u8 0), .x (Value.int IntKind.u8 0), .x (Value.int IntKind.u8 0), .x (Value.int IntKind.u8 0), .x (Value.int IntKind.u8 0), .x (Value.int IntKind.u8 0), .x (Value.int IntKind.u8 0), .x (Value.int IntKind.u8 0), .x (Value.int IntKind.u8 0), .x (Value.int IntKind.u8 0), .x (Value.int IntKind.u8 0), .x (Value.int IntKind.u8 0), .x (Value.int IntKind.u8 0), .x (Value.int IntKind.u8 0), .x (Value.int IntKind.u8 0), .x (Value.int IntKind.u8 0), .x (Value.int IntKind.u8 0), .x (Value.int IntKind.u8 0), .x (Value.int IntKind.u8 0), .x (Value.int IntKind.u8 0), .x (Value.int IntKind.u8 0), .x (Value.int IntKind.u8 0), .x (Value.int IntKind.u8 0), .x (Value.int IntKind.u8 0), .x (Value.int IntKind.u8 0), .x (Value.int IntKind.u8 0), .x (Value.int IntKind.u8 0), .x (Value.int IntKind.u8 0), .x (Value.int IntKind.u8 0)] := by kernel_rfl
theorem zm153 : zeroM Tryz.prog 153 = some (.agg [.x (Value.int IntKind.u8 0), .x (Value.int IntKind.u8 0), .x (Value.int IntKind.u8 0), .x (Value.int IntKind.u8 0), .x (Value.int IntKind.u8 0), .x (Value.int IntKind.u8 0), .x (Value.int IntKind.u8 0), .x (Value.int IntKind.u8 0), .x (Value.int IntKind.u8 0), .x (Value.int IntKind.u8 0), .x (Value.int IntKind.u8 0), .x (Value.int IntKind.u8 0), .x (Value.int IntKind.u8 0), .x (Value.int IntKind.u8 0), .x (Value.int IntKind.u8 0), .x (Value.int IntKind.u8 0), .x (Value.int IntKind.u8 0), .x (Value.int IntKind.u8 0), .x (Value.int IntKind.u8 0), .x (Value.int IntKind.u8 0), .x (Value.int IntKind.u8 0), .x (Value.int IntKind.u8 0), .x (Value.int IntKind.u8 0), .x (Value.int IntKind.u8 0), .x (Value.int IntKind.u8 0), .x (Value.int IntKind.u8 0), .x (Value.int IntKind.u8 0), .x (Value.int IntKind.u8 0), .x (Value.int IntKind.u8 0), .x (Value.int IntKind.u8 0), .x (Value.int IntKind.u8 0), .x (Value.int IntKind.u8 0)]) := by kernel_rfl
theorem sz154 : szB Tryz.prog 154 = some 64 := by kernel_rfl
theorem by154 : byB Tryz.prog 154 = some 64 := by kernel_rfl
theorem ag154 : aggB Tryz.prog 154 = some true := by kernel_rfl
theorem ze154 : zeroB Tryz.prog 154 = some [.x (Value.int IntKind.u8 0), .x (Value.int IntKind.u8 0), .x (Value.int IntKind.u8 0), .x (Value.int IntKind.u8 0), .x (Value.int IntKind.u8 0), .x (Value.int IntKind.u8 0), .x (Value.int IntKind.u8 0), .x (Value.int IntKind.u8 0), .x (Value.int IntKind.u8 0), .x (Value.int IntKind.u8 0), .x (Value.int IntKind.u8 0), .x (Value.int IntKind.u8 0), .x (Value.int IntKind.u8 0), .x (Value.int IntKind.u8 0), .x (Value.int IntKind.u8 0), .x (Value.int IntKind.u8 0), .x (Value.int IntKind.u8 0), .x (Value.int IntKind.u8 0), .x (Value.int IntKind.u8 0), .x (Value.int IntKind.u8 0), .x (Value.int IntKind.u8 0), .x (Value.int IntKind.u8 0), .x (Value.int IntKind.u8 0), .x (Value.int IntKind.u8 0), .x (Value.int IntKind.u8 0), .x (Value.int IntKind.u8 0), .x (Value.int IntKind.u8 0), .x (Value.int IntKind.u8 0), .x (Value.int IntKind.u8 0), .x (Value.int IntKind.u8 0), .x (Value.int IntKind.u8 0), .x (Value.int IntKind.u8 0), .x (Value.int IntKind.u8 0), .x (Value.int IntKind.u8 0), .x (Value.int IntKind.u8 0), .x (Value.int IntKind.u8 0), .x (Value.int IntKind.u8 0), .x (Value.int IntKind.u8 0), .x (Value.int IntKind.u8 0), .x (Value.int IntKind.u8 0), .x (Value.int IntKind.u8 0), .x (Value.int IntKind.u8 0), .x (Value.int IntKind.u8 0), .x (Value.int IntKind.u8 0), .x (Value.int IntKind.u8 0), .x (Value.int IntKind.u8 0), .x (Value.int IntKind.u8 0), .x (Value.int IntKind.u8 0), .x (Value.int IntKind.u8 0), .x (Value.int IntKind.u8 0), .x (Value.int IntKind.u8 0), .x (Value.int IntKind.u8 0), .x (Value.int IntKind.u8 0), .x (Value.int IntKind.u8 0), .x (Value.int IntKind.u8 0), .x (Value.int IntKind.u8 0), .x (Value.int IntKind.u8 0), .x (Value.int IntKind.u8 0), .x (Value.int IntKind.u8 0), .x (Value.int IntKind.u8 0), .x (Value.int IntKind.u8 0), .x (Value.int IntKind.u8 0), .x (Value.int IntKind.u8 0), .x (Value.int IntKind.u8 0)] := by kernel_rfl
theorem zm154 : zeroM Tryz.prog 154 = some (.agg [.x (Value.int IntKind.u8 0), .x (Value.int IntKind.u8 0), .x (Value.int IntKind.u8 0), .x (Value.int IntKind.u8 0), .x (Value.int IntKind.u8 0), .x (Value.int IntKind.u8 0), .x (Value.int IntKind.u8 0), .x (Value.int IntKind.u8 0), .x (Value.int IntKind.u8 0), .x (Value.int IntKind.u8 0), .x (Value.int IntKind.u8 0), .x (Value.int IntKind.u8 0), .x (Value.int IntKind.u8 0), .x (Value.int IntKind.u8 0), .x (Value.int IntKind.u8 0), .x (Value.int IntKind.u8 0), .x (Value.int IntKind.u8 0), .x (Value.int IntKind.u8 0), .x (Value.int IntKind.u8 0), .x (Value.int IntKind.u8 0), .x (Value.int IntKind.u8 0), .x (Value.int IntKind.u8 0), .x (Value.int IntKind.u8 0), .x (Value.int IntKind.u8 0), .x (Value.int IntKind.u8 0), .x (Value.int IntKind.u8 0), .x (Value.int IntKind.u8 0), .x (Value.int IntKind.u8 0), .x (Value.int IntKind.u8 0), .x (Value.int IntKind.u8 0), .x (Value.int IntKind.u8 0), .x (Value.int IntKind.u8 0), .x (Value.int IntKind.u8 0), .x (Value.int IntKind.u8 0), .x (Value.int IntKind.u8 0), .x (Value.int IntKind.u8 0), .x (Value.int IntKind.u8 0), .x (Value.int IntKind.u8 0), .x (Value.int IntKind.u8 0), .x (Value.int IntKind.u8 0), .x (Value.int IntKind.u8 0), .x (Value.int IntKind.u8 0), .x (Value.int IntKind.u8 0), .x (Value.int IntKind.u8 0), .x (Value.int IntKind.u8 0), .x (Value.int IntKind.u8 0), .x (Value.int IntKind.u8 0), .x (Value.int IntKind.u8 0), .x (Value.int IntKind.u8 0), .x (Value.int IntKind.u8 0), .x (Value.int IntKind.u8 0), .x (Value.int IntKind.u8 0), .x (Value.int IntKind.u8 0), .x (Value.int IntKind.u8 0), .x (Value.int IntKind.u8 0), .x (Value.int IntKind.u8 0), .x (Value.int IntKind.u8 0), .x (Value.int IntKind.u8 0), .x (Value.int IntKind.u8 0), .x (Value.int IntKind.u8 0), .x (Value.int IntKind.u8 0), .x (Value.int IntKind.u8 0), .x (Value.int IntKind.u8 0), .x (Value.int IntKind.u8 0)]) := by kernel_rfl
theorem sz157 : szB Tryz.prog 157 = some 0 := by kernel_rfl
theorem by157 : byB Tryz.prog 157 = some 0 := by kernel_rfl
theorem ag157 : aggB Tryz.prog 157 = some true := by kernel_rfl
theorem ze157 : zeroB Tryz.prog 157 = some [] := by kernel_rfl
theorem zm157 : zeroM Tryz.prog 157 = some (.agg []) := by kernel_rfl
theorem sz158 : szB Tryz.prog 158 = some 0 := by kernel_rfl
theorem by158 : byB Tryz.prog 158 = some 0 := by kernel_rfl
theorem ag158 : aggB Tryz.prog 158 = some true := by kernel_rfl
theorem ze158 : zeroB Tryz.prog 158 = some [] := by kernel_rfl
theorem zm158 : zeroM Tryz.prog 158 = some (.agg []) := by kernel_rfl
theorem sz159 : szB Tryz.prog 159 = some 0 := by kernel_rfl
theorem by159 : byB Tryz.prog 159 = some 0 := by kernel_rfl
theorem ag159 : aggB Tryz.prog 159 = some true := by kernel_rfl
theorem ze159 : zeroB Tryz.prog 159 = some [] := by kernel_rfl
theorem zm159 : zeroM Tryz.prog 159 = some (.agg []) := by kernel_rfl
theorem sz160 : szB Tryz.prog 160 = some 1 := by kernel_rfl
theorem by160 : byB Tryz.prog 160 = some 1 := by kernel_rfl
theorem ag160 : aggB Tryz.prog 160 = some false := by kernel_rfl
theorem ze160 : zeroB Tryz.prog 160 = some [.x (Value.int IntKind.u8 0)] := by kernel_rfl
theorem zm160 : zeroM Tryz.prog 160 = some (.x (Value.int IntKind.u8 0)) := by kernel_rfl
theorem sz161 : szB Tryz.prog 161 = some 1 := by kernel_rfl
theorem by161 : byB Tryz.prog 161 = some 1 := by kernel_rfl
theorem ag161 : aggB Tryz.prog 161 = some false := by kernel_rfl
theorem ze161 : zeroB Tryz.prog 161 = some [.x (Value.int IntKind.u8 0)] := by kernel_rfl
theorem zm161 : zeroM Tryz.prog 161 = some (.x (Value.int IntKind.u8 0)) := by kernel_rfl
theorem sz162 : szB Tryz.prog 162 = some 1 := by kernel_rfl
theorem by162 : byB Tryz.prog 162 = some 8 := by kernel_rfl
theorem ag162 : aggB Tryz.prog 162 = some false := by kernel_rfl
theorem sz163 : szB Tryz.prog 163 = some 1 := by kernel_rfl
theorem by163 : byB Tryz.prog 163 = some 4 := by kernel_rfl
theorem ag163 : aggB Tryz.prog 163 = some false := by kernel_rfl
theorem ze163 : zeroB Tryz.prog 163 = some [.x (Value.int IntKind.i32 0)] := by kernel_rfl
theorem zm163 : zeroM Tryz.prog 163 = some (.x (Value.int IntKind.i32 0)) := by kernel_rfl
theorem sz164 : szB Tryz.prog 164 = some 1 := by kernel_rfl
theorem by164 : byB Tryz.prog 164 = some 4 := by kernel_rfl
theorem ag164 : aggB Tryz.prog 164 = some false := by kernel_rfl
theorem ze164 : zeroB Tryz.prog 164 = some [.x (Value.int IntKind.i32 0)] := by kernel_rfl
theorem zm164 : zeroM Tryz.prog 164 = some (.x (Value.int IntKind.i32 0)) := by kernel_rfl
theorem sz165 : szB Tryz.prog 165 = some 11 := by kernel_rfl
theorem by165 : byB Tryz.prog 165 = some 48 := by kernel_rfl
theorem ag165 : aggB Tryz.prog 165 = some true := by kernel_rfl
theorem ze165 : zeroB Tryz.prog 165 = some [.x (Value.int IntKind.u64 0), .x (Value.int IntKind.u64 0), .x (Value.int IntKind.u32 0), .x (Value.int IntKind.u8 0), .x (Value.int IntKind.u8 0), .x (Value.int IntKind.u8 0), .x (Value.int IntKind.u8 0), .x (Value.nilFunc), .x (Value.pointer none), .x (Value.int IntKind.i32 0), .x (Value.int IntKind.i32 0)] := by kernel_rfl
theorem zm165 : zeroM Tryz.prog 165 = some (.agg [.x (Value.int IntKind.u64 0), .x (Value.int IntKind.u64 0), .x (Value.int IntKind.u32 0), .x (Value.int IntKind.u8 0), .x (Value.int IntKind.u8 0), .x (Value.int IntKind.u8 0), .x (Value.int IntKind.u8 0), .x (Value.nilFunc), .x (Value.pointer none), .x (Value.int IntKind.i32 0), .x (Value.int IntKind.i32 0)]) := by kernel_rfl
theorem sz166 : szB Tryz.prog 166 = some 11 := by kernel_rfl
theorem by166 : byB Tryz.prog 166 = some 48 := by kernel_rfl
theorem ag166 : aggB Tryz.prog 166 = some true := by kernel_rfl
theorem ze166 : zeroB Tryz.prog 166 = some [.x (Value.int IntKind.u64 0), .x (Value.int IntKind.u64 0), .x (Value.int IntKind.u32 0), .x (Value.int IntKind.u8 0), .x (Value.int IntKind.u8 0), .x (Value.int IntKind.u8 0), .x (Value.int IntKind.u8 0), .x (Value.nilFunc), .x (Value.pointer none), .x (Value.int IntKind.i32 0), .x (Value.int IntKind.i32 0)] := by kernel_rfl
theorem zm166 : zeroM Tryz.prog 166 = some (.agg [.x (Value.int IntKind.u64 0), .x (Value.int IntKind.u64 0), .x (Value.int IntKind.u32 0), .x (Value.int IntKind.u8 0), .x (Value.int IntKind.u8 0), .x (Value.int IntKind.u8 0), .x (Value.int IntKind.u8 0), .x (Value.nilFunc), .x (Value.pointer none), .x (Value.int IntKind.i32 0), .x (Value.int IntKind.i32 0)]) := by kernel_rfl
attribute [go_sem] sz0 by0 sz1 by1 sz2 by2 sz3 by3 sz4 by4 sz5 by5 sz6 by6 sz7 by7 sz8 by8 sz9 by9 sz10 by10 sz12 by12 sz16 by16 sz17 by17 sz20 by20 sz21 by21 sz22 by22 sz23 by23 sz24 by24 sz25 by25 sz26 by26 sz27 by27 sz28 by28 sz29 by29 sz32 by32 sz33 by33 sz37 by37 sz40 by40 sz44 by44 sz50 by50 sz51 by51 sz56 by56 sz58 by58 sz61 by61 sz64 by64 sz65 by65 sz70 by70 sz71 by71 sz72 by72 sz77 by77 sz78 by78 sz79 by79 sz87 by87 sz104 by104 sz116 by116 sz117 by117 sz119 by119 sz121 by121 sz122 by122 sz123 by123 sz124 by124 sz125 by125 sz126 by126 sz129 by129 sz133 by133 sz135 by135 sz136 by136 sz139 by139 sz140 by140 sz143 by143 sz145 by145 sz146 by146 sz149 by149 sz150 by150 sz153 by153 sz154 by154 sz157 by157 sz158 by158 sz159 by159 sz160 by160 sz161 by161 sz162 by162 sz163 by163 sz164 by164 sz165 by165 sz166 by166 ag0 ag1 ag2 ag3 ag4 ag5 ag6 ag7 ag8 ag9 ag10 ag12 ag16 ag17 ag20 ag21 ag22 ag23 ag24 ag25 ag26 ag27 ag28 ag29 ag32 ag33 ag37 ag40 ag44 ag50 ag51 ag56 ag58 ag61 ag64 ag65 ag70 ag71 ag72 ag77 ag78 ag79 ag87 ag104 ag116 ag117 ag119 ag121 ag122 ag123 ag124 ag125 ag126 ag129 ag133 ag135 ag136 ag139 ag140 ag143 ag145 ag146 ag149 ag150 ag153 ag154 ag157 ag158 ag159 ag160 ag161 ag162 ag163 ag164 ag165 ag166 ze0 zm0 ze2 zm2 ze3 zm3 ze4 zm4 ze5 zm5 ze6 zm6 ze7 zm7 ze8 zm8 ze9 zm9 ze10 zm10 ze12 zm12 ze16 zm16 ze17 zm17 ze21 zm21 ze22 zm22 ze23 zm23 ze24 zm24 ze25 zm25 ze26 zm26 ze27 zm27 ze28 zm28 ze29 zm29 ze32 zm32 ze33 zm33 ze37 zm37 ze44 zm44 ze50 zm50 ze51 zm51 ze56 zm56 ze58 zm58 ze61 zm61 ze64 zm64 ze77 zm77 ze78 zm78 ze79 zm79 ze87 zm87 ze116 zm116 ze117 zm117 ze119 zm119 ze121 zm121 ze122 zm122 ze123 zm123 ze126 zm126 ze133 zm133 ze135 zm135 ze139 zm139 ze140 zm140 ze143 zm143 ze145 zm145 ze146 zm146 ze149 zm149 ze153 zm153 ze154 zm154 ze157 zm157 ze158 zm158 ze159 zm159 ze160 zm160 ze161 zm161 ze163 zm163 ze164 zm164 ze165 zm165 ze166 zm166 Tryz.underlying0 Tryz.underlying1 Tryz.underlying2 Tryz.underlying3 Tryz.underlying4 Tryz.underlying5 Tryz.underlying6 Tryz.underlying7 Tryz.eqGuardType7 Tryz.stoodInHeld7 Tryz.underlying8 Tryz.eqGuardType8 Tryz.stoodInHeld8 Tryz.underlying9 Tryz.underlying10 Tryz.underlying12 Tryz.underlying16 Tryz.underlying17 Tryz.underlying20 Tryz.underlying21 Tryz.underlying22 Tryz.eqGuardType22 Tryz.stoodInHeld22 Tryz.underlying23 Tryz.eqGuardType23 Tryz.stoodInHeld23 Tryz.underlying24 Tryz.eqGuardType24 Tryz.stoodInHeld24 Tryz.underlying25 Tryz.eqGuardType25 Tryz.stoodInHeld25 Tryz.underlying26 Tryz.underlying27 Tryz.eqGuardType27 Tryz.stoodInHeld27 Tryz.underlying28 Tryz.eqGuardType28 Tryz.stoodInHeld28 Tryz.underlying29 Tryz.underlying32 Tryz.eqGuardType32 Tryz.stoodInHeld32 Tryz.underlying33 Tryz.eqGuardType33 Tryz.stoodInHeld33 Tryz.underlying37 Tryz.underlying40 Tryz.underlying44 Tryz.underlying50 Tryz.eqGuardType50 Tryz.stoodInHeld50 Tryz.underlying51 Tryz.eqGuardType51 Tryz.stoodInHeld51 Tryz.underlying56 Tryz.underlying58 Tryz.underlying61 Tryz.underlying64 Tryz.underlying65 Tryz.underlying70 Tryz.underlying71 Tryz.underlying72 Tryz.underlying77 Tryz.underlying78 Tryz.underlying79 Tryz.underlying87 Tryz.underlying104 Tryz.underlying116 Tryz.eqGuardType116 Tryz.underlying117 Tryz.underlying119 Tryz.underlying121 Tryz.underlying122 Tryz.eqGuardType122 Tryz.stoodInHeld122 Tryz.underlying123 Tryz.eqGuardType123 Tryz.stoodInHeld123 Tryz.underlying124 Tryz.underlying125 Tryz.underlying126 Tryz.underlying129 Tryz.underlying133 Tryz.underlying135 Tryz.underlying136 Tryz.underlying139 Tryz.underlying140 Tryz.eqGuardType140 Tryz.underlying143 Tryz.underlying145 Tryz.underlying146 Tryz.underlying149 Tryz.eqGuardType149 Tryz.underlying150 Tryz.eqGuardType150 Tryz.underlying153 Tryz.eqGuardType153 Tryz.underlying154 Tryz.eqGuardType154 Tryz.underlying157 Tryz.eqGuardType157 Tryz.underlying158 Tryz.eqGuardType158 Tryz.stoodInHeld158 Tryz.underlying159 Tryz.eqGuardType159 Tryz.stoodInHeld159 Tryz.underlying160 Tryz.underlying161 Tryz.underlying162 Tryz.underlying163 Tryz.underlying164 Tryz.underlying165 Tryz.eqGuardType165 Tryz.stoodInHeld165 Tryz.underlying166 Tryz.eqGuardType166 Tryz.stoodInHeld166
end Go.Proofs.YtfngpfnbhafmlaaGreatDoor

/- What the run over plain data asks of each type of this seat's program, by program. -/
import Derived.Test.YtiphliochoengaaMPB
import Derived.Test.YtiphliochoengaaProg
import Derived.KernelRfl
namespace Go.Proofs.Ytiphliochoengaa
open Go Go.RowKit
theorem sz0 : szB Try.prog 0 = some 1 := by kernel_rfl
theorem by0 : byB Try.prog 0 = some 0 := by kernel_rfl
theorem ag0 : aggB Try.prog 0 = some false := by kernel_rfl
theorem ze0 : zeroB Try.prog 0 = some [.x (Value.tuple #[])] := by kernel_rfl
theorem zm0 : zeroM Try.prog 0 = some (.x (Value.tuple #[])) := by kernel_rfl
theorem sz1 : szB Try.prog 1 = some 1 := by kernel_rfl
theorem by1 : byB Try.prog 1 = some 8 := by kernel_rfl
theorem ag1 : aggB Try.prog 1 = some false := by kernel_rfl
theorem sz2 : szB Try.prog 2 = some 1 := by kernel_rfl
theorem by2 : byB Try.prog 2 = some 8 := by kernel_rfl
theorem ag2 : aggB Try.prog 2 = some false := by kernel_rfl
theorem ze2 : zeroB Try.prog 2 = some [.x (Value.int IntKind.i64 0)] := by kernel_rfl
theorem zm2 : zeroM Try.prog 2 = some (.x (Value.int IntKind.i64 0)) := by kernel_rfl
theorem sz3 : szB Try.prog 3 = some 1 := by kernel_rfl
theorem by3 : byB Try.prog 3 = some 8 := by kernel_rfl
theorem ag3 : aggB Try.prog 3 = some false := by kernel_rfl
theorem ze3 : zeroB Try.prog 3 = some [.x (Value.int IntKind.i64 0)] := by kernel_rfl
theorem zm3 : zeroM Try.prog 3 = some (.x (Value.int IntKind.i64 0)) := by kernel_rfl
theorem sz4 : szB Try.prog 4 = some 1 := by kernel_rfl
theorem by4 : byB Try.prog 4 = some 1 := by kernel_rfl
theorem ag4 : aggB Try.prog 4 = some false := by kernel_rfl
theorem ze4 : zeroB Try.prog 4 = some [.x (Value.bool false)] := by kernel_rfl
theorem zm4 : zeroM Try.prog 4 = some (.x (Value.bool false)) := by kernel_rfl
theorem sz5 : szB Try.prog 5 = some 1 := by kernel_rfl
theorem by5 : byB Try.prog 5 = some 1 := by kernel_rfl
theorem ag5 : aggB Try.prog 5 = some false := by kernel_rfl
theorem ze5 : zeroB Try.prog 5 = some [.x (Value.int IntKind.u8 0)] := by kernel_rfl
theorem zm5 : zeroM Try.prog 5 = some (.x (Value.int IntKind.u8 0)) := by kernel_rfl
theorem sz6 : szB Try.prog 6 = some 1 := by kernel_rfl
theorem by6 : byB Try.prog 6 = some 1 := by kernel_rfl
theorem ag6 : aggB Try.prog 6 = some false := by kernel_rfl
theorem ze6 : zeroB Try.prog 6 = some [.x (Value.int IntKind.u8 0)] := by kernel_rfl
theorem zm6 : zeroM Try.prog 6 = some (.x (Value.int IntKind.u8 0)) := by kernel_rfl
theorem sz7 : szB Try.prog 7 = some 4 := by kernel_rfl
theorem by7 : byB Try.prog 7 = some 24 := by kernel_rfl
theorem ag7 : aggB Try.prog 7 = some true := by kernel_rfl
theorem ze7 : zeroB Try.prog 7 = some [.x (Value.int IntKind.i64 0), .x (Value.int IntKind.i64 0), .x (Value.bool false), .x (Value.int IntKind.u8 0)] := by kernel_rfl
theorem zm7 : zeroM Try.prog 7 = some (.agg [.x (Value.int IntKind.i64 0), .x (Value.int IntKind.i64 0), .x (Value.bool false), .x (Value.int IntKind.u8 0)]) := by kernel_rfl
theorem sz8 : szB Try.prog 8 = some 4 := by kernel_rfl
theorem by8 : byB Try.prog 8 = some 24 := by kernel_rfl
theorem ag8 : aggB Try.prog 8 = some true := by kernel_rfl
theorem ze8 : zeroB Try.prog 8 = some [.x (Value.int IntKind.i64 0), .x (Value.int IntKind.i64 0), .x (Value.bool false), .x (Value.int IntKind.u8 0)] := by kernel_rfl
theorem zm8 : zeroM Try.prog 8 = some (.agg [.x (Value.int IntKind.i64 0), .x (Value.int IntKind.i64 0), .x (Value.bool false), .x (Value.int IntKind.u8 0)]) := by kernel_rfl
theorem sz9 : szB Try.prog 9 = some 1 := by kernel_rfl
theorem by9 : byB Try.prog 9 = some 16 := by kernel_rfl
theorem ag9 : aggB Try.prog 9 = some false := by kernel_rfl
theorem ze9 : zeroB Try.prog 9 = some [.x (Value.string ⟨#[]⟩)] := by kernel_rfl
theorem zm9 : zeroM Try.prog 9 = some (.x (Value.string ⟨#[]⟩)) := by kernel_rfl
theorem sz10 : szB Try.prog 10 = some 1 := by kernel_rfl
theorem by10 : byB Try.prog 10 = some 16 := by kernel_rfl
theorem ag10 : aggB Try.prog 10 = some false := by kernel_rfl
theorem ze10 : zeroB Try.prog 10 = some [.x (Value.string ⟨#[]⟩)] := by kernel_rfl
theorem zm10 : zeroM Try.prog 10 = some (.x (Value.string ⟨#[]⟩)) := by kernel_rfl
theorem sz11 : szB Try.prog 11 = some 1 := by kernel_rfl
theorem by11 : byB Try.prog 11 = some 16 := by kernel_rfl
theorem ag11 : aggB Try.prog 11 = some false := by kernel_rfl
theorem ze11 : zeroB Try.prog 11 = some [.x (Value.string ⟨#[]⟩)] := by kernel_rfl
theorem zm11 : zeroM Try.prog 11 = some (.x (Value.string ⟨#[]⟩)) := by kernel_rfl
theorem sz12 : szB Try.prog 12 = some 1 := by kernel_rfl
theorem by12 : byB Try.prog 12 = some 8 := by kernel_rfl
theorem ag12 : aggB Try.prog 12 = some false := by kernel_rfl
theorem ze12 : zeroB Try.prog 12 = some [.x (Value.int IntKind.u64 0)] := by kernel_rfl
theorem zm12 : zeroM Try.prog 12 = some (.x (Value.int IntKind.u64 0)) := by kernel_rfl
theorem sz13 : szB Try.prog 13 = some 2 := by kernel_rfl
theorem by13 : byB Try.prog 13 = some 24 := by kernel_rfl
theorem ag13 : aggB Try.prog 13 = some true := by kernel_rfl
theorem ze13 : zeroB Try.prog 13 = some [.x (Value.string ⟨#[]⟩), .x (Value.int IntKind.u64 0)] := by kernel_rfl
theorem zm13 : zeroM Try.prog 13 = some (.agg [.x (Value.string ⟨#[]⟩), .x (Value.int IntKind.u64 0)]) := by kernel_rfl
theorem sz14 : szB Try.prog 14 = some 2 := by kernel_rfl
theorem by14 : byB Try.prog 14 = some 24 := by kernel_rfl
theorem ag14 : aggB Try.prog 14 = some true := by kernel_rfl
theorem ze14 : zeroB Try.prog 14 = some [.x (Value.string ⟨#[]⟩), .x (Value.int IntKind.u64 0)] := by kernel_rfl
theorem zm14 : zeroM Try.prog 14 = some (.agg [.x (Value.string ⟨#[]⟩), .x (Value.int IntKind.u64 0)]) := by kernel_rfl
theorem sz15 : szB Try.prog 15 = some 1 := by kernel_rfl
theorem by15 : byB Try.prog 15 = some 8 := by kernel_rfl
theorem ag15 : aggB Try.prog 15 = some false := by kernel_rfl
theorem ze15 : zeroB Try.prog 15 = some [.x (Value.pointer none)] := by kernel_rfl
theorem zm15 : zeroM Try.prog 15 = some (.x (Value.pointer none)) := by kernel_rfl
theorem sz16 : szB Try.prog 16 = some 1 := by kernel_rfl
theorem by16 : byB Try.prog 16 = some 8 := by kernel_rfl
theorem ag16 : aggB Try.prog 16 = some false := by kernel_rfl
theorem ze16 : zeroB Try.prog 16 = some [.x (Value.pointer none)] := by kernel_rfl
theorem zm16 : zeroM Try.prog 16 = some (.x (Value.pointer none)) := by kernel_rfl
theorem sz17 : szB Try.prog 17 = some 1 := by kernel_rfl
theorem by17 : byB Try.prog 17 = some 8 := by kernel_rfl
theorem ag17 : aggB Try.prog 17 = some false := by kernel_rfl
theorem ze17 : zeroB Try.prog 17 = some [.x (Value.pointer none)] := by kernel_rfl
theorem zm17 : zeroM Try.prog 17 = some (.x (Value.pointer none)) := by kernel_rfl
theorem sz18 : szB Try.prog 18 = some 1 := by kernel_rfl
theorem by18 : byB Try.prog 18 = some 8 := by kernel_rfl
theorem ag18 : aggB Try.prog 18 = some true := by kernel_rfl
theorem ze18 : zeroB Try.prog 18 = some [.x (Value.pointer none)] := by kernel_rfl
theorem zm18 : zeroM Try.prog 18 = some (.agg [.x (Value.pointer none)]) := by kernel_rfl
theorem sz19 : szB Try.prog 19 = some 1 := by kernel_rfl
theorem by19 : byB Try.prog 19 = some 8 := by kernel_rfl
theorem ag19 : aggB Try.prog 19 = some true := by kernel_rfl
theorem ze19 : zeroB Try.prog 19 = some [.x (Value.pointer none)] := by kernel_rfl
theorem zm19 : zeroM Try.prog 19 = some (.agg [.x (Value.pointer none)]) := by kernel_rfl
theorem sz20 : szB Try.prog 20 = some 1 := by kernel_rfl
theorem by20 : byB Try.prog 20 = some 16 := by kernel_rfl
theorem ag20 : aggB Try.prog 20 = some false := by kernel_rfl
theorem sz21 : szB Try.prog 21 = some 1 := by kernel_rfl
theorem by21 : byB Try.prog 21 = some 4 := by kernel_rfl
theorem ag21 : aggB Try.prog 21 = some false := by kernel_rfl
theorem ze21 : zeroB Try.prog 21 = some [.x (Value.int IntKind.i32 0)] := by kernel_rfl
theorem zm21 : zeroM Try.prog 21 = some (.x (Value.int IntKind.i32 0)) := by kernel_rfl
theorem sz22 : szB Try.prog 22 = some 3 := by kernel_rfl
theorem by22 : byB Try.prog 22 = some 32 := by kernel_rfl
theorem ag22 : aggB Try.prog 22 = some true := by kernel_rfl
theorem ze22 : zeroB Try.prog 22 = some [.x (Value.int IntKind.i64 0), .x (Value.int IntKind.i64 0), .x (Value.string ⟨#[]⟩)] := by kernel_rfl
theorem zm22 : zeroM Try.prog 22 = some (.agg [.x (Value.int IntKind.i64 0), .x (Value.int IntKind.i64 0), .x (Value.string ⟨#[]⟩)]) := by kernel_rfl
theorem sz23 : szB Try.prog 23 = some 3 := by kernel_rfl
theorem by23 : byB Try.prog 23 = some 32 := by kernel_rfl
theorem ag23 : aggB Try.prog 23 = some true := by kernel_rfl
theorem ze23 : zeroB Try.prog 23 = some [.x (Value.int IntKind.i64 0), .x (Value.int IntKind.i64 0), .x (Value.string ⟨#[]⟩)] := by kernel_rfl
theorem zm23 : zeroM Try.prog 23 = some (.agg [.x (Value.int IntKind.i64 0), .x (Value.int IntKind.i64 0), .x (Value.string ⟨#[]⟩)]) := by kernel_rfl
theorem sz24 : szB Try.prog 24 = some 3 := by kernel_rfl
theorem by24 : byB Try.prog 24 = some 32 := by kernel_rfl
theorem ag24 : aggB Try.prog 24 = some true := by kernel_rfl
theorem ze24 : zeroB Try.prog 24 = some [.x (Value.string ⟨#[]⟩), .x (Value.int IntKind.i64 0), .x (Value.int IntKind.i64 0)] := by kernel_rfl
theorem zm24 : zeroM Try.prog 24 = some (.agg [.x (Value.string ⟨#[]⟩), .x (Value.int IntKind.i64 0), .x (Value.int IntKind.i64 0)]) := by kernel_rfl
theorem sz25 : szB Try.prog 25 = some 3 := by kernel_rfl
theorem by25 : byB Try.prog 25 = some 32 := by kernel_rfl
theorem ag25 : aggB Try.prog 25 = some true := by kernel_rfl
theorem ze25 : zeroB Try.prog 25 = some [.x (Value.string ⟨#[]⟩), .x (Value.int IntKind.i64 0), .x (Value.int IntKind.i64 0)] := by kernel_rfl
theorem zm25 : zeroM Try.prog 25 = some (.agg [.x (Value.string ⟨#[]⟩), .x (Value.int IntKind.i64 0), .x (Value.int IntKind.i64 0)]) := by kernel_rfl
theorem sz26 : szB Try.prog 26 = some 1 := by kernel_rfl
theorem by26 : byB Try.prog 26 = some 24 := by kernel_rfl
theorem ag26 : aggB Try.prog 26 = some false := by kernel_rfl
theorem ze26 : zeroB Try.prog 26 = some [.sl true 0 [] none] := by kernel_rfl
theorem zm26 : zeroM Try.prog 26 = some (.sl true 0 [] none) := by kernel_rfl
theorem sz27 : szB Try.prog 27 = some 13 := by kernel_rfl
theorem by27 : byB Try.prog 27 = some 160 := by kernel_rfl
theorem ag27 : aggB Try.prog 27 = some true := by kernel_rfl
theorem ze27 : zeroB Try.prog 27 = some [.x (Value.int IntKind.i64 0), .x (Value.string ⟨#[]⟩), .x (Value.string ⟨#[]⟩), .x (Value.int IntKind.i64 0), .x (Value.int IntKind.i64 0), .x (Value.string ⟨#[]⟩), .x (Value.string ⟨#[]⟩), .x (Value.int IntKind.i64 0), .x (Value.int IntKind.i64 0), .x (Value.string ⟨#[]⟩), .x (Value.int IntKind.i64 0), .x (Value.int IntKind.i64 0), .sl true 0 [] none] := by kernel_rfl
theorem zm27 : zeroM Try.prog 27 = some (.agg [.x (Value.int IntKind.i64 0), .x (Value.string ⟨#[]⟩), .x (Value.string ⟨#[]⟩), .x (Value.int IntKind.i64 0), .x (Value.int IntKind.i64 0), .x (Value.string ⟨#[]⟩), .x (Value.string ⟨#[]⟩), .x (Value.int IntKind.i64 0), .x (Value.int IntKind.i64 0), .x (Value.string ⟨#[]⟩), .x (Value.int IntKind.i64 0), .x (Value.int IntKind.i64 0), .sl true 0 [] none]) := by kernel_rfl
theorem sz28 : szB Try.prog 28 = some 13 := by kernel_rfl
theorem by28 : byB Try.prog 28 = some 160 := by kernel_rfl
theorem ag28 : aggB Try.prog 28 = some true := by kernel_rfl
theorem ze28 : zeroB Try.prog 28 = some [.x (Value.int IntKind.i64 0), .x (Value.string ⟨#[]⟩), .x (Value.string ⟨#[]⟩), .x (Value.int IntKind.i64 0), .x (Value.int IntKind.i64 0), .x (Value.string ⟨#[]⟩), .x (Value.string ⟨#[]⟩), .x (Value.int IntKind.i64 0), .x (Value.int IntKind.i64 0), .x (Value.string ⟨#[]⟩), .x (Value.int IntKind.i64 0), .x (Value.int IntKind.i64 0), .sl true 0 [] none] := by kernel_rfl
theorem zm28 : zeroM Try.prog 28 = some (.agg [.x (Value.int IntKind.i64 0), .x (Value.string ⟨#[]⟩), .x (Value.string ⟨#[]⟩), .x (Value.int IntKind.i64 0), .x (Value.int IntKind.i64 0), .x (Value.string ⟨#[]⟩), .x (Value.string ⟨#[]⟩), .x (Value.int IntKind.i64 0), .x (Value.int IntKind.i64 0), .x (Value.string ⟨#[]⟩), .x (Value.int IntKind.i64 0), .x (Value.int IntKind.i64 0), .sl true 0 [] none]) := by kernel_rfl
theorem sz29 : szB Try.prog 29 = some 1 := by kernel_rfl
theorem by29 : byB Try.prog 29 = some 8 := by kernel_rfl
theorem ag29 : aggB Try.prog 29 = some false := by kernel_rfl
theorem sz30 : szB Try.prog 30 = some 1 := by kernel_rfl
theorem by30 : byB Try.prog 30 = some 8 := by kernel_rfl
theorem ag30 : aggB Try.prog 30 = some false := by kernel_rfl
theorem sz31 : szB Try.prog 31 = some 1 := by kernel_rfl
theorem by31 : byB Try.prog 31 = some 8 := by kernel_rfl
theorem ag31 : aggB Try.prog 31 = some false := by kernel_rfl
theorem sz32 : szB Try.prog 32 = some 1 := by kernel_rfl
theorem by32 : byB Try.prog 32 = some 24 := by kernel_rfl
theorem ag32 : aggB Try.prog 32 = some false := by kernel_rfl
theorem ze32 : zeroB Try.prog 32 = some [.sl true 0 [] none] := by kernel_rfl
theorem zm32 : zeroM Try.prog 32 = some (.sl true 0 [] none) := by kernel_rfl
theorem sz33 : szB Try.prog 33 = some 1 := by kernel_rfl
theorem by33 : byB Try.prog 33 = some 8 := by kernel_rfl
theorem ag33 : aggB Try.prog 33 = some false := by kernel_rfl
theorem sz34 : szB Try.prog 34 = some 1 := by kernel_rfl
theorem by34 : byB Try.prog 34 = some 24 := by kernel_rfl
theorem ag34 : aggB Try.prog 34 = some false := by kernel_rfl
theorem ze34 : zeroB Try.prog 34 = some [.sl true 0 [] none] := by kernel_rfl
theorem zm34 : zeroM Try.prog 34 = some (.sl true 0 [] none) := by kernel_rfl
theorem sz35 : szB Try.prog 35 = some 1 := by kernel_rfl
theorem by35 : byB Try.prog 35 = some 8 := by kernel_rfl
theorem ag35 : aggB Try.prog 35 = some false := by kernel_rfl
theorem sz36 : szB Try.prog 36 = some 1 := by kernel_rfl
theorem by36 : byB Try.prog 36 = some 8 := by kernel_rfl
theorem ag36 : aggB Try.prog 36 = some false := by kernel_rfl
theorem sz37 : szB Try.prog 37 = some 1 := by kernel_rfl
theorem by37 : byB Try.prog 37 = some 8 := by kernel_rfl
theorem ag37 : aggB Try.prog 37 = some false := by kernel_rfl
theorem sz38 : szB Try.prog 38 = some 1 := by kernel_rfl
theorem by38 : byB Try.prog 38 = some 8 := by kernel_rfl
theorem ag38 : aggB Try.prog 38 = some false := by kernel_rfl
theorem sz39 : szB Try.prog 39 = some 1 := by kernel_rfl
theorem by39 : byB Try.prog 39 = some 8 := by kernel_rfl
theorem ag39 : aggB Try.prog 39 = some false := by kernel_rfl
theorem sz40 : szB Try.prog 40 = some 6 := by kernel_rfl
theorem by40 : byB Try.prog 40 = some 64 := by kernel_rfl
theorem ag40 : aggB Try.prog 40 = some true := by kernel_rfl
theorem ze40 : zeroB Try.prog 40 = some [.x (Value.string ⟨#[]⟩), .x (Value.int IntKind.i64 0), .x (Value.int IntKind.i64 0), .x (Value.string ⟨#[]⟩), .x (Value.int IntKind.i64 0), .x (Value.int IntKind.i64 0)] := by kernel_rfl
theorem zm40 : zeroM Try.prog 40 = some (.agg [.x (Value.string ⟨#[]⟩), .x (Value.int IntKind.i64 0), .x (Value.int IntKind.i64 0), .x (Value.string ⟨#[]⟩), .x (Value.int IntKind.i64 0), .x (Value.int IntKind.i64 0)]) := by kernel_rfl
theorem sz41 : szB Try.prog 41 = some 6 := by kernel_rfl
theorem by41 : byB Try.prog 41 = some 64 := by kernel_rfl
theorem ag41 : aggB Try.prog 41 = some true := by kernel_rfl
theorem ze41 : zeroB Try.prog 41 = some [.x (Value.string ⟨#[]⟩), .x (Value.int IntKind.i64 0), .x (Value.int IntKind.i64 0), .x (Value.string ⟨#[]⟩), .x (Value.int IntKind.i64 0), .x (Value.int IntKind.i64 0)] := by kernel_rfl
theorem zm41 : zeroM Try.prog 41 = some (.agg [.x (Value.string ⟨#[]⟩), .x (Value.int IntKind.i64 0), .x (Value.int IntKind.i64 0), .x (Value.string ⟨#[]⟩), .x (Value.int IntKind.i64 0), .x (Value.int IntKind.i64 0)]) := by kernel_rfl
theorem sz42 : szB Try.prog 42 = some 1 := by kernel_rfl
theorem by42 : byB Try.prog 42 = some 8 := by kernel_rfl
theorem ag42 : aggB Try.prog 42 = some false := by kernel_rfl
theorem sz43 : szB Try.prog 43 = some 1 := by kernel_rfl
theorem by43 : byB Try.prog 43 = some 8 := by kernel_rfl
theorem ag43 : aggB Try.prog 43 = some false := by kernel_rfl
theorem sz44 : szB Try.prog 44 = some 1 := by kernel_rfl
theorem by44 : byB Try.prog 44 = some 8 := by kernel_rfl
theorem ag44 : aggB Try.prog 44 = some false := by kernel_rfl
theorem sz45 : szB Try.prog 45 = some 1 := by kernel_rfl
theorem by45 : byB Try.prog 45 = some 8 := by kernel_rfl
theorem ag45 : aggB Try.prog 45 = some false := by kernel_rfl
theorem sz46 : szB Try.prog 46 = some 1 := by kernel_rfl
theorem by46 : byB Try.prog 46 = some 8 := by kernel_rfl
theorem ag46 : aggB Try.prog 46 = some false := by kernel_rfl
theorem sz47 : szB Try.prog 47 = some 1 := by kernel_rfl
theorem by47 : byB Try.prog 47 = some 8 := by kernel_rfl
theorem ag47 : aggB Try.prog 47 = some false := by kernel_rfl
theorem sz48 : szB Try.prog 48 = some 1 := by kernel_rfl
theorem by48 : byB Try.prog 48 = some 8 := by kernel_rfl
theorem ag48 : aggB Try.prog 48 = some false := by kernel_rfl
theorem ze48 : zeroB Try.prog 48 = some [.x (Value.map none)] := by kernel_rfl
theorem zm48 : zeroM Try.prog 48 = some (.x (Value.map none)) := by kernel_rfl
theorem sz49 : szB Try.prog 49 = some 1 := by kernel_rfl
theorem by49 : byB Try.prog 49 = some 8 := by kernel_rfl
theorem ag49 : aggB Try.prog 49 = some false := by kernel_rfl
theorem sz50 : szB Try.prog 50 = some 1 := by kernel_rfl
theorem by50 : byB Try.prog 50 = some 8 := by kernel_rfl
theorem ag50 : aggB Try.prog 50 = some false := by kernel_rfl
theorem sz51 : szB Try.prog 51 = some 1 := by kernel_rfl
theorem by51 : byB Try.prog 51 = some 8 := by kernel_rfl
theorem ag51 : aggB Try.prog 51 = some false := by kernel_rfl
theorem sz52 : szB Try.prog 52 = some 0 := by kernel_rfl
theorem by52 : byB Try.prog 52 = some 0 := by kernel_rfl
theorem ag52 : aggB Try.prog 52 = some true := by kernel_rfl
theorem ze52 : zeroB Try.prog 52 = some [] := by kernel_rfl
theorem zm52 : zeroM Try.prog 52 = some (.agg []) := by kernel_rfl
theorem sz53 : szB Try.prog 53 = some 1 := by kernel_rfl
theorem by53 : byB Try.prog 53 = some 8 := by kernel_rfl
theorem ag53 : aggB Try.prog 53 = some false := by kernel_rfl
theorem sz54 : szB Try.prog 54 = some 1 := by kernel_rfl
theorem by54 : byB Try.prog 54 = some 8 := by kernel_rfl
theorem ag54 : aggB Try.prog 54 = some false := by kernel_rfl
theorem sz55 : szB Try.prog 55 = some 1 := by kernel_rfl
theorem by55 : byB Try.prog 55 = some 8 := by kernel_rfl
theorem ag55 : aggB Try.prog 55 = some false := by kernel_rfl
theorem sz56 : szB Try.prog 56 = some 1 := by kernel_rfl
theorem by56 : byB Try.prog 56 = some 8 := by kernel_rfl
theorem ag56 : aggB Try.prog 56 = some false := by kernel_rfl
theorem sz57 : szB Try.prog 57 = some 1 := by kernel_rfl
theorem by57 : byB Try.prog 57 = some 8 := by kernel_rfl
theorem ag57 : aggB Try.prog 57 = some false := by kernel_rfl
theorem sz58 : szB Try.prog 58 = some 1 := by kernel_rfl
theorem by58 : byB Try.prog 58 = some 8 := by kernel_rfl
theorem ag58 : aggB Try.prog 58 = some false := by kernel_rfl
theorem ze58 : zeroB Try.prog 58 = some [.x (Value.map none)] := by kernel_rfl
theorem zm58 : zeroM Try.prog 58 = some (.x (Value.map none)) := by kernel_rfl
theorem sz59 : szB Try.prog 59 = some 1 := by kernel_rfl
theorem by59 : byB Try.prog 59 = some 8 := by kernel_rfl
theorem ag59 : aggB Try.prog 59 = some false := by kernel_rfl
theorem ze59 : zeroB Try.prog 59 = some [.x (Value.map none)] := by kernel_rfl
theorem zm59 : zeroM Try.prog 59 = some (.x (Value.map none)) := by kernel_rfl
theorem sz60 : szB Try.prog 60 = some 1 := by kernel_rfl
theorem by60 : byB Try.prog 60 = some 0 := by kernel_rfl
theorem ag60 : aggB Try.prog 60 = some false := by kernel_rfl
theorem ze60 : zeroB Try.prog 60 = some [.x (Value.tuple #[Value.agg #[], Value.bool false])] := by kernel_rfl
theorem zm60 : zeroM Try.prog 60 = some (.x (Value.tuple #[Value.agg #[], Value.bool false])) := by kernel_rfl
theorem sz61 : szB Try.prog 61 = some 1 := by kernel_rfl
theorem by61 : byB Try.prog 61 = some 8 := by kernel_rfl
theorem ag61 : aggB Try.prog 61 = some false := by kernel_rfl
theorem sz62 : szB Try.prog 62 = some 1 := by kernel_rfl
theorem by62 : byB Try.prog 62 = some 8 := by kernel_rfl
theorem ag62 : aggB Try.prog 62 = some false := by kernel_rfl
theorem sz63 : szB Try.prog 63 = some 1 := by kernel_rfl
theorem by63 : byB Try.prog 63 = some 8 := by kernel_rfl
theorem ag63 : aggB Try.prog 63 = some false := by kernel_rfl
theorem sz64 : szB Try.prog 64 = some 1 := by kernel_rfl
theorem by64 : byB Try.prog 64 = some 8 := by kernel_rfl
theorem ag64 : aggB Try.prog 64 = some false := by kernel_rfl
theorem sz65 : szB Try.prog 65 = some 1 := by kernel_rfl
theorem by65 : byB Try.prog 65 = some 8 := by kernel_rfl
theorem ag65 : aggB Try.prog 65 = some false := by kernel_rfl
theorem sz66 : szB Try.prog 66 = some 1 := by kernel_rfl
theorem by66 : byB Try.prog 66 = some 8 := by kernel_rfl
theorem ag66 : aggB Try.prog 66 = some false := by kernel_rfl
theorem sz67 : szB Try.prog 67 = some 1 := by kernel_rfl
theorem by67 : byB Try.prog 67 = some 8 := by kernel_rfl
theorem ag67 : aggB Try.prog 67 = some false := by kernel_rfl
theorem sz68 : szB Try.prog 68 = some 1 := by kernel_rfl
theorem by68 : byB Try.prog 68 = some 0 := by kernel_rfl
theorem ag68 : aggB Try.prog 68 = some false := by kernel_rfl
theorem ze68 : zeroB Try.prog 68 = some [.x (Value.tuple #[Value.int IntKind.i64 0, Value.bool false])] := by kernel_rfl
theorem zm68 : zeroM Try.prog 68 = some (.x (Value.tuple #[Value.int IntKind.i64 0, Value.bool false])) := by kernel_rfl
theorem sz69 : szB Try.prog 69 = some 1 := by kernel_rfl
theorem by69 : byB Try.prog 69 = some 8 := by kernel_rfl
theorem ag69 : aggB Try.prog 69 = some false := by kernel_rfl
theorem sz70 : szB Try.prog 70 = some 1 := by kernel_rfl
theorem by70 : byB Try.prog 70 = some 8 := by kernel_rfl
theorem ag70 : aggB Try.prog 70 = some false := by kernel_rfl
theorem sz71 : szB Try.prog 71 = some 1 := by kernel_rfl
theorem by71 : byB Try.prog 71 = some 24 := by kernel_rfl
theorem ag71 : aggB Try.prog 71 = some false := by kernel_rfl
theorem ze71 : zeroB Try.prog 71 = some [.sl true 0 [] none] := by kernel_rfl
theorem zm71 : zeroM Try.prog 71 = some (.sl true 0 [] none) := by kernel_rfl
theorem sz72 : szB Try.prog 72 = some 1 := by kernel_rfl
theorem by72 : byB Try.prog 72 = some 0 := by kernel_rfl
theorem ag72 : aggB Try.prog 72 = some false := by kernel_rfl
theorem ze72 : zeroB Try.prog 72 = some [.x (Value.tuple #[Value.agg #[Value.string ⟨#[]⟩, Value.int IntKind.i64 0, Value.int IntKind.i64 0, Value.string ⟨#[]⟩, Value.int IntKind.i64 0, Value.int IntKind.i64 0], Value.bool false])] := by kernel_rfl
theorem zm72 : zeroM Try.prog 72 = some (.x (Value.tuple #[Value.agg #[Value.string ⟨#[]⟩, Value.int IntKind.i64 0, Value.int IntKind.i64 0, Value.string ⟨#[]⟩, Value.int IntKind.i64 0, Value.int IntKind.i64 0], Value.bool false])) := by kernel_rfl
theorem sz73 : szB Try.prog 73 = some 1 := by kernel_rfl
theorem by73 : byB Try.prog 73 = some 8 := by kernel_rfl
theorem ag73 : aggB Try.prog 73 = some false := by kernel_rfl
theorem sz74 : szB Try.prog 74 = some 1 := by kernel_rfl
theorem by74 : byB Try.prog 74 = some 8 := by kernel_rfl
theorem ag74 : aggB Try.prog 74 = some false := by kernel_rfl
theorem sz75 : szB Try.prog 75 = some 1 := by kernel_rfl
theorem by75 : byB Try.prog 75 = some 8 := by kernel_rfl
theorem ag75 : aggB Try.prog 75 = some false := by kernel_rfl
theorem sz76 : szB Try.prog 76 = some 1 := by kernel_rfl
theorem by76 : byB Try.prog 76 = some 8 := by kernel_rfl
theorem ag76 : aggB Try.prog 76 = some false := by kernel_rfl
theorem ze76 : zeroB Try.prog 76 = some [.x (Value.pointer none)] := by kernel_rfl
theorem zm76 : zeroM Try.prog 76 = some (.x (Value.pointer none)) := by kernel_rfl
theorem sz77 : szB Try.prog 77 = some 1 := by kernel_rfl
theorem by77 : byB Try.prog 77 = some 8 := by kernel_rfl
theorem ag77 : aggB Try.prog 77 = some false := by kernel_rfl
theorem ze77 : zeroB Try.prog 77 = some [.x (Value.int IntKind.u64 0)] := by kernel_rfl
theorem zm77 : zeroM Try.prog 77 = some (.x (Value.int IntKind.u64 0)) := by kernel_rfl
theorem sz78 : szB Try.prog 78 = some 3 := by kernel_rfl
theorem by78 : byB Try.prog 78 = some 24 := by kernel_rfl
theorem ag78 : aggB Try.prog 78 = some true := by kernel_rfl
theorem ze78 : zeroB Try.prog 78 = some [.x (Value.pointer none), .x (Value.pointer none), .x (Value.int IntKind.u64 0)] := by kernel_rfl
theorem zm78 : zeroM Try.prog 78 = some (.agg [.x (Value.pointer none), .x (Value.pointer none), .x (Value.int IntKind.u64 0)]) := by kernel_rfl
theorem sz79 : szB Try.prog 79 = some 3 := by kernel_rfl
theorem by79 : byB Try.prog 79 = some 24 := by kernel_rfl
theorem ag79 : aggB Try.prog 79 = some true := by kernel_rfl
theorem ze79 : zeroB Try.prog 79 = some [.x (Value.pointer none), .x (Value.pointer none), .x (Value.int IntKind.u64 0)] := by kernel_rfl
theorem zm79 : zeroM Try.prog 79 = some (.agg [.x (Value.pointer none), .x (Value.pointer none), .x (Value.int IntKind.u64 0)]) := by kernel_rfl
theorem sz80 : szB Try.prog 80 = some 1 := by kernel_rfl
theorem by80 : byB Try.prog 80 = some 8 := by kernel_rfl
theorem ag80 : aggB Try.prog 80 = some false := by kernel_rfl
theorem sz81 : szB Try.prog 81 = some 1 := by kernel_rfl
theorem by81 : byB Try.prog 81 = some 8 := by kernel_rfl
theorem ag81 : aggB Try.prog 81 = some false := by kernel_rfl
theorem sz82 : szB Try.prog 82 = some 1 := by kernel_rfl
theorem by82 : byB Try.prog 82 = some 8 := by kernel_rfl
theorem ag82 : aggB Try.prog 82 = some false := by kernel_rfl
theorem sz83 : szB Try.prog 83 = some 1 := by kernel_rfl
theorem by83 : byB Try.prog 83 = some 8 := by kernel_rfl
theorem ag83 : aggB Try.prog 83 = some false := by kernel_rfl
theorem sz84 : szB Try.prog 84 = some 1 := by kernel_rfl
theorem by84 : byB Try.prog 84 = some 8 := by kernel_rfl
theorem ag84 : aggB Try.prog 84 = some false := by kernel_rfl
theorem sz85 : szB Try.prog 85 = some 1 := by kernel_rfl
theorem by85 : byB Try.prog 85 = some 8 := by kernel_rfl
theorem ag85 : aggB Try.prog 85 = some false := by kernel_rfl
theorem ze85 : zeroB Try.prog 85 = some [.x (Value.int IntKind.u64 0)] := by kernel_rfl
theorem zm85 : zeroM Try.prog 85 = some (.x (Value.int IntKind.u64 0)) := by kernel_rfl
theorem sz86 : szB Try.prog 86 = some 1 := by kernel_rfl
theorem by86 : byB Try.prog 86 = some 8 := by kernel_rfl
theorem ag86 : aggB Try.prog 86 = some false := by kernel_rfl
theorem sz87 : szB Try.prog 87 = some 2 := by kernel_rfl
theorem by87 : byB Try.prog 87 = some 16 := by kernel_rfl
theorem ag87 : aggB Try.prog 87 = some true := by kernel_rfl
theorem ze87 : zeroB Try.prog 87 = some [.x (Value.nilFunc), .x (Value.nilFunc)] := by kernel_rfl
theorem zm87 : zeroM Try.prog 87 = some (.agg [.x (Value.nilFunc), .x (Value.nilFunc)]) := by kernel_rfl
theorem sz88 : szB Try.prog 88 = some 2 := by kernel_rfl
theorem by88 : byB Try.prog 88 = some 16 := by kernel_rfl
theorem ag88 : aggB Try.prog 88 = some true := by kernel_rfl
theorem ze88 : zeroB Try.prog 88 = some [.x (Value.nilFunc), .x (Value.nilFunc)] := by kernel_rfl
theorem zm88 : zeroM Try.prog 88 = some (.agg [.x (Value.nilFunc), .x (Value.nilFunc)]) := by kernel_rfl
theorem sz89 : szB Try.prog 89 = some 1 := by kernel_rfl
theorem by89 : byB Try.prog 89 = some 8 := by kernel_rfl
theorem ag89 : aggB Try.prog 89 = some false := by kernel_rfl
theorem sz90 : szB Try.prog 90 = some 1 := by kernel_rfl
theorem by90 : byB Try.prog 90 = some 8 := by kernel_rfl
theorem ag90 : aggB Try.prog 90 = some false := by kernel_rfl
theorem sz91 : szB Try.prog 91 = some 1 := by kernel_rfl
theorem by91 : byB Try.prog 91 = some 8 := by kernel_rfl
theorem ag91 : aggB Try.prog 91 = some false := by kernel_rfl
theorem sz92 : szB Try.prog 92 = some 1 := by kernel_rfl
theorem by92 : byB Try.prog 92 = some 8 := by kernel_rfl
theorem ag92 : aggB Try.prog 92 = some false := by kernel_rfl
theorem sz93 : szB Try.prog 93 = some 1 := by kernel_rfl
theorem by93 : byB Try.prog 93 = some 8 := by kernel_rfl
theorem ag93 : aggB Try.prog 93 = some false := by kernel_rfl
theorem sz94 : szB Try.prog 94 = some 1 := by kernel_rfl
theorem by94 : byB Try.prog 94 = some 8 := by kernel_rfl
theorem ag94 : aggB Try.prog 94 = some false := by kernel_rfl
theorem sz95 : szB Try.prog 95 = some 1 := by kernel_rfl
theorem by95 : byB Try.prog 95 = some 24 := by kernel_rfl
theorem ag95 : aggB Try.prog 95 = some false := by kernel_rfl
theorem ze95 : zeroB Try.prog 95 = some [.sl true 0 [] none] := by kernel_rfl
theorem zm95 : zeroM Try.prog 95 = some (.sl true 0 [] none) := by kernel_rfl
theorem sz96 : szB Try.prog 96 = some 1 := by kernel_rfl
theorem by96 : byB Try.prog 96 = some 8 := by kernel_rfl
theorem ag96 : aggB Try.prog 96 = some false := by kernel_rfl
theorem ze96 : zeroB Try.prog 96 = some [.x (Value.pointer none)] := by kernel_rfl
theorem zm96 : zeroM Try.prog 96 = some (.x (Value.pointer none)) := by kernel_rfl
theorem sz97 : szB Try.prog 97 = some 1 := by kernel_rfl
theorem by97 : byB Try.prog 97 = some 8 := by kernel_rfl
theorem ag97 : aggB Try.prog 97 = some true := by kernel_rfl
theorem ze97 : zeroB Try.prog 97 = some [.x (Value.pointer none)] := by kernel_rfl
theorem zm97 : zeroM Try.prog 97 = some (.agg [.x (Value.pointer none)]) := by kernel_rfl
theorem sz98 : szB Try.prog 98 = some 1 := by kernel_rfl
theorem by98 : byB Try.prog 98 = some 8 := by kernel_rfl
theorem ag98 : aggB Try.prog 98 = some true := by kernel_rfl
theorem ze98 : zeroB Try.prog 98 = some [.x (Value.pointer none)] := by kernel_rfl
theorem zm98 : zeroM Try.prog 98 = some (.agg [.x (Value.pointer none)]) := by kernel_rfl
theorem sz99 : szB Try.prog 99 = some 1 := by kernel_rfl
theorem by99 : byB Try.prog 99 = some 8 := by kernel_rfl
theorem ag99 : aggB Try.prog 99 = some false := by kernel_rfl
theorem ze99 : zeroB Try.prog 99 = some [.x (Value.pointer none)] := by kernel_rfl
theorem zm99 : zeroM Try.prog 99 = some (.x (Value.pointer none)) := by kernel_rfl
theorem sz100 : szB Try.prog 100 = some 1 := by kernel_rfl
theorem by100 : byB Try.prog 100 = some 8 := by kernel_rfl
theorem ag100 : aggB Try.prog 100 = some false := by kernel_rfl
theorem sz101 : szB Try.prog 101 = some 1 := by kernel_rfl
theorem by101 : byB Try.prog 101 = some 4 := by kernel_rfl
theorem ag101 : aggB Try.prog 101 = some false := by kernel_rfl
theorem ze101 : zeroB Try.prog 101 = some [.x (Value.int IntKind.u32 0)] := by kernel_rfl
theorem zm101 : zeroM Try.prog 101 = some (.x (Value.int IntKind.u32 0)) := by kernel_rfl
theorem sz102 : szB Try.prog 102 = some 1 := by kernel_rfl
theorem by102 : byB Try.prog 102 = some 8 := by kernel_rfl
theorem ag102 : aggB Try.prog 102 = some false := by kernel_rfl
theorem sz103 : szB Try.prog 103 = some 1 := by kernel_rfl
theorem by103 : byB Try.prog 103 = some 8 := by kernel_rfl
theorem ag103 : aggB Try.prog 103 = some false := by kernel_rfl
theorem ze103 : zeroB Try.prog 103 = some [.x (Value.int IntKind.u64 0)] := by kernel_rfl
theorem zm103 : zeroM Try.prog 103 = some (.x (Value.int IntKind.u64 0)) := by kernel_rfl
theorem sz104 : szB Try.prog 104 = some 1 := by kernel_rfl
theorem by104 : byB Try.prog 104 = some 8 := by kernel_rfl
theorem ag104 : aggB Try.prog 104 = some false := by kernel_rfl
theorem sz105 : szB Try.prog 105 = some 1 := by kernel_rfl
theorem by105 : byB Try.prog 105 = some 8 := by kernel_rfl
theorem ag105 : aggB Try.prog 105 = some false := by kernel_rfl
theorem ze105 : zeroB Try.prog 105 = some [.x (Value.int IntKind.i64 0)] := by kernel_rfl
theorem zm105 : zeroM Try.prog 105 = some (.x (Value.int IntKind.i64 0)) := by kernel_rfl
theorem sz106 : szB Try.prog 106 = some 1 := by kernel_rfl
theorem by106 : byB Try.prog 106 = some 0 := by kernel_rfl
theorem ag106 : aggB Try.prog 106 = some false := by kernel_rfl
theorem ze106 : zeroB Try.prog 106 = some [.x (Value.tuple #[Value.int IntKind.i64 0, Value.int IntKind.i64 0])] := by kernel_rfl
theorem zm106 : zeroM Try.prog 106 = some (.x (Value.tuple #[Value.int IntKind.i64 0, Value.int IntKind.i64 0])) := by kernel_rfl
theorem sz107 : szB Try.prog 107 = some 1 := by kernel_rfl
theorem by107 : byB Try.prog 107 = some 8 := by kernel_rfl
theorem ag107 : aggB Try.prog 107 = some false := by kernel_rfl
theorem sz108 : szB Try.prog 108 = some 1 := by kernel_rfl
theorem by108 : byB Try.prog 108 = some 8 := by kernel_rfl
theorem ag108 : aggB Try.prog 108 = some false := by kernel_rfl
theorem sz109 : szB Try.prog 109 = some 1 := by kernel_rfl
theorem by109 : byB Try.prog 109 = some 8 := by kernel_rfl
theorem ag109 : aggB Try.prog 109 = some false := by kernel_rfl
theorem sz110 : szB Try.prog 110 = some 1 := by kernel_rfl
theorem by110 : byB Try.prog 110 = some 8 := by kernel_rfl
theorem ag110 : aggB Try.prog 110 = some false := by kernel_rfl
theorem sz111 : szB Try.prog 111 = some 1 := by kernel_rfl
theorem by111 : byB Try.prog 111 = some 24 := by kernel_rfl
theorem ag111 : aggB Try.prog 111 = some false := by kernel_rfl
theorem ze111 : zeroB Try.prog 111 = some [.sl true 0 [] none] := by kernel_rfl
theorem zm111 : zeroM Try.prog 111 = some (.sl true 0 [] none) := by kernel_rfl
theorem sz112 : szB Try.prog 112 = some 1 := by kernel_rfl
theorem by112 : byB Try.prog 112 = some 8 := by kernel_rfl
theorem ag112 : aggB Try.prog 112 = some false := by kernel_rfl
theorem sz113 : szB Try.prog 113 = some 1 := by kernel_rfl
theorem by113 : byB Try.prog 113 = some 8 := by kernel_rfl
theorem ag113 : aggB Try.prog 113 = some false := by kernel_rfl
theorem sz114 : szB Try.prog 114 = some 1 := by kernel_rfl
theorem by114 : byB Try.prog 114 = some 8 := by kernel_rfl
theorem ag114 : aggB Try.prog 114 = some false := by kernel_rfl
theorem ze114 : zeroB Try.prog 114 = some [.x (Value.int IntKind.i64 0)] := by kernel_rfl
theorem zm114 : zeroM Try.prog 114 = some (.x (Value.int IntKind.i64 0)) := by kernel_rfl
theorem sz115 : szB Try.prog 115 = some 1 := by kernel_rfl
theorem by115 : byB Try.prog 115 = some 0 := by kernel_rfl
theorem ag115 : aggB Try.prog 115 = some false := by kernel_rfl
theorem ze115 : zeroB Try.prog 115 = some [.x (Value.tuple #[Value.int IntKind.i64 0, Value.int IntKind.i64 0])] := by kernel_rfl
theorem zm115 : zeroM Try.prog 115 = some (.x (Value.tuple #[Value.int IntKind.i64 0, Value.int IntKind.i64 0])) := by kernel_rfl
theorem sz116 : szB Try.prog 116 = some 1 := by kernel_rfl
theorem by116 : byB Try.prog 116 = some 8 := by kernel_rfl
theorem ag116 : aggB Try.prog 116 = some false := by kernel_rfl
theorem sz117 : szB Try.prog 117 = some 1 := by kernel_rfl
theorem by117 : byB Try.prog 117 = some 8 := by kernel_rfl
theorem ag117 : aggB Try.prog 117 = some false := by kernel_rfl
theorem sz118 : szB Try.prog 118 = some 1 := by kernel_rfl
theorem by118 : byB Try.prog 118 = some 8 := by kernel_rfl
theorem ag118 : aggB Try.prog 118 = some false := by kernel_rfl
theorem sz119 : szB Try.prog 119 = some 1 := by kernel_rfl
theorem by119 : byB Try.prog 119 = some 8 := by kernel_rfl
theorem ag119 : aggB Try.prog 119 = some false := by kernel_rfl
theorem sz120 : szB Try.prog 120 = some 1 := by kernel_rfl
theorem by120 : byB Try.prog 120 = some 8 := by kernel_rfl
theorem ag120 : aggB Try.prog 120 = some false := by kernel_rfl
theorem sz121 : szB Try.prog 121 = some 1 := by kernel_rfl
theorem by121 : byB Try.prog 121 = some 8 := by kernel_rfl
theorem ag121 : aggB Try.prog 121 = some false := by kernel_rfl
theorem ze121 : zeroB Try.prog 121 = some [.x (Value.int IntKind.u64 0)] := by kernel_rfl
theorem zm121 : zeroM Try.prog 121 = some (.x (Value.int IntKind.u64 0)) := by kernel_rfl
theorem sz122 : szB Try.prog 122 = some 1 := by kernel_rfl
theorem by122 : byB Try.prog 122 = some 8 := by kernel_rfl
theorem ag122 : aggB Try.prog 122 = some false := by kernel_rfl
theorem sz123 : szB Try.prog 123 = some 1 := by kernel_rfl
theorem by123 : byB Try.prog 123 = some 8 := by kernel_rfl
theorem ag123 : aggB Try.prog 123 = some false := by kernel_rfl
theorem sz124 : szB Try.prog 124 = some 1 := by kernel_rfl
theorem by124 : byB Try.prog 124 = some 8 := by kernel_rfl
theorem ag124 : aggB Try.prog 124 = some false := by kernel_rfl
theorem sz125 : szB Try.prog 125 = some 1 := by kernel_rfl
theorem by125 : byB Try.prog 125 = some 8 := by kernel_rfl
theorem ag125 : aggB Try.prog 125 = some false := by kernel_rfl
theorem ze125 : zeroB Try.prog 125 = some [.x (Value.pointer none)] := by kernel_rfl
theorem zm125 : zeroM Try.prog 125 = some (.x (Value.pointer none)) := by kernel_rfl
theorem sz126 : szB Try.prog 126 = some 1 := by kernel_rfl
theorem by126 : byB Try.prog 126 = some 8 := by kernel_rfl
theorem ag126 : aggB Try.prog 126 = some false := by kernel_rfl
theorem sz127 : szB Try.prog 127 = some 1 := by kernel_rfl
theorem by127 : byB Try.prog 127 = some 8 := by kernel_rfl
theorem ag127 : aggB Try.prog 127 = some false := by kernel_rfl
theorem ze127 : zeroB Try.prog 127 = some [.x (Value.int IntKind.u64 0)] := by kernel_rfl
theorem zm127 : zeroM Try.prog 127 = some (.x (Value.int IntKind.u64 0)) := by kernel_rfl
theorem sz128 : szB Try.prog 128 = some 1 := by kernel_rfl
theorem by128 : byB Try.prog 128 = some 8 := by kernel_rfl
theorem ag128 : aggB Try.prog 128 = some false := by kernel_rfl
theorem sz129 : szB Try.prog 129 = some 1 := by kernel_rfl
theorem by129 : byB Try.prog 129 = some 8 := by kernel_rfl
theorem ag129 : aggB Try.prog 129 = some false := by kernel_rfl
theorem sz130 : szB Try.prog 130 = some 1 := by kernel_rfl
theorem by130 : byB Try.prog 130 = some 8 := by kernel_rfl
theorem ag130 : aggB Try.prog 130 = some false := by kernel_rfl
theorem ze130 : zeroB Try.prog 130 = some [.x (Value.pointer none)] := by kernel_rfl
theorem zm130 : zeroM Try.prog 130 = some (.x (Value.pointer none)) := by kernel_rfl
theorem sz131 : szB Try.prog 131 = some 1 := by kernel_rfl
theorem by131 : byB Try.prog 131 = some 0 := by kernel_rfl
theorem ag131 : aggB Try.prog 131 = some false := by kernel_rfl
theorem ze131 : zeroB Try.prog 131 = some [.x (Value.tuple #[Value.int IntKind.i64 0, Value.int IntKind.i64 0])] := by kernel_rfl
theorem zm131 : zeroM Try.prog 131 = some (.x (Value.tuple #[Value.int IntKind.i64 0, Value.int IntKind.i64 0])) := by kernel_rfl
theorem sz132 : szB Try.prog 132 = some 1 := by kernel_rfl
theorem by132 : byB Try.prog 132 = some 8 := by kernel_rfl
theorem ag132 : aggB Try.prog 132 = some false := by kernel_rfl
theorem sz133 : szB Try.prog 133 = some 1 := by kernel_rfl
theorem by133 : byB Try.prog 133 = some 8 := by kernel_rfl
theorem ag133 : aggB Try.prog 133 = some false := by kernel_rfl
theorem ze133 : zeroB Try.prog 133 = some [.x (Value.pointer none)] := by kernel_rfl
theorem zm133 : zeroM Try.prog 133 = some (.x (Value.pointer none)) := by kernel_rfl
theorem sz134 : szB Try.prog 134 = some 1 := by kernel_rfl
theorem by134 : byB Try.prog 134 = some 8 := by kernel_rfl
theorem ag134 : aggB Try.prog 134 = some false := by kernel_rfl
theorem sz135 : szB Try.prog 135 = some 1 := by kernel_rfl
theorem by135 : byB Try.prog 135 = some 8 := by kernel_rfl
theorem ag135 : aggB Try.prog 135 = some false := by kernel_rfl
theorem sz136 : szB Try.prog 136 = some 4 := by kernel_rfl
theorem by136 : byB Try.prog 136 = some 40 := by kernel_rfl
theorem ag136 : aggB Try.prog 136 = some true := by kernel_rfl
theorem ze136 : zeroB Try.prog 136 = some [.x (Value.pointer none), .x (Value.pointer none), .x (Value.pointer none), .x (Value.string ⟨#[]⟩)] := by kernel_rfl
theorem zm136 : zeroM Try.prog 136 = some (.agg [.x (Value.pointer none), .x (Value.pointer none), .x (Value.pointer none), .x (Value.string ⟨#[]⟩)]) := by kernel_rfl
theorem sz137 : szB Try.prog 137 = some 4 := by kernel_rfl
theorem by137 : byB Try.prog 137 = some 40 := by kernel_rfl
theorem ag137 : aggB Try.prog 137 = some true := by kernel_rfl
theorem ze137 : zeroB Try.prog 137 = some [.x (Value.pointer none), .x (Value.pointer none), .x (Value.pointer none), .x (Value.string ⟨#[]⟩)] := by kernel_rfl
theorem zm137 : zeroM Try.prog 137 = some (.agg [.x (Value.pointer none), .x (Value.pointer none), .x (Value.pointer none), .x (Value.string ⟨#[]⟩)]) := by kernel_rfl
theorem sz138 : szB Try.prog 138 = some 0 := by kernel_rfl
theorem by138 : byB Try.prog 138 = some 0 := by kernel_rfl
theorem ag138 : aggB Try.prog 138 = some true := by kernel_rfl
theorem ze138 : zeroB Try.prog 138 = some [] := by kernel_rfl
theorem zm138 : zeroM Try.prog 138 = some (.agg []) := by kernel_rfl
theorem sz139 : szB Try.prog 139 = some 0 := by kernel_rfl
theorem by139 : byB Try.prog 139 = some 0 := by kernel_rfl
theorem ag139 : aggB Try.prog 139 = some true := by kernel_rfl
theorem ze139 : zeroB Try.prog 139 = some [] := by kernel_rfl
theorem zm139 : zeroM Try.prog 139 = some (.agg []) := by kernel_rfl
theorem sz140 : szB Try.prog 140 = some 0 := by kernel_rfl
theorem by140 : byB Try.prog 140 = some 0 := by kernel_rfl
theorem ag140 : aggB Try.prog 140 = some true := by kernel_rfl
theorem ze140 : zeroB Try.prog 140 = some [] := by kernel_rfl
theorem zm140 : zeroM Try.prog 140 = some (.agg []) := by kernel_rfl
theorem sz141 : szB Try.prog 141 = some 1 := by kernel_rfl
theorem by141 : byB Try.prog 141 = some 1 := by kernel_rfl
theorem ag141 : aggB Try.prog 141 = some false := by kernel_rfl
theorem ze141 : zeroB Try.prog 141 = some [.x (Value.int IntKind.u8 0)] := by kernel_rfl
theorem zm141 : zeroM Try.prog 141 = some (.x (Value.int IntKind.u8 0)) := by kernel_rfl
theorem sz142 : szB Try.prog 142 = some 1 := by kernel_rfl
theorem by142 : byB Try.prog 142 = some 1 := by kernel_rfl
theorem ag142 : aggB Try.prog 142 = some false := by kernel_rfl
theorem ze142 : zeroB Try.prog 142 = some [.x (Value.int IntKind.u8 0)] := by kernel_rfl
theorem zm142 : zeroM Try.prog 142 = some (.x (Value.int IntKind.u8 0)) := by kernel_rfl
theorem sz143 : szB Try.prog 143 = some 1 := by kernel_rfl
theorem by143 : byB Try.prog 143 = some 8 := by kernel_rfl
theorem ag143 : aggB Try.prog 143 = some false := by kernel_rfl
theorem sz144 : szB Try.prog 144 = some 1 := by kernel_rfl
theorem by144 : byB Try.prog 144 = some 4 := by kernel_rfl
theorem ag144 : aggB Try.prog 144 = some false := by kernel_rfl
theorem ze144 : zeroB Try.prog 144 = some [.x (Value.int IntKind.i32 0)] := by kernel_rfl
theorem zm144 : zeroM Try.prog 144 = some (.x (Value.int IntKind.i32 0)) := by kernel_rfl
theorem sz145 : szB Try.prog 145 = some 1 := by kernel_rfl
theorem by145 : byB Try.prog 145 = some 4 := by kernel_rfl
theorem ag145 : aggB Try.prog 145 = some false := by kernel_rfl
theorem ze145 : zeroB Try.prog 145 = some [.x (Value.int IntKind.i32 0)] := by kernel_rfl
theorem zm145 : zeroM Try.prog 145 = some (.x (Value.int IntKind.i32 0)) := by kernel_rfl
theorem sz146 : szB Try.prog 146 = some 11 := by kernel_rfl
theorem by146 : byB Try.prog 146 = some 48 := by kernel_rfl
theorem ag146 : aggB Try.prog 146 = some true := by kernel_rfl
theorem ze146 : zeroB Try.prog 146 = some [.x (Value.int IntKind.u64 0), .x (Value.int IntKind.u64 0), .x (Value.int IntKind.u32 0), .x (Value.int IntKind.u8 0), .x (Value.int IntKind.u8 0), .x (Value.int IntKind.u8 0), .x (Value.int IntKind.u8 0), .x (Value.nilFunc), .x (Value.pointer none), .x (Value.int IntKind.i32 0), .x (Value.int IntKind.i32 0)] := by kernel_rfl
theorem zm146 : zeroM Try.prog 146 = some (.agg [.x (Value.int IntKind.u64 0), .x (Value.int IntKind.u64 0), .x (Value.int IntKind.u32 0), .x (Value.int IntKind.u8 0), .x (Value.int IntKind.u8 0), .x (Value.int IntKind.u8 0), .x (Value.int IntKind.u8 0), .x (Value.nilFunc), .x (Value.pointer none), .x (Value.int IntKind.i32 0), .x (Value.int IntKind.i32 0)]) := by kernel_rfl
theorem sz147 : szB Try.prog 147 = some 11 := by kernel_rfl
theorem by147 : byB Try.prog 147 = some 48 := by kernel_rfl
theorem ag147 : aggB Try.prog 147 = some true := by kernel_rfl
theorem ze147 : zeroB Try.prog 147 = some [.x (Value.int IntKind.u64 0), .x (Value.int IntKind.u64 0), .x (Value.int IntKind.u32 0), .x (Value.int IntKind.u8 0), .x (Value.int IntKind.u8 0), .x (Value.int IntKind.u8 0), .x (Value.int IntKind.u8 0), .x (Value.nilFunc), .x (Value.pointer none), .x (Value.int IntKind.i32 0), .x (Value.int IntKind.i32 0)] := by kernel_rfl
theorem zm147 : zeroM Try.prog 147 = some (.agg [.x (Value.int IntKind.u64 0), .x (Value.int IntKind.u64 0), .x (Value.int IntKind.u32 0), .x (Value.int IntKind.u8 0), .x (Value.int IntKind.u8 0), .x (Value.int IntKind.u8 0), .x (Value.int IntKind.u8 0), .x (Value.nilFunc), .x (Value.pointer none), .x (Value.int IntKind.i32 0), .x (Value.int IntKind.i32 0)]) := by kernel_rfl
theorem sz148 : szB Try.prog 148 = some 2 := by kernel_rfl
theorem by148 : byB Try.prog 148 = some 24 := by kernel_rfl
theorem ag148 : aggB Try.prog 148 = some true := by kernel_rfl
theorem ze148 : zeroB Try.prog 148 = some [.x (Value.string ⟨#[]⟩), .x (Value.int IntKind.u8 0)] := by kernel_rfl
theorem zm148 : zeroM Try.prog 148 = some (.agg [.x (Value.string ⟨#[]⟩), .x (Value.int IntKind.u8 0)]) := by kernel_rfl
theorem sz149 : szB Try.prog 149 = some 2 := by kernel_rfl
theorem by149 : byB Try.prog 149 = some 24 := by kernel_rfl
theorem ag149 : aggB Try.prog 149 = some true := by kernel_rfl
theorem ze149 : zeroB Try.prog 149 = some [.x (Value.string ⟨#[]⟩), .x (Value.int IntKind.u8 0)] := by kernel_rfl
theorem zm149 : zeroM Try.prog 149 = some (.agg [.x (Value.string ⟨#[]⟩), .x (Value.int IntKind.u8 0)]) := by kernel_rfl
attribute [go_sem] sz0 by0 sz1 by1 sz2 by2 sz3 by3 sz4 by4 sz5 by5 sz6 by6 sz7 by7 sz8 by8 sz9 by9 sz10 by10 sz11 by11 sz12 by12 sz13 by13 sz14 by14 sz15 by15 sz16 by16 sz17 by17 sz18 by18 sz19 by19 sz20 by20 sz21 by21 sz22 by22 sz23 by23 sz24 by24 sz25 by25 sz26 by26 sz27 by27 sz28 by28 sz29 by29 sz30 by30 sz31 by31 sz32 by32 sz33 by33 sz34 by34 sz35 by35 sz36 by36 sz37 by37 sz38 by38 sz39 by39 sz40 by40 sz41 by41 sz42 by42 sz43 by43 sz44 by44 sz45 by45 sz46 by46 sz47 by47 sz48 by48 sz49 by49 sz50 by50 sz51 by51 sz52 by52 sz53 by53 sz54 by54 sz55 by55 sz56 by56 sz57 by57 sz58 by58 sz59 by59 sz60 by60 sz61 by61 sz62 by62 sz63 by63 sz64 by64 sz65 by65 sz66 by66 sz67 by67 sz68 by68 sz69 by69 sz70 by70 sz71 by71 sz72 by72 sz73 by73 sz74 by74 sz75 by75 sz76 by76 sz77 by77 sz78 by78 sz79 by79 sz80 by80 sz81 by81 sz82 by82 sz83 by83 sz84 by84 sz85 by85 sz86 by86 sz87 by87 sz88 by88 sz89 by89 sz90 by90 sz91 by91 sz92 by92 sz93 by93 sz94 by94 sz95 by95 sz96 by96 sz97 by97 sz98 by98 sz99 by99 sz100 by100 sz101 by101 sz102 by102 sz103 by103 sz104 by104 sz105 by105 sz106 by106 sz107 by107 sz108 by108 sz109 by109 sz110 by110 sz111 by111 sz112 by112 sz113 by113 sz114 by114 sz115 by115 sz116 by116 sz117 by117 sz118 by118 sz119 by119 sz120 by120 sz121 by121 sz122 by122 sz123 by123 sz124 by124 sz125 by125 sz126 by126 sz127 by127 sz128 by128 sz129 by129 sz130 by130 sz131 by131 sz132 by132 sz133 by133 sz134 by134 sz135 by135 sz136 by136 sz137 by137 sz138 by138 sz139 by139 sz140 by140 sz141 by141 sz142 by142 sz143 by143 sz144 by144 sz145 by145 sz146 by146 sz147 by147 sz148 by148 sz149 by149 ag0 ag1 ag2 ag3 ag4 ag5 ag6 ag7 ag8 ag9 ag10 ag11 ag12 ag13 ag14 ag15 ag16 ag17 ag18 ag19 ag20 ag21 ag22 ag23 ag24 ag25 ag26 ag27 ag28 ag29 ag30 ag31 ag32 ag33 ag34 ag35 ag36 ag37 ag38 ag39 ag40 ag41 ag42 ag43 ag44 ag45 ag46 ag47 ag48 ag49 ag50 ag51 ag52 ag53 ag54 ag55 ag56 ag57 ag58 ag59 ag60 ag61 ag62 ag63 ag64 ag65 ag66 ag67 ag68 ag69 ag70 ag71 ag72 ag73 ag74 ag75 ag76 ag77 ag78 ag79 ag80 ag81 ag82 ag83 ag84 ag85 ag86 ag87 ag88 ag89 ag90 ag91 ag92 ag93 ag94 ag95 ag96 ag97 ag98 ag99 ag100 ag101 ag102 ag103 ag104 ag105 ag106 ag107 ag108 ag109 ag110 ag111 ag112 ag113 ag114 ag115 ag116 ag117 ag118 ag119 ag120 ag121 ag122 ag123 ag124 ag125 ag126 ag127 ag128 ag129 ag130 ag131 ag132 ag133 ag134 ag135 ag136 ag137 ag138 ag139 ag140 ag141 ag142 ag143 ag144 ag145 ag146 ag147 ag148 ag149 ze0 zm0 ze2 zm2 ze3 zm3 ze4 zm4 ze5 zm5 ze6 zm6 ze7 zm7 ze8 zm8 ze9 zm9 ze10 zm10 ze11 zm11 ze12 zm12 ze13 zm13 ze14 zm14 ze15 zm15 ze16 zm16 ze17 zm17 ze18 zm18 ze19 zm19 ze21 zm21 ze22 zm22 ze23 zm23 ze24 zm24 ze25 zm25 ze26 zm26 ze27 zm27 ze28 zm28 ze32 zm32 ze34 zm34 ze40 zm40 ze41 zm41 ze48 zm48 ze52 zm52 ze58 zm58 ze59 zm59 ze60 zm60 ze68 zm68 ze71 zm71 ze72 zm72 ze76 zm76 ze77 zm77 ze78 zm78 ze79 zm79 ze85 zm85 ze87 zm87 ze88 zm88 ze95 zm95 ze96 zm96 ze97 zm97 ze98 zm98 ze99 zm99 ze101 zm101 ze103 zm103 ze105 zm105 ze106 zm106 ze111 zm111 ze114 zm114 ze115 zm115 ze121 zm121 ze125 zm125 ze127 zm127 ze130 zm130 ze131 zm131 ze133 zm133 ze136 zm136 ze137 zm137 ze138 zm138 ze139 zm139 ze140 zm140 ze141 zm141 ze142 zm142 ze144 zm144 ze145 zm145 ze146 zm146 ze147 zm147 ze148 zm148 ze149 zm149 Try.underlying0 Try.underlying1 Try.underlying2 Try.underlying3 Try.underlying4 Try.underlying5 Try.underlying6 Try.underlying7 Try.eqGuardType7 Try.stoodInHeld7 Try.underlying8 Try.eqGuardType8 Try.stoodInHeld8 Try.underlying9 Try.underlying10 Try.underlying11 Try.underlying12 Try.underlying13 Try.eqGuardType13 Try.stoodInHeld13 Try.underlying14 Try.eqGuardType14 Try.stoodInHeld14 Try.underlying15 Try.underlying16 Try.underlying17 Try.underlying18 Try.eqGuardType18 Try.stoodInHeld18 Try.underlying19 Try.eqGuardType19 Try.stoodInHeld19 Try.underlying20 Try.underlying21 Try.underlying22 Try.eqGuardType22 Try.stoodInHeld22 Try.underlying23 Try.eqGuardType23 Try.stoodInHeld23 Try.underlying24 Try.eqGuardType24 Try.stoodInHeld24 Try.underlying25 Try.eqGuardType25 Try.stoodInHeld25 Try.underlying26 Try.underlying27 Try.eqGuardType27 Try.stoodInHeld27 Try.underlying28 Try.eqGuardType28 Try.stoodInHeld28 Try.underlying29 Try.underlying30 Try.underlying31 Try.underlying32 Try.underlying33 Try.underlying34 Try.underlying35 Try.underlying36 Try.underlying37 Try.underlying38 Try.underlying39 Try.underlying40 Try.eqGuardType40 Try.stoodInHeld40 Try.underlying41 Try.eqGuardType41 Try.stoodInHeld41 Try.underlying42 Try.underlying43 Try.underlying44 Try.underlying45 Try.underlying46 Try.underlying47 Try.underlying48 Try.underlying49 Try.underlying50 Try.underlying51 Try.underlying52 Try.eqGuardType52 Try.stoodInHeld52 Try.underlying53 Try.underlying54 Try.underlying55 Try.underlying56 Try.underlying57 Try.underlying58 Try.underlying59 Try.underlying60 Try.underlying61 Try.underlying62 Try.underlying63 Try.underlying64 Try.underlying65 Try.underlying66 Try.underlying67 Try.underlying68 Try.underlying69 Try.underlying70 Try.underlying71 Try.underlying72 Try.underlying73 Try.underlying74 Try.underlying75 Try.underlying76 Try.underlying77 Try.underlying78 Try.eqGuardType78 Try.stoodInHeld78 Try.underlying79 Try.eqGuardType79 Try.stoodInHeld79 Try.underlying80 Try.underlying81 Try.underlying82 Try.underlying83 Try.underlying84 Try.underlying85 Try.underlying86 Try.underlying87 Try.eqGuardType87 Try.stoodInHeld87 Try.underlying88 Try.eqGuardType88 Try.stoodInHeld88 Try.underlying89 Try.underlying90 Try.underlying91 Try.underlying92 Try.underlying93 Try.underlying94 Try.underlying95 Try.underlying96 Try.underlying97 Try.eqGuardType97 Try.stoodInHeld97 Try.underlying98 Try.eqGuardType98 Try.stoodInHeld98 Try.underlying99 Try.underlying100 Try.underlying101 Try.underlying102 Try.underlying103 Try.underlying104 Try.underlying105 Try.underlying106 Try.underlying107 Try.underlying108 Try.underlying109 Try.underlying110 Try.underlying111 Try.underlying112 Try.underlying113 Try.underlying114 Try.underlying115 Try.underlying116 Try.underlying117 Try.underlying118 Try.underlying119 Try.underlying120 Try.underlying121 Try.underlying122 Try.underlying123 Try.underlying124 Try.underlying125 Try.underlying126 Try.underlying127 Try.underlying128 Try.underlying129 Try.underlying130 Try.underlying131 Try.underlying132 Try.underlying133 Try.underlying134 Try.underlying135 Try.underlying136 Try.eqGuardType136 Try.stoodInHeld136 Try.underlying137 Try.eqGuardType137 Try.stoodInHeld137 Try.underlying138 Try.eqGuardType138 Try.underlying139 Try.eqGuardType139 Try.stoodInHeld139 Try.underlying140 Try.eqGuardType140 Try.stoodInHeld140 Try.underlying141 Try.underlying142 Try.underlying143 Try.underlying144 Try.underlying145 Try.underlying146 Try.eqGuardType146 Try.stoodInHeld146 Try.underlying147 Try.eqGuardType147 Try.stoodInHeld147 Try.underlying148 Try.eqGuardType148 Try.stoodInHeld148 Try.underlying149 Try.eqGuardType149 Try.stoodInHeld149
end Go.Proofs.Ytiphliochoengaa

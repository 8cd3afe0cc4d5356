/- What the run over plain data asks of each type of this seat's program, by program. -/
import Derived.Test.YtkacldoiimlmcaaPfI
import Derived.Test.YtkacldoiimlmcaaProg
import Derived.KernelRfl
namespace Go.Proofs.Ytkacldoiimlmcaa
open Go Go.RowKit
theorem sz0 : szB Try.prog 0 = some 1 := by kernel_rfl
theorem by0 : byB Try.prog 0 = some 0 := by kernel_rfl
theorem ag0 : aggB Try.prog 0 = some false := by kernel_rfl
theorem ze0 : zeroB Try.prog 0 = some [.x (Value.tuple #[])] := by kernel_rfl
theorem zm0 : zeroM Try.prog 0 = some (.x (Value.tuple #[])) := by kernel_rfl
theorem sz1 : szB Try.prog 1 = some 1 := by kernel_rfl
theorem by1 : byB Try.prog 1 = some 8 := by kernel_rfl
theorem ag1 : aggB Try.prog 1 = some false := by kernel_rfl
theorem sz2 : szB Try.prog 2 = some 1 := by kernel_rfl
theorem by2 : byB Try.prog 2 = some 8 := by kernel_rfl
theorem ag2 : aggB Try.prog 2 = some false := by kernel_rfl
theorem ze2 : zeroB Try.prog 2 = some [.x (Value.int IntKind.i64 0)] := by kernel_rfl
theorem zm2 : zeroM Try.prog 2 = some (.x (Value.int IntKind.i64 0)) := by kernel_rfl
theorem sz3 : szB Try.prog 3 = some 1 := by kernel_rfl
theorem by3 : byB Try.prog 3 = some 8 := by kernel_rfl
theorem ag3 : aggB Try.prog 3 = some false := by kernel_rfl
theorem ze3 : zeroB Try.prog 3 = some [.x (Value.int IntKind.i64 0)] := by kernel_rfl
theorem zm3 : zeroM Try.prog 3 = some (.x (Value.int IntKind.i64 0)) := by kernel_rfl
theorem sz4 : szB Try.prog 4 = some 1 := by kernel_rfl
theorem by4 : byB Try.prog 4 = some 1 := by kernel_rfl
theorem ag4 : aggB Try.prog 4 = some false := by kernel_rfl
theorem ze4 : zeroB Try.prog 4 = some [.x (Value.bool false)] := by kernel_rfl
theorem zm4 : zeroM Try.prog 4 = some (.x (Value.bool false)) := by kernel_rfl
theorem sz5 : szB Try.prog 5 = some 1 := by kernel_rfl
theorem by5 : byB Try.prog 5 = some 1 := by kernel_rfl
theorem ag5 : aggB Try.prog 5 = some false := by kernel_rfl
theorem ze5 : zeroB Try.prog 5 = some [.x (Value.int IntKind.u8 0)] := by kernel_rfl
theorem zm5 : zeroM Try.prog 5 = some (.x (Value.int IntKind.u8 0)) := by kernel_rfl
theorem sz6 : szB Try.prog 6 = some 1 := by kernel_rfl
theorem by6 : byB Try.prog 6 = some 1 := by kernel_rfl
theorem ag6 : aggB Try.prog 6 = some false := by kernel_rfl
theorem ze6 : zeroB Try.prog 6 = some [.x (Value.int IntKind.u8 0)] := by kernel_rfl
theorem zm6 : zeroM Try.prog 6 = some (.x (Value.int IntKind.u8 0)) := by kernel_rfl
theorem sz7 : szB Try.prog 7 = some 4 := by kernel_rfl
theorem by7 : byB Try.prog 7 = some 24 := by kernel_rfl
theorem ag7 : aggB Try.prog 7 = some true := by kernel_rfl
theorem ze7 : zeroB Try.prog 7 = some [.x (Value.int IntKind.i64 0), .x (Value.int IntKind.i64 0), .x (Value.bool false), .x (Value.int IntKind.u8 0)] := by kernel_rfl
theorem zm7 : zeroM Try.prog 7 = some (.agg [.x (Value.int IntKind.i64 0), .x (Value.int IntKind.i64 0), .x (Value.bool false), .x (Value.int IntKind.u8 0)]) := by kernel_rfl
theorem sz8 : szB Try.prog 8 = some 4 := by kernel_rfl
theorem by8 : byB Try.prog 8 = some 24 := by kernel_rfl
theorem ag8 : aggB Try.prog 8 = some true := by kernel_rfl
theorem ze8 : zeroB Try.prog 8 = some [.x (Value.int IntKind.i64 0), .x (Value.int IntKind.i64 0), .x (Value.bool false), .x (Value.int IntKind.u8 0)] := by kernel_rfl
theorem zm8 : zeroM Try.prog 8 = some (.agg [.x (Value.int IntKind.i64 0), .x (Value.int IntKind.i64 0), .x (Value.bool false), .x (Value.int IntKind.u8 0)]) := by kernel_rfl
theorem sz9 : szB Try.prog 9 = some 1 := by kernel_rfl
theorem by9 : byB Try.prog 9 = some 16 := by kernel_rfl
theorem ag9 : aggB Try.prog 9 = some false := by kernel_rfl
theorem ze9 : zeroB Try.prog 9 = some [.x (Value.string ⟨#[]⟩)] := by kernel_rfl
theorem zm9 : zeroM Try.prog 9 = some (.x (Value.string ⟨#[]⟩)) := by kernel_rfl
theorem sz10 : szB Try.prog 10 = some 1 := by kernel_rfl
theorem by10 : byB Try.prog 10 = some 16 := by kernel_rfl
theorem ag10 : aggB Try.prog 10 = some false := by kernel_rfl
theorem ze10 : zeroB Try.prog 10 = some [.x (Value.string ⟨#[]⟩)] := by kernel_rfl
theorem zm10 : zeroM Try.prog 10 = some (.x (Value.string ⟨#[]⟩)) := by kernel_rfl
theorem sz11 : szB Try.prog 11 = some 1 := by kernel_rfl
theorem by11 : byB Try.prog 11 = some 16 := by kernel_rfl
theorem ag11 : aggB Try.prog 11 = some false := by kernel_rfl
theorem ze11 : zeroB Try.prog 11 = some [.x (Value.string ⟨#[]⟩)] := by kernel_rfl
theorem zm11 : zeroM Try.prog 11 = some (.x (Value.string ⟨#[]⟩)) := by kernel_rfl
theorem sz12 : szB Try.prog 12 = some 1 := by kernel_rfl
theorem by12 : byB Try.prog 12 = some 8 := by kernel_rfl
theorem ag12 : aggB Try.prog 12 = some false := by kernel_rfl
theorem ze12 : zeroB Try.prog 12 = some [.x (Value.int IntKind.u64 0)] := by kernel_rfl
theorem zm12 : zeroM Try.prog 12 = some (.x (Value.int IntKind.u64 0)) := by kernel_rfl
theorem sz13 : szB Try.prog 13 = some 2 := by kernel_rfl
theorem by13 : byB Try.prog 13 = some 24 := by kernel_rfl
theorem ag13 : aggB Try.prog 13 = some true := by kernel_rfl
theorem ze13 : zeroB Try.prog 13 = some [.x (Value.string ⟨#[]⟩), .x (Value.int IntKind.u64 0)] := by kernel_rfl
theorem zm13 : zeroM Try.prog 13 = some (.agg [.x (Value.string ⟨#[]⟩), .x (Value.int IntKind.u64 0)]) := by kernel_rfl
theorem sz14 : szB Try.prog 14 = some 2 := by kernel_rfl
theorem by14 : byB Try.prog 14 = some 24 := by kernel_rfl
theorem ag14 : aggB Try.prog 14 = some true := by kernel_rfl
theorem ze14 : zeroB Try.prog 14 = some [.x (Value.string ⟨#[]⟩), .x (Value.int IntKind.u64 0)] := by kernel_rfl
theorem zm14 : zeroM Try.prog 14 = some (.agg [.x (Value.string ⟨#[]⟩), .x (Value.int IntKind.u64 0)]) := by kernel_rfl
theorem sz15 : szB Try.prog 15 = some 1 := by kernel_rfl
theorem by15 : byB Try.prog 15 = some 8 := by kernel_rfl
theorem ag15 : aggB Try.prog 15 = some false := by kernel_rfl
theorem ze15 : zeroB Try.prog 15 = some [.x (Value.pointer none)] := by kernel_rfl
theorem zm15 : zeroM Try.prog 15 = some (.x (Value.pointer none)) := by kernel_rfl
theorem sz16 : szB Try.prog 16 = some 1 := by kernel_rfl
theorem by16 : byB Try.prog 16 = some 8 := by kernel_rfl
theorem ag16 : aggB Try.prog 16 = some false := by kernel_rfl
theorem ze16 : zeroB Try.prog 16 = some [.x (Value.pointer none)] := by kernel_rfl
theorem zm16 : zeroM Try.prog 16 = some (.x (Value.pointer none)) := by kernel_rfl
theorem sz17 : szB Try.prog 17 = some 1 := by kernel_rfl
theorem by17 : byB Try.prog 17 = some 8 := by kernel_rfl
theorem ag17 : aggB Try.prog 17 = some false := by kernel_rfl
theorem ze17 : zeroB Try.prog 17 = some [.x (Value.pointer none)] := by kernel_rfl
theorem zm17 : zeroM Try.prog 17 = some (.x (Value.pointer none)) := by kernel_rfl
theorem sz18 : szB Try.prog 18 = some 1 := by kernel_rfl
theorem by18 : byB Try.prog 18 = some 8 := by kernel_rfl
theorem ag18 : aggB Try.prog 18 = some true := by kernel_rfl
theorem ze18 : zeroB Try.prog 18 = some [.x (Value.pointer none)] := by kernel_rfl
theorem zm18 : zeroM Try.prog 18 = some (.agg [.x (Value.pointer none)]) := by kernel_rfl
theorem sz19 : szB Try.prog 19 = some 1 := by kernel_rfl
theorem by19 : byB Try.prog 19 = some 8 := by kernel_rfl
theorem ag19 : aggB Try.prog 19 = some true := by kernel_rfl
theorem ze19 : zeroB Try.prog 19 = some [.x (Value.pointer none)] := by kernel_rfl
theorem zm19 : zeroM Try.prog 19 = some (.agg [.x (Value.pointer none)]) := by kernel_rfl
theorem sz20 : szB Try.prog 20 = some 1 := by kernel_rfl
theorem by20 : byB Try.prog 20 = some 16 := by kernel_rfl
theorem ag20 : aggB Try.prog 20 = some false := by kernel_rfl
theorem sz21 : szB Try.prog 21 = some 1 := by kernel_rfl
theorem by21 : byB Try.prog 21 = some 4 := by kernel_rfl
theorem ag21 : aggB Try.prog 21 = some false := by kernel_rfl
theorem ze21 : zeroB Try.prog 21 = some [.x (Value.int IntKind.i32 0)] := by kernel_rfl
theorem zm21 : zeroM Try.prog 21 = some (.x (Value.int IntKind.i32 0)) := by kernel_rfl
theorem sz22 : szB Try.prog 22 = some 3 := by kernel_rfl
theorem by22 : byB Try.prog 22 = some 24 := by kernel_rfl
theorem ag22 : aggB Try.prog 22 = some true := by kernel_rfl
theorem ze22 : zeroB Try.prog 22 = some [.x (Value.int IntKind.i64 0), .x (Value.int IntKind.i64 0), .x (Value.int IntKind.i64 0)] := by kernel_rfl
theorem zm22 : zeroM Try.prog 22 = some (.agg [.x (Value.int IntKind.i64 0), .x (Value.int IntKind.i64 0), .x (Value.int IntKind.i64 0)]) := by kernel_rfl
theorem sz23 : szB Try.prog 23 = some 3 := by kernel_rfl
theorem by23 : byB Try.prog 23 = some 24 := by kernel_rfl
theorem ag23 : aggB Try.prog 23 = some true := by kernel_rfl
theorem ze23 : zeroB Try.prog 23 = some [.x (Value.int IntKind.i64 0), .x (Value.int IntKind.i64 0), .x (Value.int IntKind.i64 0)] := by kernel_rfl
theorem zm23 : zeroM Try.prog 23 = some (.agg [.x (Value.int IntKind.i64 0), .x (Value.int IntKind.i64 0), .x (Value.int IntKind.i64 0)]) := by kernel_rfl
theorem sz24 : szB Try.prog 24 = some 1 := by kernel_rfl
theorem by24 : byB Try.prog 24 = some 8 := by kernel_rfl
theorem ag24 : aggB Try.prog 24 = some false := by kernel_rfl
theorem sz25 : szB Try.prog 25 = some 1 := by kernel_rfl
theorem by25 : byB Try.prog 25 = some 8 := by kernel_rfl
theorem ag25 : aggB Try.prog 25 = some false := by kernel_rfl
theorem sz26 : szB Try.prog 26 = some 1 := by kernel_rfl
theorem by26 : byB Try.prog 26 = some 8 := by kernel_rfl
theorem ag26 : aggB Try.prog 26 = some false := by kernel_rfl
theorem sz27 : szB Try.prog 27 = some 1 := by kernel_rfl
theorem by27 : byB Try.prog 27 = some 24 := by kernel_rfl
theorem ag27 : aggB Try.prog 27 = some false := by kernel_rfl
theorem ze27 : zeroB Try.prog 27 = some [.sl true 0 [] none] := by kernel_rfl
theorem zm27 : zeroM Try.prog 27 = some (.sl true 0 [] none) := by kernel_rfl
theorem sz28 : szB Try.prog 28 = some 1 := by kernel_rfl
theorem by28 : byB Try.prog 28 = some 8 := by kernel_rfl
theorem ag28 : aggB Try.prog 28 = some false := by kernel_rfl
theorem sz29 : szB Try.prog 29 = some 1 := by kernel_rfl
theorem by29 : byB Try.prog 29 = some 8 := by kernel_rfl
theorem ag29 : aggB Try.prog 29 = some false := by kernel_rfl
theorem sz30 : szB Try.prog 30 = some 1 := by kernel_rfl
theorem by30 : byB Try.prog 30 = some 8 := by kernel_rfl
theorem ag30 : aggB Try.prog 30 = some false := by kernel_rfl
theorem sz31 : szB Try.prog 31 = some 1 := by kernel_rfl
theorem by31 : byB Try.prog 31 = some 8 := by kernel_rfl
theorem ag31 : aggB Try.prog 31 = some false := by kernel_rfl
theorem sz32 : szB Try.prog 32 = some 1 := by kernel_rfl
theorem by32 : byB Try.prog 32 = some 24 := by kernel_rfl
theorem ag32 : aggB Try.prog 32 = some false := by kernel_rfl
theorem ze32 : zeroB Try.prog 32 = some [.sl true 0 [] none] := by kernel_rfl
theorem zm32 : zeroM Try.prog 32 = some (.sl true 0 [] none) := by kernel_rfl
theorem sz33 : szB Try.prog 33 = some 1 := by kernel_rfl
theorem by33 : byB Try.prog 33 = some 8 := by kernel_rfl
theorem ag33 : aggB Try.prog 33 = some false := by kernel_rfl
theorem sz34 : szB Try.prog 34 = some 1 := by kernel_rfl
theorem by34 : byB Try.prog 34 = some 8 := by kernel_rfl
theorem ag34 : aggB Try.prog 34 = some false := by kernel_rfl
theorem sz35 : szB Try.prog 35 = some 4 := by kernel_rfl
theorem by35 : byB Try.prog 35 = some 40 := by kernel_rfl
theorem ag35 : aggB Try.prog 35 = some true := by kernel_rfl
theorem ze35 : zeroB Try.prog 35 = some [.x (Value.pointer none), .x (Value.pointer none), .x (Value.pointer none), .x (Value.string ⟨#[]⟩)] := by kernel_rfl
theorem zm35 : zeroM Try.prog 35 = some (.agg [.x (Value.pointer none), .x (Value.pointer none), .x (Value.pointer none), .x (Value.string ⟨#[]⟩)]) := by kernel_rfl
theorem sz36 : szB Try.prog 36 = some 4 := by kernel_rfl
theorem by36 : byB Try.prog 36 = some 40 := by kernel_rfl
theorem ag36 : aggB Try.prog 36 = some true := by kernel_rfl
theorem ze36 : zeroB Try.prog 36 = some [.x (Value.pointer none), .x (Value.pointer none), .x (Value.pointer none), .x (Value.string ⟨#[]⟩)] := by kernel_rfl
theorem zm36 : zeroM Try.prog 36 = some (.agg [.x (Value.pointer none), .x (Value.pointer none), .x (Value.pointer none), .x (Value.string ⟨#[]⟩)]) := by kernel_rfl
theorem sz37 : szB Try.prog 37 = some 0 := by kernel_rfl
theorem by37 : byB Try.prog 37 = some 0 := by kernel_rfl
theorem ag37 : aggB Try.prog 37 = some true := by kernel_rfl
theorem ze37 : zeroB Try.prog 37 = some [] := by kernel_rfl
theorem zm37 : zeroM Try.prog 37 = some (.agg []) := by kernel_rfl
theorem sz38 : szB Try.prog 38 = some 0 := by kernel_rfl
theorem by38 : byB Try.prog 38 = some 0 := by kernel_rfl
theorem ag38 : aggB Try.prog 38 = some true := by kernel_rfl
theorem ze38 : zeroB Try.prog 38 = some [] := by kernel_rfl
theorem zm38 : zeroM Try.prog 38 = some (.agg []) := by kernel_rfl
theorem sz39 : szB Try.prog 39 = some 0 := by kernel_rfl
theorem by39 : byB Try.prog 39 = some 0 := by kernel_rfl
theorem ag39 : aggB Try.prog 39 = some true := by kernel_rfl
theorem ze39 : zeroB Try.prog 39 = some [] := by kernel_rfl
theorem zm39 : zeroM Try.prog 39 = some (.agg []) := by kernel_rfl
theorem sz40 : szB Try.prog 40 = some 1 := by kernel_rfl
theorem by40 : byB Try.prog 40 = some 8 := by kernel_rfl
theorem ag40 : aggB Try.prog 40 = some false := by kernel_rfl
theorem sz41 : szB Try.prog 41 = some 1 := by kernel_rfl
theorem by41 : byB Try.prog 41 = some 4 := by kernel_rfl
theorem ag41 : aggB Try.prog 41 = some false := by kernel_rfl
theorem ze41 : zeroB Try.prog 41 = some [.x (Value.int IntKind.u32 0)] := by kernel_rfl
theorem zm41 : zeroM Try.prog 41 = some (.x (Value.int IntKind.u32 0)) := by kernel_rfl
theorem sz42 : szB Try.prog 42 = some 1 := by kernel_rfl
theorem by42 : byB Try.prog 42 = some 1 := by kernel_rfl
theorem ag42 : aggB Try.prog 42 = some false := by kernel_rfl
theorem ze42 : zeroB Try.prog 42 = some [.x (Value.int IntKind.u8 0)] := by kernel_rfl
theorem zm42 : zeroM Try.prog 42 = some (.x (Value.int IntKind.u8 0)) := by kernel_rfl
theorem sz43 : szB Try.prog 43 = some 1 := by kernel_rfl
theorem by43 : byB Try.prog 43 = some 1 := by kernel_rfl
theorem ag43 : aggB Try.prog 43 = some false := by kernel_rfl
theorem ze43 : zeroB Try.prog 43 = some [.x (Value.int IntKind.u8 0)] := by kernel_rfl
theorem zm43 : zeroM Try.prog 43 = some (.x (Value.int IntKind.u8 0)) := by kernel_rfl
theorem sz44 : szB Try.prog 44 = some 1 := by kernel_rfl
theorem by44 : byB Try.prog 44 = some 8 := by kernel_rfl
theorem ag44 : aggB Try.prog 44 = some false := by kernel_rfl
theorem sz45 : szB Try.prog 45 = some 1 := by kernel_rfl
theorem by45 : byB Try.prog 45 = some 8 := by kernel_rfl
theorem ag45 : aggB Try.prog 45 = some false := by kernel_rfl
theorem ze45 : zeroB Try.prog 45 = some [.x (Value.pointer none)] := by kernel_rfl
theorem zm45 : zeroM Try.prog 45 = some (.x (Value.pointer none)) := by kernel_rfl
theorem sz46 : szB Try.prog 46 = some 1 := by kernel_rfl
theorem by46 : byB Try.prog 46 = some 4 := by kernel_rfl
theorem ag46 : aggB Try.prog 46 = some false := by kernel_rfl
theorem ze46 : zeroB Try.prog 46 = some [.x (Value.int IntKind.i32 0)] := by kernel_rfl
theorem zm46 : zeroM Try.prog 46 = some (.x (Value.int IntKind.i32 0)) := by kernel_rfl
theorem sz47 : szB Try.prog 47 = some 1 := by kernel_rfl
theorem by47 : byB Try.prog 47 = some 4 := by kernel_rfl
theorem ag47 : aggB Try.prog 47 = some false := by kernel_rfl
theorem ze47 : zeroB Try.prog 47 = some [.x (Value.int IntKind.i32 0)] := by kernel_rfl
theorem zm47 : zeroM Try.prog 47 = some (.x (Value.int IntKind.i32 0)) := by kernel_rfl
theorem sz48 : szB Try.prog 48 = some 11 := by kernel_rfl
theorem by48 : byB Try.prog 48 = some 48 := by kernel_rfl
theorem ag48 : aggB Try.prog 48 = some true := by kernel_rfl
theorem ze48 : zeroB Try.prog 48 = some [.x (Value.int IntKind.u64 0), .x (Value.int IntKind.u64 0), .x (Value.int IntKind.u32 0), .x (Value.int IntKind.u8 0), .x (Value.int IntKind.u8 0), .x (Value.int IntKind.u8 0), .x (Value.int IntKind.u8 0), .x (Value.nilFunc), .x (Value.pointer none), .x (Value.int IntKind.i32 0), .x (Value.int IntKind.i32 0)] := by kernel_rfl
theorem zm48 : zeroM Try.prog 48 = some (.agg [.x (Value.int IntKind.u64 0), .x (Value.int IntKind.u64 0), .x (Value.int IntKind.u32 0), .x (Value.int IntKind.u8 0), .x (Value.int IntKind.u8 0), .x (Value.int IntKind.u8 0), .x (Value.int IntKind.u8 0), .x (Value.nilFunc), .x (Value.pointer none), .x (Value.int IntKind.i32 0), .x (Value.int IntKind.i32 0)]) := by kernel_rfl
theorem sz49 : szB Try.prog 49 = some 11 := by kernel_rfl
theorem by49 : byB Try.prog 49 = some 48 := by kernel_rfl
theorem ag49 : aggB Try.prog 49 = some true := by kernel_rfl
theorem ze49 : zeroB Try.prog 49 = some [.x (Value.int IntKind.u64 0), .x (Value.int IntKind.u64 0), .x (Value.int IntKind.u32 0), .x (Value.int IntKind.u8 0), .x (Value.int IntKind.u8 0), .x (Value.int IntKind.u8 0), .x (Value.int IntKind.u8 0), .x (Value.nilFunc), .x (Value.pointer none), .x (Value.int IntKind.i32 0), .x (Value.int IntKind.i32 0)] := by kernel_rfl
theorem zm49 : zeroM Try.prog 49 = some (.agg [.x (Value.int IntKind.u64 0), .x (Value.int IntKind.u64 0), .x (Value.int IntKind.u32 0), .x (Value.int IntKind.u8 0), .x (Value.int IntKind.u8 0), .x (Value.int IntKind.u8 0), .x (Value.int IntKind.u8 0), .x (Value.nilFunc), .x (Value.pointer none), .x (Value.int IntKind.i32 0), .x (Value.int IntKind.i32 0)]) := by kernel_rfl
theorem sz50 : szB Try.prog 50 = some 1 := by kernel_rfl
theorem by50 : byB Try.prog 50 = some 8 := by kernel_rfl
theorem ag50 : aggB Try.prog 50 = some false := by kernel_rfl
theorem ze50 : zeroB Try.prog 50 = some [.x (Value.pointer none)] := by kernel_rfl
theorem zm50 : zeroM Try.prog 50 = some (.x (Value.pointer none)) := by kernel_rfl
attribute [go_sem] sz0 by0 sz1 by1 sz2 by2 sz3 by3 sz4 by4 sz5 by5 sz6 by6 sz7 by7 sz8 by8 sz9 by9 sz10 by10 sz11 by11 sz12 by12 sz13 by13 sz14 by14 sz15 by15 sz16 by16 sz17 by17 sz18 by18 sz19 by19 sz20 by20 sz21 by21 sz22 by22 sz23 by23 sz24 by24 sz25 by25 sz26 by26 sz27 by27 sz28 by28 sz29 by29 sz30 by30 sz31 by31 sz32 by32 sz33 by33 sz34 by34 sz35 by35 sz36 by36 sz37 by37 sz38 by38 sz39 by39 sz40 by40 sz41 by41 sz42 by42 sz43 by43 sz44 by44 sz45 by45 sz46 by46 sz47 by47 sz48 by48 sz49 by49 sz50 by50 ag0 ag1 ag2 ag3 ag4 ag5 ag6 ag7 ag8 ag9 ag10 ag11 ag12 ag13 ag14 ag15 ag16 ag17 ag18 ag19 ag20 ag21 ag22 ag23 ag24 ag25 ag26 ag27 ag28 ag29 ag30 ag31 ag32 ag33 ag34 ag35 ag36 ag37 ag38 ag39 ag40 ag41 ag42 ag43 ag44 ag45 ag46 ag47 ag48 ag49 ag50 ze0 zm0 ze2 zm2 ze3 zm3 ze4 zm4 ze5 zm5 ze6 zm6 ze7 zm7 ze8 zm8 ze9 zm9 ze10 zm10 ze11 zm11 ze12 zm12 ze13 zm13 ze14 zm14 ze15 zm15 ze16 zm16 ze17 zm17 ze18 zm18 ze19 zm19 ze21 zm21 ze22 zm22 ze23 zm23 ze27 zm27 ze32 zm32 ze35 zm35 ze36 zm36 ze37 zm37 ze38 zm38 ze39 zm39 ze41 zm41 ze42 zm42 ze43 zm43 ze45 zm45 ze46 zm46 ze47 zm47 ze48 zm48 ze49 zm49 ze50 zm50 Try.underlying0 Try.underlying1 Try.underlying2 Try.underlying3 Try.underlying4 Try.underlying5 Try.underlying6 Try.underlying7 Try.eqGuardType7 Try.stoodInHeld7 Try.underlying8 Try.eqGuardType8 Try.stoodInHeld8 Try.underlying9 Try.underlying10 Try.underlying11 Try.underlying12 Try.underlying13 Try.eqGuardType13 Try.stoodInHeld13 Try.underlying14 Try.eqGuardType14 Try.stoodInHeld14 Try.underlying15 Try.underlying16 Try.underlying17 Try.underlying18 Try.eqGuardType18 Try.stoodInHeld18 Try.underlying19 Try.eqGuardType19 Try.stoodInHeld19 Try.underlying20 Try.underlying21 Try.underlying22 Try.eqGuardType22 Try.stoodInHeld22 Try.underlying23 Try.eqGuardType23 Try.stoodInHeld23 Try.underlying24 Try.underlying25 Try.underlying26 Try.underlying27 Try.underlying28 Try.underlying29 Try.underlying30 Try.underlying31 Try.underlying32 Try.underlying33 Try.underlying34 Try.underlying35 Try.eqGuardType35 Try.stoodInHeld35 Try.underlying36 Try.eqGuardType36 Try.stoodInHeld36 Try.underlying37 Try.eqGuardType37 Try.underlying38 Try.eqGuardType38 Try.stoodInHeld38 Try.underlying39 Try.eqGuardType39 Try.stoodInHeld39 Try.underlying40 Try.underlying41 Try.underlying42 Try.underlying43 Try.underlying44 Try.underlying45 Try.underlying46 Try.underlying47 Try.underlying48 Try.eqGuardType48 Try.stoodInHeld48 Try.underlying49 Try.eqGuardType49 Try.stoodInHeld49 Try.underlying50
end Go.Proofs.Ytkacldoiimlmcaa

/- What the run over plain data asks of each type of this seat's program, by program. -/
import Derived.Test.YtakcoalbidjahaaGreatDoorMPB
import Derived.Test.YtakcoalbidjahaaGreatDoorProg
import Derived.KernelRfl
namespace Go.Proofs.YtakcoalbidjahaaGreatDoor
open Go Go.RowKit
theorem sz0 : szB Tryz.prog 0 = some 1 := by kernel_rfl
theorem by0 : byB Tryz.prog 0 = some 0 := by kernel_rfl
theorem ag0 : aggB Tryz.prog 0 = some false := by kernel_rfl
theorem ze0 : zeroB Tryz.prog 0 = some [.x (Value.tuple #[])] := by kernel_rfl
theorem zm0 : zeroM Tryz.prog 0 = some (.x (Value.tuple #[])) := by kernel_rfl
theorem sz1 : szB Tryz.prog 1 = some 1 := by kernel_rfl
theorem by1 : byB Tryz.prog 1 = some 8 := by kernel_rfl
theorem ag1 : aggB Tryz.prog 1 = some false := by kernel_rfl
theorem sz2 : szB Tryz.prog 2 = some 1 := by kernel_rfl
theorem by2 : byB Tryz.prog 2 = some 8 := by kernel_rfl
theorem ag2 : aggB Tryz.prog 2 = some false := by kernel_rfl
theorem ze2 : zeroB Tryz.prog 2 = some [.x (Value.int IntKind.i64 0)] := by kernel_rfl
theorem zm2 : zeroM Tryz.prog 2 = some (.x (Value.int IntKind.i64 0)) := by kernel_rfl
theorem sz3 : szB Tryz.prog 3 = some 1 := by kernel_rfl
theorem by3 : byB Tryz.prog 3 = some 8 := by kernel_rfl
theorem ag3 : aggB Tryz.prog 3 = some false := by kernel_rfl
theorem ze3 : zeroB Tryz.prog 3 = some [.x (Value.int IntKind.i64 0)] := by kernel_rfl
theorem zm3 : zeroM Tryz.prog 3 = some (.x (Value.int IntKind.i64 0)) := by kernel_rfl
theorem sz4 : szB Tryz.prog 4 = some 1 := by kernel_rfl
theorem by4 : byB Tryz.prog 4 = some 1 := by kernel_rfl
theorem ag4 : aggB Tryz.prog 4 = some false := by kernel_rfl
theorem ze4 : zeroB Tryz.prog 4 = some [.x (Value.bool false)] := by kernel_rfl
theorem zm4 : zeroM Tryz.prog 4 = some (.x (Value.bool false)) := by kernel_rfl
theorem sz5 : szB Tryz.prog 5 = some 1 := by kernel_rfl
theorem by5 : byB Tryz.prog 5 = some 1 := by kernel_rfl
theorem ag5 : aggB Tryz.prog 5 = some false := by kernel_rfl
theorem ze5 : zeroB Tryz.prog 5 = some [.x (Value.int IntKind.u8 0)] := by kernel_rfl
theorem zm5 : zeroM Tryz.prog 5 = some (.x (Value.int IntKind.u8 0)) := by kernel_rfl
theorem sz6 : szB Tryz.prog 6 = some 1 := by kernel_rfl
theorem by6 : byB Tryz.prog 6 = some 1 := by kernel_rfl
theorem ag6 : aggB Tryz.prog 6 = some false := by kernel_rfl
theorem ze6 : zeroB Tryz.prog 6 = some [.x (Value.int IntKind.u8 0)] := by kernel_rfl
theorem zm6 : zeroM Tryz.prog 6 = some (.x (Value.int IntKind.u8 0)) := by kernel_rfl
theorem sz7 : szB Tryz.prog 7 = some 4 := by kernel_rfl
theorem by7 : byB Tryz.prog 7 = some 24 := by kernel_rfl
theorem ag7 : aggB Tryz.prog 7 = some true := by kernel_rfl
theorem ze7 : zeroB Tryz.prog 7 = some [.x (Value.int IntKind.i64 0), .x (Value.int IntKind.i64 0), .x (Value.bool false), .x (Value.int IntKind.u8 0)] := by kernel_rfl
theorem zm7 : zeroM Tryz.prog 7 = some (.agg [.x (Value.int IntKind.i64 0), .x (Value.int IntKind.i64 0), .x (Value.bool false), .x (Value.int IntKind.u8 0)]) := by kernel_rfl
theorem sz8 : szB Tryz.prog 8 = some 4 := by kernel_rfl
theorem by8 : byB Tryz.prog 8 = some 24 := by kernel_rfl
theorem ag8 : aggB Tryz.prog 8 = some true := by kernel_rfl
theorem ze8 : zeroB Tryz.prog 8 = some [.x (Value.int IntKind.i64 0), .x (Value.int IntKind.i64 0), .x (Value.bool false), .x (Value.int IntKind.u8 0)] := by kernel_rfl
theorem zm8 : zeroM Tryz.prog 8 = some (.agg [.x (Value.int IntKind.i64 0), .x (Value.int IntKind.i64 0), .x (Value.bool false), .x (Value.int IntKind.u8 0)]) := by kernel_rfl
theorem sz9 : szB Tryz.prog 9 = some 1 := by kernel_rfl
theorem by9 : byB Tryz.prog 9 = some 16 := by kernel_rfl
theorem ag9 : aggB Tryz.prog 9 = some false := by kernel_rfl
theorem ze9 : zeroB Tryz.prog 9 = some [.x (Value.string ⟨#[]⟩)] := by kernel_rfl
theorem zm9 : zeroM Tryz.prog 9 = some (.x (Value.string ⟨#[]⟩)) := by kernel_rfl
theorem sz10 : szB Tryz.prog 10 = some 1 := by kernel_rfl
theorem by10 : byB Tryz.prog 10 = some 16 := by kernel_rfl
theorem ag10 : aggB Tryz.prog 10 = some false := by kernel_rfl
theorem ze10 : zeroB Tryz.prog 10 = some [.x (Value.string ⟨#[]⟩)] := by kernel_rfl
theorem zm10 : zeroM Tryz.prog 10 = some (.x (Value.string ⟨#[]⟩)) := by kernel_rfl
theorem sz11 : szB Tryz.prog 11 = some 1 := by kernel_rfl
theorem by11 : byB Tryz.prog 11 = some 16 := by kernel_rfl
theorem ag11 : aggB Tryz.prog 11 = some false := by kernel_rfl
theorem ze11 : zeroB Tryz.prog 11 = some [.x (Value.string ⟨#[]⟩)] := by kernel_rfl
theorem zm11 : zeroM Tryz.prog 11 = some (.x (Value.string ⟨#[]⟩)) := by kernel_rfl
theorem sz12 : szB Tryz.prog 12 = some 1 := by kernel_rfl
theorem by12 : byB Tryz.prog 12 = some 8 := by kernel_rfl
theorem ag12 : aggB Tryz.prog 12 = some false := by kernel_rfl
theorem ze12 : zeroB Tryz.prog 12 = some [.x (Value.int IntKind.u64 0)] := by kernel_rfl
theorem zm12 : zeroM Tryz.prog 12 = some (.x (Value.int IntKind.u64 0)) := by kernel_rfl
theorem sz13 : szB Tryz.prog 13 = some 2 := by kernel_rfl
theorem by13 : byB Tryz.prog 13 = some 24 := by kernel_rfl
theorem ag13 : aggB Tryz.prog 13 = some true := by kernel_rfl
theorem ze13 : zeroB Tryz.prog 13 = some [.x (Value.string ⟨#[]⟩), .x (Value.int IntKind.u64 0)] := by kernel_rfl
theorem zm13 : zeroM Tryz.prog 13 = some (.agg [.x (Value.string ⟨#[]⟩), .x (Value.int IntKind.u64 0)]) := by kernel_rfl
theorem sz14 : szB Tryz.prog 14 = some 2 := by kernel_rfl
theorem by14 : byB Tryz.prog 14 = some 24 := by kernel_rfl
theorem ag14 : aggB Tryz.prog 14 = some true := by kernel_rfl
theorem ze14 : zeroB Tryz.prog 14 = some [.x (Value.string ⟨#[]⟩), .x (Value.int IntKind.u64 0)] := by kernel_rfl
theorem zm14 : zeroM Tryz.prog 14 = some (.agg [.x (Value.string ⟨#[]⟩), .x (Value.int IntKind.u64 0)]) := by kernel_rfl
theorem sz15 : szB Tryz.prog 15 = some 1 := by kernel_rfl
theorem by15 : byB Tryz.prog 15 = some 8 := by kernel_rfl
theorem ag15 : aggB Tryz.prog 15 = some false := by kernel_rfl
theorem ze15 : zeroB Tryz.prog 15 = some [.x (Value.pointer none)] := by kernel_rfl
theorem zm15 : zeroM Tryz.prog 15 = some (.x (Value.pointer none)) := by kernel_rfl
theorem sz16 : szB Tryz.prog 16 = some 1 := by kernel_rfl
theorem by16 : byB Tryz.prog 16 = some 8 := by kernel_rfl
theorem ag16 : aggB Tryz.prog 16 = some false := by kernel_rfl
theorem ze16 : zeroB Tryz.prog 16 = some [.x (Value.pointer none)] := by kernel_rfl
theorem zm16 : zeroM Tryz.prog 16 = some (.x (Value.pointer none)) := by kernel_rfl
theorem sz17 : szB Tryz.prog 17 = some 1 := by kernel_rfl
theorem by17 : byB Tryz.prog 17 = some 8 := by kernel_rfl
theorem ag17 : aggB Tryz.prog 17 = some false := by kernel_rfl
theorem ze17 : zeroB Tryz.prog 17 = some [.x (Value.pointer none)] := by kernel_rfl
theorem zm17 : zeroM Tryz.prog 17 = some (.x (Value.pointer none)) := by kernel_rfl
theorem sz18 : szB Tryz.prog 18 = some 1 := by kernel_rfl
theorem by18 : byB Tryz.prog 18 = some 8 := by kernel_rfl
theorem ag18 : aggB Tryz.prog 18 = some true := by kernel_rfl
theorem ze18 : zeroB Tryz.prog 18 = some [.x (Value.pointer none)] := by kernel_rfl
theorem zm18 : zeroM Tryz.prog 18 = some (.agg [.x (Value.pointer none)]) := by kernel_rfl
theorem sz19 : szB Tryz.prog 19 = some 1 := by kernel_rfl
theorem by19 : byB Tryz.prog 19 = some 8 := by kernel_rfl
theorem ag19 : aggB Tryz.prog 19 = some true := by kernel_rfl
theorem ze19 : zeroB Tryz.prog 19 = some [.x (Value.pointer none)] := by kernel_rfl
theorem zm19 : zeroM Tryz.prog 19 = some (.agg [.x (Value.pointer none)]) := by kernel_rfl
theorem sz20 : szB Tryz.prog 20 = some 1 := by kernel_rfl
theorem by20 : byB Tryz.prog 20 = some 16 := by kernel_rfl
theorem ag20 : aggB Tryz.prog 20 = some false := by kernel_rfl
theorem sz21 : szB Tryz.prog 21 = some 1 := by kernel_rfl
theorem by21 : byB Tryz.prog 21 = some 4 := by kernel_rfl
theorem ag21 : aggB Tryz.prog 21 = some false := by kernel_rfl
theorem ze21 : zeroB Tryz.prog 21 = some [.x (Value.int IntKind.i32 0)] := by kernel_rfl
theorem zm21 : zeroM Tryz.prog 21 = some (.x (Value.int IntKind.i32 0)) := by kernel_rfl
theorem sz22 : szB Tryz.prog 22 = some 1 := by kernel_rfl
theorem by22 : byB Tryz.prog 22 = some 24 := by kernel_rfl
theorem ag22 : aggB Tryz.prog 22 = some false := by kernel_rfl
theorem ze22 : zeroB Tryz.prog 22 = some [.sl true 0 [] none] := by kernel_rfl
theorem zm22 : zeroM Tryz.prog 22 = some (.sl true 0 [] none) := by kernel_rfl
theorem sz23 : szB Tryz.prog 23 = some 1 := by kernel_rfl
theorem by23 : byB Tryz.prog 23 = some 8 := by kernel_rfl
theorem ag23 : aggB Tryz.prog 23 = some false := by kernel_rfl
theorem sz24 : szB Tryz.prog 24 = some 1 := by kernel_rfl
theorem by24 : byB Tryz.prog 24 = some 8 := by kernel_rfl
theorem ag24 : aggB Tryz.prog 24 = some false := by kernel_rfl
theorem sz25 : szB Tryz.prog 25 = some 3 := by kernel_rfl
theorem by25 : byB Tryz.prog 25 = some 32 := by kernel_rfl
theorem ag25 : aggB Tryz.prog 25 = some true := by kernel_rfl
theorem ze25 : zeroB Tryz.prog 25 = some [.x (Value.int IntKind.i64 0), .x (Value.int IntKind.i64 0), .x (Value.string ⟨#[]⟩)] := by kernel_rfl
theorem zm25 : zeroM Tryz.prog 25 = some (.agg [.x (Value.int IntKind.i64 0), .x (Value.int IntKind.i64 0), .x (Value.string ⟨#[]⟩)]) := by kernel_rfl
theorem sz26 : szB Tryz.prog 26 = some 3 := by kernel_rfl
theorem by26 : byB Tryz.prog 26 = some 32 := by kernel_rfl
theorem ag26 : aggB Tryz.prog 26 = some true := by kernel_rfl
theorem ze26 : zeroB Tryz.prog 26 = some [.x (Value.int IntKind.i64 0), .x (Value.int IntKind.i64 0), .x (Value.string ⟨#[]⟩)] := by kernel_rfl
theorem zm26 : zeroM Tryz.prog 26 = some (.agg [.x (Value.int IntKind.i64 0), .x (Value.int IntKind.i64 0), .x (Value.string ⟨#[]⟩)]) := by kernel_rfl
theorem sz27 : szB Tryz.prog 27 = some 1 := by kernel_rfl
theorem by27 : byB Tryz.prog 27 = some 8 := by kernel_rfl
theorem ag27 : aggB Tryz.prog 27 = some false := by kernel_rfl
theorem sz28 : szB Tryz.prog 28 = some 1 := by kernel_rfl
theorem by28 : byB Tryz.prog 28 = some 8 := by kernel_rfl
theorem ag28 : aggB Tryz.prog 28 = some false := by kernel_rfl
theorem sz29 : szB Tryz.prog 29 = some 1 := by kernel_rfl
theorem by29 : byB Tryz.prog 29 = some 8 := by kernel_rfl
theorem ag29 : aggB Tryz.prog 29 = some false := by kernel_rfl
theorem sz30 : szB Tryz.prog 30 = some 1 := by kernel_rfl
theorem by30 : byB Tryz.prog 30 = some 24 := by kernel_rfl
theorem ag30 : aggB Tryz.prog 30 = some false := by kernel_rfl
theorem ze30 : zeroB Tryz.prog 30 = some [.sl true 0 [] none] := by kernel_rfl
theorem zm30 : zeroM Tryz.prog 30 = some (.sl true 0 [] none) := by kernel_rfl
theorem sz31 : szB Tryz.prog 31 = some 1 := by kernel_rfl
theorem by31 : byB Tryz.prog 31 = some 8 := by kernel_rfl
theorem ag31 : aggB Tryz.prog 31 = some false := by kernel_rfl
theorem sz32 : szB Tryz.prog 32 = some 1 := by kernel_rfl
theorem by32 : byB Tryz.prog 32 = some 8 := by kernel_rfl
theorem ag32 : aggB Tryz.prog 32 = some false := by kernel_rfl
theorem sz33 : szB Tryz.prog 33 = some 1 := by kernel_rfl
theorem by33 : byB Tryz.prog 33 = some 8 := by kernel_rfl
theorem ag33 : aggB Tryz.prog 33 = some false := by kernel_rfl
theorem sz34 : szB Tryz.prog 34 = some 1 := by kernel_rfl
theorem by34 : byB Tryz.prog 34 = some 8 := by kernel_rfl
theorem ag34 : aggB Tryz.prog 34 = some false := by kernel_rfl
theorem sz35 : szB Tryz.prog 35 = some 1 := by kernel_rfl
theorem by35 : byB Tryz.prog 35 = some 8 := by kernel_rfl
theorem ag35 : aggB Tryz.prog 35 = some false := by kernel_rfl
theorem sz36 : szB Tryz.prog 36 = some 1 := by kernel_rfl
theorem by36 : byB Tryz.prog 36 = some 8 := by kernel_rfl
theorem ag36 : aggB Tryz.prog 36 = some false := by kernel_rfl
theorem sz37 : szB Tryz.prog 37 = some 1 := by kernel_rfl
theorem by37 : byB Tryz.prog 37 = some 8 := by kernel_rfl
theorem ag37 : aggB Tryz.prog 37 = some false := by kernel_rfl
theorem sz38 : szB Tryz.prog 38 = some 1 := by kernel_rfl
theorem by38 : byB Tryz.prog 38 = some 8 := by kernel_rfl
theorem ag38 : aggB Tryz.prog 38 = some false := by kernel_rfl
theorem sz39 : szB Tryz.prog 39 = some 1 := by kernel_rfl
theorem by39 : byB Tryz.prog 39 = some 8 := by kernel_rfl
theorem ag39 : aggB Tryz.prog 39 = some false := by kernel_rfl
theorem sz40 : szB Tryz.prog 40 = some 1 := by kernel_rfl
theorem by40 : byB Tryz.prog 40 = some 8 := by kernel_rfl
theorem ag40 : aggB Tryz.prog 40 = some false := by kernel_rfl
theorem sz41 : szB Tryz.prog 41 = some 1 := by kernel_rfl
theorem by41 : byB Tryz.prog 41 = some 8 := by kernel_rfl
theorem ag41 : aggB Tryz.prog 41 = some false := by kernel_rfl
theorem sz42 : szB Tryz.prog 42 = some 1 := by kernel_rfl
theorem by42 : byB Tryz.prog 42 = some 8 := by kernel_rfl
theorem ag42 : aggB Tryz.prog 42 = some false := by kernel_rfl
theorem sz43 : szB Tryz.prog 43 = some 1 := by kernel_rfl
theorem by43 : byB Tryz.prog 43 = some 0 := by kernel_rfl
theorem ag43 : aggB Tryz.prog 43 = some false := by kernel_rfl
theorem ze43 : zeroB Tryz.prog 43 = some [.x (Value.tuple #[Value.slice none 0 0, Value.bool false])] := by kernel_rfl
theorem zm43 : zeroM Tryz.prog 43 = some (.x (Value.tuple #[Value.slice none 0 0, Value.bool false])) := by kernel_rfl
theorem sz44 : szB Tryz.prog 44 = some 1 := by kernel_rfl
theorem by44 : byB Tryz.prog 44 = some 8 := by kernel_rfl
theorem ag44 : aggB Tryz.prog 44 = some false := by kernel_rfl
theorem sz45 : szB Tryz.prog 45 = some 1 := by kernel_rfl
theorem by45 : byB Tryz.prog 45 = some 0 := by kernel_rfl
theorem ag45 : aggB Tryz.prog 45 = some false := by kernel_rfl
theorem ze45 : zeroB Tryz.prog 45 = some [.x (Value.tuple #[Value.agg #[Value.int IntKind.i64 0, Value.int IntKind.i64 0, Value.string ⟨#[]⟩], Value.bool false])] := by kernel_rfl
theorem zm45 : zeroM Tryz.prog 45 = some (.x (Value.tuple #[Value.agg #[Value.int IntKind.i64 0, Value.int IntKind.i64 0, Value.string ⟨#[]⟩], Value.bool false])) := by kernel_rfl
theorem sz46 : szB Tryz.prog 46 = some 1 := by kernel_rfl
theorem by46 : byB Tryz.prog 46 = some 8 := by kernel_rfl
theorem ag46 : aggB Tryz.prog 46 = some false := by kernel_rfl
theorem sz47 : szB Tryz.prog 47 = some 1 := by kernel_rfl
theorem by47 : byB Tryz.prog 47 = some 8 := by kernel_rfl
theorem ag47 : aggB Tryz.prog 47 = some false := by kernel_rfl
theorem sz48 : szB Tryz.prog 48 = some 1 := by kernel_rfl
theorem by48 : byB Tryz.prog 48 = some 8 := by kernel_rfl
theorem ag48 : aggB Tryz.prog 48 = some false := by kernel_rfl
theorem sz49 : szB Tryz.prog 49 = some 1 := by kernel_rfl
theorem by49 : byB Tryz.prog 49 = some 8 := by kernel_rfl
theorem ag49 : aggB Tryz.prog 49 = some false := by kernel_rfl
theorem sz50 : szB Tryz.prog 50 = some 1 := by kernel_rfl
theorem by50 : byB Tryz.prog 50 = some 8 := by kernel_rfl
theorem ag50 : aggB Tryz.prog 50 = some false := by kernel_rfl
theorem sz51 : szB Tryz.prog 51 = some 1 := by kernel_rfl
theorem by51 : byB Tryz.prog 51 = some 8 := by kernel_rfl
theorem ag51 : aggB Tryz.prog 51 = some false := by kernel_rfl
theorem sz52 : szB Tryz.prog 52 = some 1 := by kernel_rfl
theorem by52 : byB Tryz.prog 52 = some 8 := by kernel_rfl
theorem ag52 : aggB Tryz.prog 52 = some false := by kernel_rfl
theorem sz53 : szB Tryz.prog 53 = some 1 := by kernel_rfl
theorem by53 : byB Tryz.prog 53 = some 8 := by kernel_rfl
theorem ag53 : aggB Tryz.prog 53 = some false := by kernel_rfl
theorem sz54 : szB Tryz.prog 54 = some 1 := by kernel_rfl
theorem by54 : byB Tryz.prog 54 = some 8 := by kernel_rfl
theorem ag54 : aggB Tryz.prog 54 = some false := by kernel_rfl
theorem sz55 : szB Tryz.prog 55 = some 1 := by kernel_rfl
theorem by55 : byB Tryz.prog 55 = some 8 := by kernel_rfl
theorem ag55 : aggB Tryz.prog 55 = some false := by kernel_rfl
theorem sz56 : szB Tryz.prog 56 = some 1 := by kernel_rfl
theorem by56 : byB Tryz.prog 56 = some 8 := by kernel_rfl
theorem ag56 : aggB Tryz.prog 56 = some false := by kernel_rfl
theorem sz57 : szB Tryz.prog 57 = some 1 := by kernel_rfl
theorem by57 : byB Tryz.prog 57 = some 8 := by kernel_rfl
theorem ag57 : aggB Tryz.prog 57 = some false := by kernel_rfl
theorem sz58 : szB Tryz.prog 58 = some 1 := by kernel_rfl
theorem by58 : byB Tryz.prog 58 = some 8 := by kernel_rfl
theorem ag58 : aggB Tryz.prog 58 = some false := by kernel_rfl
theorem sz59 : szB Tryz.prog 59 = some 1 := by kernel_rfl
theorem by59 : byB Tryz.prog 59 = some 8 := by kernel_rfl
theorem ag59 : aggB Tryz.prog 59 = some false := by kernel_rfl
theorem sz60 : szB Tryz.prog 60 = some 1 := by kernel_rfl
theorem by60 : byB Tryz.prog 60 = some 8 := by kernel_rfl
theorem ag60 : aggB Tryz.prog 60 = some false := by kernel_rfl
theorem sz61 : szB Tryz.prog 61 = some 1 := by kernel_rfl
theorem by61 : byB Tryz.prog 61 = some 8 := by kernel_rfl
theorem ag61 : aggB Tryz.prog 61 = some false := by kernel_rfl
theorem sz62 : szB Tryz.prog 62 = some 1 := by kernel_rfl
theorem by62 : byB Tryz.prog 62 = some 0 := by kernel_rfl
theorem ag62 : aggB Tryz.prog 62 = some false := by kernel_rfl
theorem ze62 : zeroB Tryz.prog 62 = some [.x (Value.tuple #[Value.agg #[Value.int IntKind.i64 0, Value.int IntKind.i64 0, Value.string ⟨#[]⟩], Value.int IntKind.i64 0])] := by kernel_rfl
theorem zm62 : zeroM Tryz.prog 62 = some (.x (Value.tuple #[Value.agg #[Value.int IntKind.i64 0, Value.int IntKind.i64 0, Value.string ⟨#[]⟩], Value.int IntKind.i64 0])) := by kernel_rfl
theorem sz63 : szB Tryz.prog 63 = some 1 := by kernel_rfl
theorem by63 : byB Tryz.prog 63 = some 8 := by kernel_rfl
theorem ag63 : aggB Tryz.prog 63 = some false := by kernel_rfl
theorem sz64 : szB Tryz.prog 64 = some 1 := by kernel_rfl
theorem by64 : byB Tryz.prog 64 = some 8 := by kernel_rfl
theorem ag64 : aggB Tryz.prog 64 = some false := by kernel_rfl
theorem sz65 : szB Tryz.prog 65 = some 1 := by kernel_rfl
theorem by65 : byB Tryz.prog 65 = some 0 := by kernel_rfl
theorem ag65 : aggB Tryz.prog 65 = some false := by kernel_rfl
theorem ze65 : zeroB Tryz.prog 65 = some [.x (Value.tuple #[Value.bool false, Value.bool false])] := by kernel_rfl
theorem zm65 : zeroM Tryz.prog 65 = some (.x (Value.tuple #[Value.bool false, Value.bool false])) := by kernel_rfl
theorem sz66 : szB Tryz.prog 66 = some 1 := by kernel_rfl
theorem by66 : byB Tryz.prog 66 = some 8 := by kernel_rfl
theorem ag66 : aggB Tryz.prog 66 = some false := by kernel_rfl
theorem sz67 : szB Tryz.prog 67 = some 1 := by kernel_rfl
theorem by67 : byB Tryz.prog 67 = some 0 := by kernel_rfl
theorem ag67 : aggB Tryz.prog 67 = some false := by kernel_rfl
theorem ze67 : zeroB Tryz.prog 67 = some [.x (Value.tuple #[Value.int IntKind.i64 0, Value.agg #[Value.int IntKind.i64 0, Value.int IntKind.i64 0, Value.string ⟨#[]⟩], Value.bool false])] := by kernel_rfl
theorem zm67 : zeroM Tryz.prog 67 = some (.x (Value.tuple #[Value.int IntKind.i64 0, Value.agg #[Value.int IntKind.i64 0, Value.int IntKind.i64 0, Value.string ⟨#[]⟩], Value.bool false])) := by kernel_rfl
theorem sz68 : szB Tryz.prog 68 = some 1 := by kernel_rfl
theorem by68 : byB Tryz.prog 68 = some 8 := by kernel_rfl
theorem ag68 : aggB Tryz.prog 68 = some false := by kernel_rfl
theorem sz69 : szB Tryz.prog 69 = some 1 := by kernel_rfl
theorem by69 : byB Tryz.prog 69 = some 8 := by kernel_rfl
theorem ag69 : aggB Tryz.prog 69 = some false := by kernel_rfl
theorem sz70 : szB Tryz.prog 70 = some 1 := by kernel_rfl
theorem by70 : byB Tryz.prog 70 = some 8 := by kernel_rfl
theorem ag70 : aggB Tryz.prog 70 = some false := by kernel_rfl
theorem sz71 : szB Tryz.prog 71 = some 1 := by kernel_rfl
theorem by71 : byB Tryz.prog 71 = some 8 := by kernel_rfl
theorem ag71 : aggB Tryz.prog 71 = some false := by kernel_rfl
theorem sz72 : szB Tryz.prog 72 = some 1 := by kernel_rfl
theorem by72 : byB Tryz.prog 72 = some 0 := by kernel_rfl
theorem ag72 : aggB Tryz.prog 72 = some false := by kernel_rfl
theorem ze72 : zeroB Tryz.prog 72 = some [.x (Value.tuple #[Value.bool false, Value.agg #[Value.int IntKind.i64 0, Value.int IntKind.i64 0, Value.string ⟨#[]⟩], Value.bool false])] := by kernel_rfl
theorem zm72 : zeroM Tryz.prog 72 = some (.x (Value.tuple #[Value.bool false, Value.agg #[Value.int IntKind.i64 0, Value.int IntKind.i64 0, Value.string ⟨#[]⟩], Value.bool false])) := by kernel_rfl
theorem sz73 : szB Tryz.prog 73 = some 1 := by kernel_rfl
theorem by73 : byB Tryz.prog 73 = some 8 := by kernel_rfl
theorem ag73 : aggB Tryz.prog 73 = some false := by kernel_rfl
theorem sz74 : szB Tryz.prog 74 = some 1 := by kernel_rfl
theorem by74 : byB Tryz.prog 74 = some 8 := by kernel_rfl
theorem ag74 : aggB Tryz.prog 74 = some false := by kernel_rfl
theorem ze74 : zeroB Tryz.prog 74 = some [.x (Value.pointer none)] := by kernel_rfl
theorem zm74 : zeroM Tryz.prog 74 = some (.x (Value.pointer none)) := by kernel_rfl
theorem sz75 : szB Tryz.prog 75 = some 1 := by kernel_rfl
theorem by75 : byB Tryz.prog 75 = some 24 := by kernel_rfl
theorem ag75 : aggB Tryz.prog 75 = some false := by kernel_rfl
theorem ze75 : zeroB Tryz.prog 75 = some [.sl true 0 [] none] := by kernel_rfl
theorem zm75 : zeroM Tryz.prog 75 = some (.sl true 0 [] none) := by kernel_rfl
theorem sz76 : szB Tryz.prog 76 = some 2 := by kernel_rfl
theorem by76 : byB Tryz.prog 76 = some 32 := by kernel_rfl
theorem ag76 : aggB Tryz.prog 76 = some true := by kernel_rfl
theorem ze76 : zeroB Tryz.prog 76 = some [.x (Value.pointer none), .sl true 0 [] none] := by kernel_rfl
theorem zm76 : zeroM Tryz.prog 76 = some (.agg [.x (Value.pointer none), .sl true 0 [] none]) := by kernel_rfl
theorem sz77 : szB Tryz.prog 77 = some 2 := by kernel_rfl
theorem by77 : byB Tryz.prog 77 = some 32 := by kernel_rfl
theorem ag77 : aggB Tryz.prog 77 = some true := by kernel_rfl
theorem ze77 : zeroB Tryz.prog 77 = some [.x (Value.pointer none), .sl true 0 [] none] := by kernel_rfl
theorem zm77 : zeroM Tryz.prog 77 = some (.agg [.x (Value.pointer none), .sl true 0 [] none]) := by kernel_rfl
theorem sz78 : szB Tryz.prog 78 = some 1 := by kernel_rfl
theorem by78 : byB Tryz.prog 78 = some 16 := by kernel_rfl
theorem ag78 : aggB Tryz.prog 78 = some false := by kernel_rfl
theorem sz79 : szB Tryz.prog 79 = some 1 := by kernel_rfl
theorem by79 : byB Tryz.prog 79 = some 16 := by kernel_rfl
theorem ag79 : aggB Tryz.prog 79 = some false := by kernel_rfl
theorem sz80 : szB Tryz.prog 80 = some 1 := by kernel_rfl
theorem by80 : byB Tryz.prog 80 = some 0 := by kernel_rfl
theorem ag80 : aggB Tryz.prog 80 = some false := by kernel_rfl
theorem ze80 : zeroB Tryz.prog 80 = some [.x (Value.tuple #[Value.int IntKind.i64 0, Value.nilIface])] := by kernel_rfl
theorem zm80 : zeroM Tryz.prog 80 = some (.x (Value.tuple #[Value.int IntKind.i64 0, Value.nilIface])) := by kernel_rfl
theorem sz81 : szB Tryz.prog 81 = some 1 := by kernel_rfl
theorem by81 : byB Tryz.prog 81 = some 8 := by kernel_rfl
theorem ag81 : aggB Tryz.prog 81 = some false := by kernel_rfl
theorem sz82 : szB Tryz.prog 82 = some 1 := by kernel_rfl
theorem by82 : byB Tryz.prog 82 = some 8 := by kernel_rfl
theorem ag82 : aggB Tryz.prog 82 = some false := by kernel_rfl
theorem sz83 : szB Tryz.prog 83 = some 1 := by kernel_rfl
theorem by83 : byB Tryz.prog 83 = some 8 := by kernel_rfl
theorem ag83 : aggB Tryz.prog 83 = some false := by kernel_rfl
theorem sz84 : szB Tryz.prog 84 = some 1 := by kernel_rfl
theorem by84 : byB Tryz.prog 84 = some 8 := by kernel_rfl
theorem ag84 : aggB Tryz.prog 84 = some false := by kernel_rfl
theorem sz85 : szB Tryz.prog 85 = some 1 := by kernel_rfl
theorem by85 : byB Tryz.prog 85 = some 8 := by kernel_rfl
theorem ag85 : aggB Tryz.prog 85 = some false := by kernel_rfl
theorem sz86 : szB Tryz.prog 86 = some 1 := by kernel_rfl
theorem by86 : byB Tryz.prog 86 = some 8 := by kernel_rfl
theorem ag86 : aggB Tryz.prog 86 = some false := by kernel_rfl
theorem sz87 : szB Tryz.prog 87 = some 1 := by kernel_rfl
theorem by87 : byB Tryz.prog 87 = some 8 := by kernel_rfl
theorem ag87 : aggB Tryz.prog 87 = some false := by kernel_rfl
theorem sz88 : szB Tryz.prog 88 = some 1 := by kernel_rfl
theorem by88 : byB Tryz.prog 88 = some 8 := by kernel_rfl
theorem ag88 : aggB Tryz.prog 88 = some false := by kernel_rfl
theorem sz89 : szB Tryz.prog 89 = some 8 := by kernel_rfl
theorem by89 : byB Tryz.prog 89 = some 128 := by kernel_rfl
theorem ag89 : aggB Tryz.prog 89 = some true := by kernel_rfl
theorem ze89 : zeroB Tryz.prog 89 = some [.x (Value.string ⟨#[]⟩), .x (Value.string ⟨#[]⟩), .x (Value.string ⟨#[]⟩), .x (Value.string ⟨#[]⟩), .x (Value.string ⟨#[]⟩), .x (Value.string ⟨#[]⟩), .x (Value.string ⟨#[]⟩), .x (Value.string ⟨#[]⟩)] := by kernel_rfl
theorem zm89 : zeroM Tryz.prog 89 = some (.agg [.x (Value.string ⟨#[]⟩), .x (Value.string ⟨#[]⟩), .x (Value.string ⟨#[]⟩), .x (Value.string ⟨#[]⟩), .x (Value.string ⟨#[]⟩), .x (Value.string ⟨#[]⟩), .x (Value.string ⟨#[]⟩), .x (Value.string ⟨#[]⟩)]) := by kernel_rfl
theorem sz90 : szB Tryz.prog 90 = some 1 := by kernel_rfl
theorem by90 : byB Tryz.prog 90 = some 8 := by kernel_rfl
theorem ag90 : aggB Tryz.prog 90 = some false := by kernel_rfl
theorem sz91 : szB Tryz.prog 91 = some 1 := by kernel_rfl
theorem by91 : byB Tryz.prog 91 = some 8 := by kernel_rfl
theorem ag91 : aggB Tryz.prog 91 = some false := by kernel_rfl
theorem sz92 : szB Tryz.prog 92 = some 1 := by kernel_rfl
theorem by92 : byB Tryz.prog 92 = some 8 := by kernel_rfl
theorem ag92 : aggB Tryz.prog 92 = some false := by kernel_rfl
theorem sz93 : szB Tryz.prog 93 = some 1 := by kernel_rfl
theorem by93 : byB Tryz.prog 93 = some 24 := by kernel_rfl
theorem ag93 : aggB Tryz.prog 93 = some false := by kernel_rfl
theorem ze93 : zeroB Tryz.prog 93 = some [.sl true 0 [] none] := by kernel_rfl
theorem zm93 : zeroM Tryz.prog 93 = some (.sl true 0 [] none) := by kernel_rfl
theorem sz94 : szB Tryz.prog 94 = some 1 := by kernel_rfl
theorem by94 : byB Tryz.prog 94 = some 8 := by kernel_rfl
theorem ag94 : aggB Tryz.prog 94 = some false := by kernel_rfl
theorem sz95 : szB Tryz.prog 95 = some 1 := by kernel_rfl
theorem by95 : byB Tryz.prog 95 = some 8 := by kernel_rfl
theorem ag95 : aggB Tryz.prog 95 = some false := by kernel_rfl
theorem sz96 : szB Tryz.prog 96 = some 1 := by kernel_rfl
theorem by96 : byB Tryz.prog 96 = some 0 := by kernel_rfl
theorem ag96 : aggB Tryz.prog 96 = some false := by kernel_rfl
theorem ze96 : zeroB Tryz.prog 96 = some [.x (Value.tuple #[Value.int IntKind.i64 0, Value.bool false])] := by kernel_rfl
theorem zm96 : zeroM Tryz.prog 96 = some (.x (Value.tuple #[Value.int IntKind.i64 0, Value.bool false])) := by kernel_rfl
theorem sz97 : szB Tryz.prog 97 = some 1 := by kernel_rfl
theorem by97 : byB Tryz.prog 97 = some 8 := by kernel_rfl
theorem ag97 : aggB Tryz.prog 97 = some false := by kernel_rfl
theorem sz98 : szB Tryz.prog 98 = some 1 := by kernel_rfl
theorem by98 : byB Tryz.prog 98 = some 8 := by kernel_rfl
theorem ag98 : aggB Tryz.prog 98 = some false := by kernel_rfl
theorem ze98 : zeroB Tryz.prog 98 = some [.x (Value.pointer none)] := by kernel_rfl
theorem zm98 : zeroM Tryz.prog 98 = some (.x (Value.pointer none)) := by kernel_rfl
theorem sz99 : szB Tryz.prog 99 = some 1 := by kernel_rfl
theorem by99 : byB Tryz.prog 99 = some 24 := by kernel_rfl
theorem ag99 : aggB Tryz.prog 99 = some false := by kernel_rfl
theorem ze99 : zeroB Tryz.prog 99 = some [.sl true 0 [] none] := by kernel_rfl
theorem zm99 : zeroM Tryz.prog 99 = some (.sl true 0 [] none) := by kernel_rfl
theorem sz100 : szB Tryz.prog 100 = some 1 := by kernel_rfl
theorem by100 : byB Tryz.prog 100 = some 8 := by kernel_rfl
theorem ag100 : aggB Tryz.prog 100 = some false := by kernel_rfl
theorem sz101 : szB Tryz.prog 101 = some 1 := by kernel_rfl
theorem by101 : byB Tryz.prog 101 = some 8 := by kernel_rfl
theorem ag101 : aggB Tryz.prog 101 = some false := by kernel_rfl
theorem sz102 : szB Tryz.prog 102 = some 1 := by kernel_rfl
theorem by102 : byB Tryz.prog 102 = some 8 := by kernel_rfl
theorem ag102 : aggB Tryz.prog 102 = some false := by kernel_rfl
theorem ze102 : zeroB Tryz.prog 102 = some [.x (Value.int IntKind.u64 0)] := by kernel_rfl
theorem zm102 : zeroM Tryz.prog 102 = some (.x (Value.int IntKind.u64 0)) := by kernel_rfl
theorem sz103 : szB Tryz.prog 103 = some 1 := by kernel_rfl
theorem by103 : byB Tryz.prog 103 = some 8 := by kernel_rfl
theorem ag103 : aggB Tryz.prog 103 = some false := by kernel_rfl
theorem ze103 : zeroB Tryz.prog 103 = some [.x (Value.pointer none)] := by kernel_rfl
theorem zm103 : zeroM Tryz.prog 103 = some (.x (Value.pointer none)) := by kernel_rfl
theorem sz104 : szB Tryz.prog 104 = some 1 := by kernel_rfl
theorem by104 : byB Tryz.prog 104 = some 8 := by kernel_rfl
theorem ag104 : aggB Tryz.prog 104 = some false := by kernel_rfl
theorem sz105 : szB Tryz.prog 105 = some 1 := by kernel_rfl
theorem by105 : byB Tryz.prog 105 = some 8 := by kernel_rfl
theorem ag105 : aggB Tryz.prog 105 = some false := by kernel_rfl
theorem sz106 : szB Tryz.prog 106 = some 1 := by kernel_rfl
theorem by106 : byB Tryz.prog 106 = some 8 := by kernel_rfl
theorem ag106 : aggB Tryz.prog 106 = some false := by kernel_rfl
theorem sz107 : szB Tryz.prog 107 = some 1 := by kernel_rfl
theorem by107 : byB Tryz.prog 107 = some 8 := by kernel_rfl
theorem ag107 : aggB Tryz.prog 107 = some false := by kernel_rfl
theorem ze107 : zeroB Tryz.prog 107 = some [.x (Value.int IntKind.u64 0)] := by kernel_rfl
theorem zm107 : zeroM Tryz.prog 107 = some (.x (Value.int IntKind.u64 0)) := by kernel_rfl
theorem sz108 : szB Tryz.prog 108 = some 1 := by kernel_rfl
theorem by108 : byB Tryz.prog 108 = some 8 := by kernel_rfl
theorem ag108 : aggB Tryz.prog 108 = some false := by kernel_rfl
theorem sz109 : szB Tryz.prog 109 = some 1 := by kernel_rfl
theorem by109 : byB Tryz.prog 109 = some 4 := by kernel_rfl
theorem ag109 : aggB Tryz.prog 109 = some false := by kernel_rfl
theorem ze109 : zeroB Tryz.prog 109 = some [.x (Value.int IntKind.u32 0)] := by kernel_rfl
theorem zm109 : zeroM Tryz.prog 109 = some (.x (Value.int IntKind.u32 0)) := by kernel_rfl
theorem sz110 : szB Tryz.prog 110 = some 1 := by kernel_rfl
theorem by110 : byB Tryz.prog 110 = some 0 := by kernel_rfl
theorem ag110 : aggB Tryz.prog 110 = some false := by kernel_rfl
theorem ze110 : zeroB Tryz.prog 110 = some [.x (Value.tuple #[Value.int IntKind.u32 0, Value.int IntKind.u32 0])] := by kernel_rfl
theorem zm110 : zeroM Tryz.prog 110 = some (.x (Value.tuple #[Value.int IntKind.u32 0, Value.int IntKind.u32 0])) := by kernel_rfl
theorem sz111 : szB Tryz.prog 111 = some 1 := by kernel_rfl
theorem by111 : byB Tryz.prog 111 = some 8 := by kernel_rfl
theorem ag111 : aggB Tryz.prog 111 = some false := by kernel_rfl
theorem sz112 : szB Tryz.prog 112 = some 24 := by kernel_rfl
theorem by112 : byB Tryz.prog 112 = some 24 := by kernel_rfl
theorem ag112 : aggB Tryz.prog 112 = some true := by kernel_rfl
theorem ze112 : zeroB Tryz.prog 112 = some [.x (Value.int IntKind.u8 0), .x (Value.int IntKind.u8 0), .x (Value.int IntKind.u8 0), .x (Value.int IntKind.u8 0), .x (Value.int IntKind.u8 0), .x (Value.int IntKind.u8 0), .x (Value.int IntKind.u8 0), .x (Value.int IntKind.u8 0), .x (Value.int IntKind.u8 0), .x (Value.int IntKind.u8 0), .x (Value.int IntKind.u8 0), .x (Value.int IntKind.u8 0), .x (Value.int IntKind.u8 0), .x (Value.int IntKind.u8 0), .x (Value.int IntKind.u8 0), .x (Value.int IntKind.u8 0), .x (Value.int IntKind.u8 0), .x (Value.int IntKind.u8 0), .x (Value.int IntKind.u8 0), .x (Value.int IntKind.u8 0), .x (Value.int IntKind.u8 0), .x (Value.int IntKind.u8 0), .x (Value.int IntKind.u8 0), .x (Value.int IntKind.u8 0)] := by kernel_rfl
theorem zm112 : zeroM Tryz.prog 112 = some (.agg [.x (Value.int IntKind.u8 0), .x (Value.int IntKind.u8 0), .x (Value.int IntKind.u8 0), .x (Value.int IntKind.u8 0), .x (Value.int IntKind.u8 0), .x (Value.int IntKind.u8 0), .x (Value.int IntKind.u8 0), .x (Value.int IntKind.u8 0), .x (Value.int IntKind.u8 0), .x (Value.int IntKind.u8 0), .x (Value.int IntKind.u8 0), .x (Value.int IntKind.u8 0), .x (Value.int IntKind.u8 0), .x (Value.int IntKind.u8 0), .x (Value.int IntKind.u8 0), .x (Value.int IntKind.u8 0), .x (Value.int IntKind.u8 0), .x (Value.int IntKind.u8 0), .x (Value.int IntKind.u8 0), .x (Value.int IntKind.u8 0), .x (Value.int IntKind.u8 0), .x (Value.int IntKind.u8 0), .x (Value.int IntKind.u8 0), .x (Value.int IntKind.u8 0)]) := by kernel_rfl
theorem sz113 : szB Tryz.prog 113 = some 1 := by kernel_rfl
theorem by113 : byB Tryz.prog 113 = some 8 := by kernel_rfl
theorem ag113 : aggB Tryz.prog 113 = some false := by kernel_rfl
theorem sz114 : szB Tryz.prog 114 = some 1 := by kernel_rfl
theorem by114 : byB Tryz.prog 114 = some 8 := by kernel_rfl
theorem ag114 : aggB Tryz.prog 114 = some false := by kernel_rfl
theorem sz115 : szB Tryz.prog 115 = some 1 := by kernel_rfl
theorem by115 : byB Tryz.prog 115 = some 0 := by kernel_rfl
theorem ag115 : aggB Tryz.prog 115 = some false := by kernel_rfl
theorem ze115 : zeroB Tryz.prog 115 = some [.x (Value.tuple #[Value.slice none 0 0, Value.string ⟨#[]⟩])] := by kernel_rfl
theorem zm115 : zeroM Tryz.prog 115 = some (.x (Value.tuple #[Value.slice none 0 0, Value.string ⟨#[]⟩])) := by kernel_rfl
theorem sz116 : szB Tryz.prog 116 = some 1 := by kernel_rfl
theorem by116 : byB Tryz.prog 116 = some 8 := by kernel_rfl
theorem ag116 : aggB Tryz.prog 116 = some false := by kernel_rfl
theorem sz117 : szB Tryz.prog 117 = some 1 := by kernel_rfl
theorem by117 : byB Tryz.prog 117 = some 8 := by kernel_rfl
theorem ag117 : aggB Tryz.prog 117 = some false := by kernel_rfl
theorem sz118 : szB Tryz.prog 118 = some 20 := by kernel_rfl
theorem by118 : byB Tryz.prog 118 = some 160 := by kernel_rfl
theorem ag118 : aggB Tryz.prog 118 = some true := by kernel_rfl
theorem ze118 : zeroB Tryz.prog 118 = some [.x (Value.int IntKind.u64 0), .x (Value.int IntKind.u64 0), .x (Value.int IntKind.u64 0), .x (Value.int IntKind.u64 0), .x (Value.int IntKind.u64 0), .x (Value.int IntKind.u64 0), .x (Value.int IntKind.u64 0), .x (Value.int IntKind.u64 0), .x (Value.int IntKind.u64 0), .x (Value.int IntKind.u64 0), .x (Value.int IntKind.u64 0), .x (Value.int IntKind.u64 0), .x (Value.int IntKind.u64 0), .x (Value.int IntKind.u64 0), .x (Value.int IntKind.u64 0), .x (Value.int IntKind.u64 0), .x (Value.int IntKind.u64 0), .x (Value.int IntKind.u64 0), .x (Value.int IntKind.u64 0), .x (Value.int IntKind.u64 0)] := by kernel_rfl
theorem zm118 : zeroM Tryz.prog 118 = some (.agg [.x (Value.int IntKind.u64 0), .x (Value.int IntKind.u64 0), .x (Value.int IntKind.u64 0), .x (Value.int IntKind.u64 0), .x (Value.int IntKind.u64 0), .x (Value.int IntKind.u64 0), .x (Value.int IntKind.u64 0), .x (Value.int IntKind.u64 0), .x (Value.int IntKind.u64 0), .x (Value.int IntKind.u64 0), .x (Value.int IntKind.u64 0), .x (Value.int IntKind.u64 0), .x (Value.int IntKind.u64 0), .x (Value.int IntKind.u64 0), .x (Value.int IntKind.u64 0), .x (Value.int IntKind.u64 0), .x (Value.int IntKind.u64 0), .x (Value.int IntKind.u64 0), .x (Value.int IntKind.u64 0), .x (Value.int IntKind.u64 0)]) := by kernel_rfl
theorem sz119 : szB Tryz.prog 119 = some 65 := by kernel_rfl
theorem by119 : byB Tryz.prog 119 = some 65 := by kernel_rfl
theorem ag119 : aggB Tryz.prog 119 = some true := by kernel_rfl
theorem sz120 : szB Tryz.prog 120 = some 1 := by kernel_rfl
theorem by120 : byB Tryz.prog 120 = some 8 := by kernel_rfl
theorem ag120 : aggB Tryz.prog 120 = some false := by kernel_rfl
theorem sz121 : szB Tryz.prog 121 = some 1 := by kernel_rfl
theorem by121 : byB Tryz.prog 121 = some 8 := by kernel_rfl
theorem ag121 : aggB Tryz.prog 121 = some false := by kernel_rfl
theorem sz122 : szB Tryz.prog 122 = some 32 := by kernel_rfl
theorem by122 : byB Tryz.prog 122 = some 32 := by kernel_rfl
theorem ag122 : aggB Tryz.prog 122 = some true := by kernel_rfl
theorem ze122 : zeroB Tryz.prog 122 = some [.x (Value.int IntKind.u8 0), .x (Value.int IntKind.u8 0), .x (Value.int IntKind.u8 0), .x (Value.int IntKind.u8 0), .x (Value.int IntKind.u8 0), .x (Value.int IntKind.u8 0), .x (Value.int IntKind.u8 0), .x (Value.int IntKind.u8 0), .x (Value.int IntKind.u8 0), .x (Value.int IntKind.u8 0), .x (Value.int IntKind.u8 0), .x (Value.int IntKind.u8 0), .x (Value.int IntKind.u8 0), .x (Value.int IntKind.u8 0), .x (Value.int IntKind.u8 0), .x (Value.int IntKind.u8 0), .x (Value.int IntKind.u8 0), .x (Value.int IntKind.u8 0), .x (Value.int IntKind.u8 0), .x (Value.int IntKind.u8 0), .x (Value.int IntKind.u8 0), .x (Value.int IntKind.u8 0), .x (Value.int IntKind.u8 0), .x (Value.int IntKind.u8 0), .x (Value.int IntKind.u8 0), .x (Value.int IntKind.u8 0), .x (Value.int IntKind.u8 0), .x (Value.int IntKind.u8 0), .x (Value.int IntKind.u8 0), .x (Value.int IntKind.u8 0), .x (Value.int IntKind.u8 0), .x (Value.int IntKind.u8 0)] := by kernel_rfl
theorem zm122 : zeroM Tryz.prog 122 = some (.agg [.x (Value.int IntKind.u8 0), .x (Value.int IntKind.u8 0), .x (Value.int IntKind.u8 0), .x (Value.int IntKind.u8 0), .x (Value.int IntKind.u8 0), .x (Value.int IntKind.u8 0), .x (Value.int IntKind.u8 0), .x (Value.int IntKind.u8 0), .x (Value.int IntKind.u8 0), .x (Value.int IntKind.u8 0), .x (Value.int IntKind.u8 0), .x (Value.int IntKind.u8 0), .x (Value.int IntKind.u8 0), .x (Value.int IntKind.u8 0), .x (Value.int IntKind.u8 0), .x (Value.int IntKind.u8 0), .x (Value.int IntKind.u8 0), .x (Value.int IntKind.u8 0), .x (Value.int IntKind.u8 0), .x (Value.int IntKind.u8 0), .x (Value.int IntKind.u8 0), .x (Value.int IntKind.u8 0), .x (Value.int IntKind.u8 0), .x (Value.int IntKind.u8 0), .x (Value.int IntKind.u8 0), .x (Value.int IntKind.u8 0), .x (Value.int IntKind.u8 0), .x (Value.int IntKind.u8 0), .x (Value.int IntKind.u8 0), .x (Value.int IntKind.u8 0), .x (Value.int IntKind.u8 0), .x (Value.int IntKind.u8 0)]) := by kernel_rfl
theorem sz123 : szB Tryz.prog 123 = some 64 := by kernel_rfl
theorem by123 : byB Tryz.prog 123 = some 64 := by kernel_rfl
theorem ag123 : aggB Tryz.prog 123 = some true := by kernel_rfl
theorem ze123 : zeroB Tryz.prog 123 = some [.x (Value.int IntKind.u8 0), .x (Value.int IntKind.u8 0), .x (Value.int IntKind.u8 0), .x (Value.int IntKind.u8 0), .x (Value.int IntKind.u8 0), .x (Value.int IntKind.u8 0), .x (Value.int IntKind.u8 0), .x (Value.int IntKind.u8 0), .x (Value.int IntKind.u8 0), .x (Value.int IntKind.u8 0), .x (Value.int IntKind.u8 0), .x (Value.int IntKind.u8 0), .x (Value.int IntKind.u8 0), .x (Value.int IntKind.u8 0), .x (Value.int IntKind.u8 0), .x (Value.int IntKind.u8 0), .x (Value.int IntKind.u8 0), .x (Value.int IntKind.u8 0), .x (Value.int IntKind.u8 0), .x (Value.int IntKind.u8 0), .x (Value.int IntKind.u8 0), .x (Value.int IntKind.u8 0), .x (Value.int IntKind.u8 0), .x (Value.int IntKind.u8 0), .x (Value.int IntKind.u8 0), .x (Value.int IntKind.u8 0), .x (Value.int IntKind.u8 0), .x (Value.int IntKind.u8 0), .x (Value.int IntKind.u8 0), .x (Value.int IntKind.u8 0), .x (Value.int IntKind.u8 0), .x (Value.int IntKind.u8 0), .x (Value.int IntKind.u8 0), .x (Value.int IntKind.u8 0), .x (Value.int IntKind.u8 0), .x (Value.int IntKind.u8 0), .x (Value.int IntKind.u8 0), .x (Value.int IntKind.u8 0), .x (Value.int IntKind.u8 0), .x (Value.int IntKind.u8 0), .x (Value.int IntKind.u8 0), .x (Value.int IntKind.u8 0), .x (Value.int IntKind.u8 0), .x (Value.int IntKind.u8 0), .x (Value.int IntKind.u8 0), .x (Value.int IntKind.u8 0), .x (Value.int IntKind.u8 0), .x (Value.int IntKind.u8 0), .x (Value.int IntKind.u8 0), .x (Value.int IntKind.u8 0), .x (Value.int IntKind.u8 0), .x (Value.int IntKind.u8 0), .x (Value.int IntKind.u8 0), .x (Value.int IntKind.u8 0), .x (Value.int IntKind.u8 0), .x (Value.int IntKind.u8 0), .x (Value.int IntKind.u8 0), .x (Value.int IntKind.u8 0), .x (Value.int IntKind.u8 0), .x (Value.int IntKind.u8 0), .x (Value.int IntKind.u8 0), .x (Value.int IntKind.u8 0), .x (Value.int IntKind.u8 0), .x (Value.int IntKind.u8 0)] := by kernel_rfl
theorem zm123 : zeroM Tryz.prog 123 = some (.agg [.x (Value.int IntKind.u8 0), .x (Value.int IntKind.u8 0), .x (Value.int IntKind.u8 0), .x (Value.int IntKind.u8 0), .x (Value.int IntKind.u8 0), .x (Value.int IntKind.u8 0), .x (Value.int IntKind.u8 0), .x (Value.int IntKind.u8 0), .x (Value.int IntKind.u8 0), .x (Value.int IntKind.u8 0), .x (Value.int IntKind.u8 0), .x (Value.int IntKind.u8 0), .x (Value.int IntKind.u8 0), .x (Value.int IntKind.u8 0), .x (Value.int IntKind.u8 0), .x (Value.int IntKind.u8 0), .x (Value.int IntKind.u8 0), .x (Value.int IntKind.u8 0), .x (Value.int IntKind.u8 0), .x (Value.int IntKind.u8 0), .x (Value.int IntKind.u8 0), .x (Value.int IntKind.u8 0), .x (Value.int IntKind.u8 0), .x (Value.int IntKind.u8 0), .x (Value.int IntKind.u8 0), .x (Value.int IntKind.u8 0), .x (Value.int IntKind.u8 0), .x (Value.int IntKind.u8 0), .x (Value.int IntKind.u8 0), .x (Value.int IntKind.u8 0), .x (Value.int IntKind.u8 0), .x (Value.int IntKind.u8 0), .x (Value.int IntKind.u8 0), .x (Value.int IntKind.u8 0), .x (Value.int IntKind.u8 0), .x (Value.int IntKind.u8 0), .x (Value.int IntKind.u8 0), .x (Value.int IntKind.u8 0), .x (Value.int IntKind.u8 0), .x (Value.int IntKind.u8 0), .x (Value.int IntKind.u8 0), .x (Value.int IntKind.u8 0), .x (Value.int IntKind.u8 0), .x (Value.int IntKind.u8 0), .x (Value.int IntKind.u8 0), .x (Value.int IntKind.u8 0), .x (Value.int IntKind.u8 0), .x (Value.int IntKind.u8 0), .x (Value.int IntKind.u8 0), .x (Value.int IntKind.u8 0), .x (Value.int IntKind.u8 0), .x (Value.int IntKind.u8 0), .x (Value.int IntKind.u8 0), .x (Value.int IntKind.u8 0), .x (Value.int IntKind.u8 0), .x (Value.int IntKind.u8 0), .x (Value.int IntKind.u8 0), .x (Value.int IntKind.u8 0), .x (Value.int IntKind.u8 0), .x (Value.int IntKind.u8 0), .x (Value.int IntKind.u8 0), .x (Value.int IntKind.u8 0), .x (Value.int IntKind.u8 0), .x (Value.int IntKind.u8 0)]) := by kernel_rfl
theorem sz124 : szB Tryz.prog 124 = some 4 := by kernel_rfl
theorem by124 : byB Tryz.prog 124 = some 40 := by kernel_rfl
theorem ag124 : aggB Tryz.prog 124 = some true := by kernel_rfl
theorem ze124 : zeroB Tryz.prog 124 = some [.x (Value.pointer none), .x (Value.pointer none), .x (Value.pointer none), .x (Value.string ⟨#[]⟩)] := by kernel_rfl
theorem zm124 : zeroM Tryz.prog 124 = some (.agg [.x (Value.pointer none), .x (Value.pointer none), .x (Value.pointer none), .x (Value.string ⟨#[]⟩)]) := by kernel_rfl
theorem sz125 : szB Tryz.prog 125 = some 4 := by kernel_rfl
theorem by125 : byB Tryz.prog 125 = some 40 := by kernel_rfl
theorem ag125 : aggB Tryz.prog 125 = some true := by kernel_rfl
theorem ze125 : zeroB Tryz.prog 125 = some [.x (Value.pointer none), .x (Value.pointer none), .x (Value.pointer none), .x (Value.string ⟨#[]⟩)] := by kernel_rfl
theorem zm125 : zeroM Tryz.prog 125 = some (.agg [.x (Value.pointer none), .x (Value.pointer none), .x (Value.pointer none), .x (Value.string ⟨#[]⟩)]) := by kernel_rfl
theorem sz126 : szB Tryz.prog 126 = some 0 := by kernel_rfl
theorem by126 : byB Tryz.prog 126 = some 0 := by kernel_rfl
theorem ag126 : aggB Tryz.prog 126 = some true := by kernel_rfl
theorem ze126 : zeroB Tryz.prog 126 = some [] := by kernel_rfl
theorem zm126 : zeroM Tryz.prog 126 = some (.agg []) := by kernel_rfl
theorem sz127 : szB Tryz.prog 127 = some 0 := by kernel_rfl
theorem by127 : byB Tryz.prog 127 = some 0 := by kernel_rfl
theorem ag127 : aggB Tryz.prog 127 = some true := by kernel_rfl
theorem ze127 : zeroB Tryz.prog 127 = some [] := by kernel_rfl
theorem zm127 : zeroM Tryz.prog 127 = some (.agg []) := by kernel_rfl
theorem sz128 : szB Tryz.prog 128 = some 0 := by kernel_rfl
theorem by128 : byB Tryz.prog 128 = some 0 := by kernel_rfl
theorem ag128 : aggB Tryz.prog 128 = some true := by kernel_rfl
theorem ze128 : zeroB Tryz.prog 128 = some [] := by kernel_rfl
theorem zm128 : zeroM Tryz.prog 128 = some (.agg []) := by kernel_rfl
theorem sz129 : szB Tryz.prog 129 = some 1 := by kernel_rfl
theorem by129 : byB Tryz.prog 129 = some 1 := by kernel_rfl
theorem ag129 : aggB Tryz.prog 129 = some false := by kernel_rfl
theorem ze129 : zeroB Tryz.prog 129 = some [.x (Value.int IntKind.u8 0)] := by kernel_rfl
theorem zm129 : zeroM Tryz.prog 129 = some (.x (Value.int IntKind.u8 0)) := by kernel_rfl
theorem sz130 : szB Tryz.prog 130 = some 1 := by kernel_rfl
theorem by130 : byB Tryz.prog 130 = some 1 := by kernel_rfl
theorem ag130 : aggB Tryz.prog 130 = some false := by kernel_rfl
theorem ze130 : zeroB Tryz.prog 130 = some [.x (Value.int IntKind.u8 0)] := by kernel_rfl
theorem zm130 : zeroM Tryz.prog 130 = some (.x (Value.int IntKind.u8 0)) := by kernel_rfl
theorem sz131 : szB Tryz.prog 131 = some 1 := by kernel_rfl
theorem by131 : byB Tryz.prog 131 = some 8 := by kernel_rfl
theorem ag131 : aggB Tryz.prog 131 = some false := by kernel_rfl
theorem sz132 : szB Tryz.prog 132 = some 1 := by kernel_rfl
theorem by132 : byB Tryz.prog 132 = some 4 := by kernel_rfl
theorem ag132 : aggB Tryz.prog 132 = some false := by kernel_rfl
theorem ze132 : zeroB Tryz.prog 132 = some [.x (Value.int IntKind.i32 0)] := by kernel_rfl
theorem zm132 : zeroM Tryz.prog 132 = some (.x (Value.int IntKind.i32 0)) := by kernel_rfl
theorem sz133 : szB Tryz.prog 133 = some 1 := by kernel_rfl
theorem by133 : byB Tryz.prog 133 = some 4 := by kernel_rfl
theorem ag133 : aggB Tryz.prog 133 = some false := by kernel_rfl
theorem ze133 : zeroB Tryz.prog 133 = some [.x (Value.int IntKind.i32 0)] := by kernel_rfl
theorem zm133 : zeroM Tryz.prog 133 = some (.x (Value.int IntKind.i32 0)) := by kernel_rfl
theorem sz134 : szB Tryz.prog 134 = some 11 := by kernel_rfl
theorem by134 : byB Tryz.prog 134 = some 48 := by kernel_rfl
theorem ag134 : aggB Tryz.prog 134 = some true := by kernel_rfl
theorem ze134 : zeroB Tryz.prog 134 = some [.x (Value.int IntKind.u64 0), .x (Value.int IntKind.u64 0), .x (Value.int IntKind.u32 0), .x (Value.int IntKind.u8 0), .x (Value.int IntKind.u8 0), .x (Value.int IntKind.u8 0), .x (Value.int IntKind.u8 0), .x (Value.nilFunc), .x (Value.pointer none), .x (Value.int IntKind.i32 0), .x (Value.int IntKind.i32 0)] := by kernel_rfl
theorem zm134 : zeroM Tryz.prog 134 = some (.agg [.x (Value.int IntKind.u64 0), .x (Value.int IntKind.u64 0), .x (Value.int IntKind.u32 0), .x (Value.int IntKind.u8 0), .x (Value.int IntKind.u8 0), .x (Value.int IntKind.u8 0), .x (Value.int IntKind.u8 0), .x (Value.nilFunc), .x (Value.pointer none), .x (Value.int IntKind.i32 0), .x (Value.int IntKind.i32 0)]) := by kernel_rfl
theorem sz135 : szB Tryz.prog 135 = some 11 := by kernel_rfl
theorem by135 : byB Tryz.prog 135 = some 48 := by kernel_rfl
theorem ag135 : aggB Tryz.prog 135 = some true := by kernel_rfl
theorem ze135 : zeroB Tryz.prog 135 = some [.x (Value.int IntKind.u64 0), .x (Value.int IntKind.u64 0), .x (Value.int IntKind.u32 0), .x (Value.int IntKind.u8 0), .x (Value.int IntKind.u8 0), .x (Value.int IntKind.u8 0), .x (Value.int IntKind.u8 0), .x (Value.nilFunc), .x (Value.pointer none), .x (Value.int IntKind.i32 0), .x (Value.int IntKind.i32 0)] := by kernel_rfl
theorem zm135 : zeroM Tryz.prog 135 = some (.agg [.x (Value.int IntKind.u64 0), .x (Value.int IntKind.u64 0), .x (Value.int IntKind.u32 0), .x (Value.int IntKind.u8 0), .x (Value.int IntKind.u8 0), .x (Value.int IntKind.u8 0), .x (Value.int IntKind.u8 0), .x (Value.nilFunc), .x (Value.pointer none), .x (Value.int IntKind.i32 0), .x (Value.int IntKind.i32 0)]) := by kernel_rfl
attribute [go_sem] sz0 by0 sz1 by1 sz2 by2 sz3 by3 sz4 by4 sz5 by5 sz6 by6 sz7 by7 sz8 by8 sz9 by9 sz10 by10 sz11 by11 sz12 by12 sz13 by13 sz14 by14 sz15 by15 sz16 by16 sz17 by17 sz18 by18 sz19 by19 sz20 by20 sz21 by21 sz22 by22 sz23 by23 sz24 by24 sz25 by25 sz26 by26 sz27 by27 sz28 by28 sz29 by29 sz30 by30 sz31 by31 sz32 by32 sz33 by33 sz34 by34 sz35 by35 sz36 by36 sz37 by37 sz38 by38 sz39 by39 sz40 by40 sz41 by41 sz42 by42 sz43 by43 sz44 by44 sz45 by45 sz46 by46 sz47 by47 sz48 by48 sz49 by49 sz50 by50 sz51 by51 sz52 by52 sz53 by53 sz54 by54 sz55 by55 sz56 by56 sz57 by57 sz58 by58 sz59 by59 sz60 by60 sz61 by61 sz62 by62 sz63 by63 sz64 by64 sz65 by65 sz66 by66 sz67 by67 sz68 by68 sz69 by69 sz70 by70 sz71 by71 sz72 by72 sz73 by73 sz74 by74 sz75 by75 sz76 by76 sz77 by77 sz78 by78 sz79 by79 sz80 by80 sz81 by81 sz82 by82 sz83 by83 sz84 by84 sz85 by85 sz86 by86 sz87 by87 sz88 by88 sz89 by89 sz90 by90 sz91 by91 sz92 by92 sz93 by93 sz94 by94 sz95 by95 sz96 by96 sz97 by97 sz98 by98 sz99 by99 sz100 by100 sz101 by101 sz102 by102 sz103 by103 sz104 by104 sz105 by105 sz106 by106 sz107 by107 sz108 by108 sz109 by109 sz110 by110 sz111 by111 sz112 by112 sz113 by113 sz114 by114 sz115 by115 sz116 by116 sz117 by117 sz118 by118 sz119 by119 sz120 by120 sz121 by121 sz122 by122 sz123 by123 sz124 by124 sz125 by125 sz126 by126 sz127 by127 sz128 by128 sz129 by129 sz130 by130 sz131 by131 sz132 by132 sz133 by133 sz134 by134 sz135 by135 ag0 ag1 ag2 ag3 ag4 ag5 ag6 ag7 ag8 ag9 ag10 ag11 ag12 ag13 ag14 ag15 ag16 ag17 ag18 ag19 ag20 ag21 ag22 ag23 ag24 ag25 ag26 ag27 ag28 ag29 ag30 ag31 ag32 ag33 ag34 ag35 ag36 ag37 ag38 ag39 ag40 ag41 ag42 ag43 ag44 ag45 ag46 ag47 ag48 ag49 ag50 ag51 ag52 ag53 ag54 ag55 ag56 ag57 ag58 ag59 ag60 ag61 ag62 ag63 ag64 ag65 ag66 ag67 ag68 ag69 ag70 ag71 ag72 ag73 ag74 ag75 ag76 ag77 ag78 ag79 ag80 ag81 ag82 ag83 ag84 ag85 ag86 ag87 ag88 ag89 ag90 ag91 ag92 ag93 ag94 ag95 ag96 ag97 ag98 ag99 ag100 ag101 ag102 ag103 ag104 ag105 ag106 ag107 ag108 ag109 ag110 ag111 ag112 ag113 ag114 ag115 ag116 ag117 ag118 ag119 ag120 ag121 ag122 ag123 ag124 ag125 ag126 ag127 ag128 ag129 ag130 ag131 ag132 ag133 ag134 ag135 ze0 zm0 ze2 zm2 ze3 zm3 ze4 zm4 ze5 zm5 ze6 zm6 ze7 zm7 ze8 zm8 ze9 zm9 ze10 zm10 ze11 zm11 ze12 zm12 ze13 zm13 ze14 zm14 ze15 zm15 ze16 zm16 ze17 zm17 ze18 zm18 ze19 zm19 ze21 zm21 ze22 zm22 ze25 zm25 ze26 zm26 ze30 zm30 ze43 zm43 ze45 zm45 ze62 zm62 ze65 zm65 ze67 zm67 ze72 zm72 ze74 zm74 ze75 zm75 ze76 zm76 ze77 zm77 ze80 zm80 ze89 zm89 ze93 zm93 ze96 zm96 ze98 zm98 ze99 zm99 ze102 zm102 ze103 zm103 ze107 zm107 ze109 zm109 ze110 zm110 ze112 zm112 ze115 zm115 ze118 zm118 ze122 zm122 ze123 zm123 ze124 zm124 ze125 zm125 ze126 zm126 ze127 zm127 ze128 zm128 ze129 zm129 ze130 zm130 ze132 zm132 ze133 zm133 ze134 zm134 ze135 zm135 Tryz.underlying0 Tryz.underlying1 Tryz.underlying2 Tryz.underlying3 Tryz.underlying4 Tryz.underlying5 Tryz.underlying6 Tryz.underlying7 Tryz.eqGuardType7 Tryz.stoodInHeld7 Tryz.underlying8 Tryz.eqGuardType8 Tryz.stoodInHeld8 Tryz.underlying9 Tryz.underlying10 Tryz.underlying11 Tryz.underlying12 Tryz.underlying13 Tryz.eqGuardType13 Tryz.stoodInHeld13 Tryz.underlying14 Tryz.eqGuardType14 Tryz.stoodInHeld14 Tryz.underlying15 Tryz.underlying16 Tryz.underlying17 Tryz.underlying18 Tryz.eqGuardType18 Tryz.stoodInHeld18 Tryz.underlying19 Tryz.eqGuardType19 Tryz.stoodInHeld19 Tryz.underlying20 Tryz.underlying21 Tryz.underlying22 Tryz.underlying23 Tryz.underlying24 Tryz.underlying25 Tryz.eqGuardType25 Tryz.stoodInHeld25 Tryz.underlying26 Tryz.eqGuardType26 Tryz.stoodInHeld26 Tryz.underlying27 Tryz.underlying28 Tryz.underlying29 Tryz.underlying30 Tryz.underlying31 Tryz.underlying32 Tryz.underlying33 Tryz.underlying34 Tryz.underlying35 Tryz.underlying36 Tryz.underlying37 Tryz.underlying38 Tryz.underlying39 Tryz.underlying40 Tryz.underlying41 Tryz.underlying42 Tryz.underlying43 Tryz.underlying44 Tryz.underlying45 Tryz.underlying46 Tryz.underlying47 Tryz.underlying48 Tryz.underlying49 Tryz.underlying50 Tryz.underlying51 Tryz.underlying52 Tryz.underlying53 Tryz.underlying54 Tryz.underlying55 Tryz.underlying56 Tryz.underlying57 Tryz.underlying58 Tryz.underlying59 Tryz.underlying60 Tryz.underlying61 Tryz.underlying62 Tryz.underlying63 Tryz.underlying64 Tryz.underlying65 Tryz.underlying66 Tryz.underlying67 Tryz.underlying68 Tryz.underlying69 Tryz.underlying70 Tryz.underlying71 Tryz.underlying72 Tryz.underlying73 Tryz.underlying74 Tryz.underlying75 Tryz.underlying76 Tryz.eqGuardType76 Tryz.stoodInHeld76 Tryz.underlying77 Tryz.eqGuardType77 Tryz.stoodInHeld77 Tryz.underlying78 Tryz.underlying79 Tryz.underlying80 Tryz.underlying81 Tryz.underlying82 Tryz.underlying83 Tryz.underlying84 Tryz.underlying85 Tryz.underlying86 Tryz.underlying87 Tryz.underlying88 Tryz.underlying89 Tryz.eqGuardType89 Tryz.underlying90 Tryz.underlying91 Tryz.underlying92 Tryz.underlying93 Tryz.underlying94 Tryz.underlying95 Tryz.underlying96 Tryz.underlying97 Tryz.underlying98 Tryz.underlying99 Tryz.underlying100 Tryz.underlying101 Tryz.underlying102 Tryz.underlying103 Tryz.underlying104 Tryz.underlying105 Tryz.underlying106 Tryz.underlying107 Tryz.underlying108 Tryz.underlying109 Tryz.underlying110 Tryz.underlying111 Tryz.underlying112 Tryz.eqGuardType112 Tryz.underlying113 Tryz.underlying114 Tryz.underlying115 Tryz.underlying116 Tryz.underlying117 Tryz.underlying118 Tryz.eqGuardType118 Tryz.underlying119 Tryz.eqGuardType119 Tryz.underlying120 Tryz.underlying121 Tryz.underlying122 Tryz.eqGuardType122 Tryz.underlying123 Tryz.eqGuardType123 Tryz.underlying124 Tryz.eqGuardType124 Tryz.stoodInHeld124 Tryz.underlying125 Tryz.eqGuardType125 Tryz.stoodInHeld125 Tryz.underlying126 Tryz.eqGuardType126 Tryz.underlying127 Tryz.eqGuardType127 Tryz.stoodInHeld127 Tryz.underlying128 Tryz.eqGuardType128 Tryz.stoodInHeld128 Tryz.underlying129 Tryz.underlying130 Tryz.underlying131 Tryz.underlying132 Tryz.underlying133 Tryz.underlying134 Tryz.eqGuardType134 Tryz.stoodInHeld134 Tryz.underlying135 Tryz.eqGuardType135 Tryz.stoodInHeld135
end Go.Proofs.YtakcoalbidjahaaGreatDoor

/- What the run over plain data asks of each type of this seat's program, by program. -/
import Derived.Test.YtakcoalbidjahaaDoorMPB
import Derived.Test.YtakcoalbidjahaaDoorProg
import Derived.KernelRfl
namespace Go.Proofs.YtakcoalbidjahaaDoor
open Go Go.RowKit
theorem sz0 : szB Tryd.prog 0 = some 1 := by kernel_rfl
theorem by0 : byB Tryd.prog 0 = some 0 := by kernel_rfl
theorem ag0 : aggB Tryd.prog 0 = some false := by kernel_rfl
theorem ze0 : zeroB Tryd.prog 0 = some [.x (Value.tuple #[])] := by kernel_rfl
theorem zm0 : zeroM Tryd.prog 0 = some (.x (Value.tuple #[])) := by kernel_rfl
theorem sz1 : szB Tryd.prog 1 = some 1 := by kernel_rfl
theorem by1 : byB Tryd.prog 1 = some 8 := by kernel_rfl
theorem ag1 : aggB Tryd.prog 1 = some false := by kernel_rfl
theorem sz2 : szB Tryd.prog 2 = some 1 := by kernel_rfl
theorem by2 : byB Tryd.prog 2 = some 8 := by kernel_rfl
theorem ag2 : aggB Tryd.prog 2 = some false := by kernel_rfl
theorem ze2 : zeroB Tryd.prog 2 = some [.x (Value.int IntKind.i64 0)] := by kernel_rfl
theorem zm2 : zeroM Tryd.prog 2 = some (.x (Value.int IntKind.i64 0)) := by kernel_rfl
theorem sz3 : szB Tryd.prog 3 = some 1 := by kernel_rfl
theorem by3 : byB Tryd.prog 3 = some 8 := by kernel_rfl
theorem ag3 : aggB Tryd.prog 3 = some false := by kernel_rfl
theorem ze3 : zeroB Tryd.prog 3 = some [.x (Value.int IntKind.i64 0)] := by kernel_rfl
theorem zm3 : zeroM Tryd.prog 3 = some (.x (Value.int IntKind.i64 0)) := by kernel_rfl
theorem sz4 : szB Tryd.prog 4 = some 1 := by kernel_rfl
theorem by4 : byB Tryd.prog 4 = some 1 := by kernel_rfl
theorem ag4 : aggB Tryd.prog 4 = some false := by kernel_rfl
theorem ze4 : zeroB Tryd.prog 4 = some [.x (Value.bool false)] := by kernel_rfl
theorem zm4 : zeroM Tryd.prog 4 = some (.x (Value.bool false)) := by kernel_rfl
theorem sz5 : szB Tryd.prog 5 = some 1 := by kernel_rfl
theorem by5 : byB Tryd.prog 5 = some 1 := by kernel_rfl
theorem ag5 : aggB Tryd.prog 5 = some false := by kernel_rfl
theorem ze5 : zeroB Tryd.prog 5 = some [.x (Value.int IntKind.u8 0)] := by kernel_rfl
theorem zm5 : zeroM Tryd.prog 5 = some (.x (Value.int IntKind.u8 0)) := by kernel_rfl
theorem sz6 : szB Tryd.prog 6 = some 1 := by kernel_rfl
theorem by6 : byB Tryd.prog 6 = some 1 := by kernel_rfl
theorem ag6 : aggB Tryd.prog 6 = some false := by kernel_rfl
theorem ze6 : zeroB Tryd.prog 6 = some [.x (Value.int IntKind.u8 0)] := by kernel_rfl
theorem zm6 : zeroM Tryd.prog 6 = some (.x (Value.int IntKind.u8 0)) := by kernel_rfl
theorem sz7 : szB Tryd.prog 7 = some 4 := by kernel_rfl
theorem by7 : byB Tryd.prog 7 = some 24 := by kernel_rfl
theorem ag7 : aggB Tryd.prog 7 = some true := by kernel_rfl
theorem ze7 : zeroB Tryd.prog 7 = some [.x (Value.int IntKind.i64 0), .x (Value.int IntKind.i64 0), .x (Value.bool false), .x (Value.int IntKind.u8 0)] := by kernel_rfl
theorem zm7 : zeroM Tryd.prog 7 = some (.agg [.x (Value.int IntKind.i64 0), .x (Value.int IntKind.i64 0), .x (Value.bool false), .x (Value.int IntKind.u8 0)]) := by kernel_rfl
theorem sz8 : szB Tryd.prog 8 = some 4 := by kernel_rfl
theorem by8 : byB Tryd.prog 8 = some 24 := by kernel_rfl
theorem ag8 : aggB Tryd.prog 8 = some true := by kernel_rfl
theorem ze8 : zeroB Tryd.prog 8 = some [.x (Value.int IntKind.i64 0), .x (Value.int IntKind.i64 0), .x (Value.bool false), .x (Value.int IntKind.u8 0)] := by kernel_rfl
theorem zm8 : zeroM Tryd.prog 8 = some (.agg [.x (Value.int IntKind.i64 0), .x (Value.int IntKind.i64 0), .x (Value.bool false), .x (Value.int IntKind.u8 0)]) := by kernel_rfl
theorem sz9 : szB Tryd.prog 9 = some 1 := by kernel_rfl
theorem by9 : byB Tryd.prog 9 = some 16 := by kernel_rfl
theorem ag9 : aggB Tryd.prog 9 = some false := by kernel_rfl
theorem ze9 : zeroB Tryd.prog 9 = some [.x (Value.string ⟨#[]⟩)] := by kernel_rfl
theorem zm9 : zeroM Tryd.prog 9 = some (.x (Value.string ⟨#[]⟩)) := by kernel_rfl
theorem sz10 : szB Tryd.prog 10 = some 1 := by kernel_rfl
theorem by10 : byB Tryd.prog 10 = some 16 := by kernel_rfl
theorem ag10 : aggB Tryd.prog 10 = some false := by kernel_rfl
theorem ze10 : zeroB Tryd.prog 10 = some [.x (Value.string ⟨#[]⟩)] := by kernel_rfl
theorem zm10 : zeroM Tryd.prog 10 = some (.x (Value.string ⟨#[]⟩)) := by kernel_rfl
theorem sz11 : szB Tryd.prog 11 = some 1 := by kernel_rfl
theorem by11 : byB Tryd.prog 11 = some 16 := by kernel_rfl
theorem ag11 : aggB Tryd.prog 11 = some false := by kernel_rfl
theorem ze11 : zeroB Tryd.prog 11 = some [.x (Value.string ⟨#[]⟩)] := by kernel_rfl
theorem zm11 : zeroM Tryd.prog 11 = some (.x (Value.string ⟨#[]⟩)) := by kernel_rfl
theorem sz12 : szB Tryd.prog 12 = some 1 := by kernel_rfl
theorem by12 : byB Tryd.prog 12 = some 8 := by kernel_rfl
theorem ag12 : aggB Tryd.prog 12 = some false := by kernel_rfl
theorem ze12 : zeroB Tryd.prog 12 = some [.x (Value.int IntKind.u64 0)] := by kernel_rfl
theorem zm12 : zeroM Tryd.prog 12 = some (.x (Value.int IntKind.u64 0)) := by kernel_rfl
theorem sz13 : szB Tryd.prog 13 = some 2 := by kernel_rfl
theorem by13 : byB Tryd.prog 13 = some 24 := by kernel_rfl
theorem ag13 : aggB Tryd.prog 13 = some true := by kernel_rfl
theorem ze13 : zeroB Tryd.prog 13 = some [.x (Value.string ⟨#[]⟩), .x (Value.int IntKind.u64 0)] := by kernel_rfl
theorem zm13 : zeroM Tryd.prog 13 = some (.agg [.x (Value.string ⟨#[]⟩), .x (Value.int IntKind.u64 0)]) := by kernel_rfl
theorem sz14 : szB Tryd.prog 14 = some 2 := by kernel_rfl
theorem by14 : byB Tryd.prog 14 = some 24 := by kernel_rfl
theorem ag14 : aggB Tryd.prog 14 = some true := by kernel_rfl
theorem ze14 : zeroB Tryd.prog 14 = some [.x (Value.string ⟨#[]⟩), .x (Value.int IntKind.u64 0)] := by kernel_rfl
theorem zm14 : zeroM Tryd.prog 14 = some (.agg [.x (Value.string ⟨#[]⟩), .x (Value.int IntKind.u64 0)]) := by kernel_rfl
theorem sz15 : szB Tryd.prog 15 = some 1 := by kernel_rfl
theorem by15 : byB Tryd.prog 15 = some 8 := by kernel_rfl
theorem ag15 : aggB Tryd.prog 15 = some false := by kernel_rfl
theorem ze15 : zeroB Tryd.prog 15 = some [.x (Value.pointer none)] := by kernel_rfl
theorem zm15 : zeroM Tryd.prog 15 = some (.x (Value.pointer none)) := by kernel_rfl
theorem sz16 : szB Tryd.prog 16 = some 1 := by kernel_rfl
theorem by16 : byB Tryd.prog 16 = some 8 := by kernel_rfl
theorem ag16 : aggB Tryd.prog 16 = some false := by kernel_rfl
theorem ze16 : zeroB Tryd.prog 16 = some [.x (Value.pointer none)] := by kernel_rfl
theorem zm16 : zeroM Tryd.prog 16 = some (.x (Value.pointer none)) := by kernel_rfl
theorem sz17 : szB Tryd.prog 17 = some 1 := by kernel_rfl
theorem by17 : byB Tryd.prog 17 = some 8 := by kernel_rfl
theorem ag17 : aggB Tryd.prog 17 = some false := by kernel_rfl
theorem ze17 : zeroB Tryd.prog 17 = some [.x (Value.pointer none)] := by kernel_rfl
theorem zm17 : zeroM Tryd.prog 17 = some (.x (Value.pointer none)) := by kernel_rfl
theorem sz18 : szB Tryd.prog 18 = some 1 := by kernel_rfl
theorem by18 : byB Tryd.prog 18 = some 8 := by kernel_rfl
theorem ag18 : aggB Tryd.prog 18 = some true := by kernel_rfl
theorem ze18 : zeroB Tryd.prog 18 = some [.x (Value.pointer none)] := by kernel_rfl
theorem zm18 : zeroM Tryd.prog 18 = some (.agg [.x (Value.pointer none)]) := by kernel_rfl
theorem sz19 : szB Tryd.prog 19 = some 1 := by kernel_rfl
theorem by19 : byB Tryd.prog 19 = some 8 := by kernel_rfl
theorem ag19 : aggB Tryd.prog 19 = some true := by kernel_rfl
theorem ze19 : zeroB Tryd.prog 19 = some [.x (Value.pointer none)] := by kernel_rfl
theorem zm19 : zeroM Tryd.prog 19 = some (.agg [.x (Value.pointer none)]) := by kernel_rfl
theorem sz20 : szB Tryd.prog 20 = some 1 := by kernel_rfl
theorem by20 : byB Tryd.prog 20 = some 16 := by kernel_rfl
theorem ag20 : aggB Tryd.prog 20 = some false := by kernel_rfl
theorem sz21 : szB Tryd.prog 21 = some 1 := by kernel_rfl
theorem by21 : byB Tryd.prog 21 = some 4 := by kernel_rfl
theorem ag21 : aggB Tryd.prog 21 = some false := by kernel_rfl
theorem ze21 : zeroB Tryd.prog 21 = some [.x (Value.int IntKind.i32 0)] := by kernel_rfl
theorem zm21 : zeroM Tryd.prog 21 = some (.x (Value.int IntKind.i32 0)) := by kernel_rfl
theorem sz22 : szB Tryd.prog 22 = some 1 := by kernel_rfl
theorem by22 : byB Tryd.prog 22 = some 24 := by kernel_rfl
theorem ag22 : aggB Tryd.prog 22 = some false := by kernel_rfl
theorem ze22 : zeroB Tryd.prog 22 = some [.sl true 0 [] none] := by kernel_rfl
theorem zm22 : zeroM Tryd.prog 22 = some (.sl true 0 [] none) := by kernel_rfl
theorem sz23 : szB Tryd.prog 23 = some 1 := by kernel_rfl
theorem by23 : byB Tryd.prog 23 = some 24 := by kernel_rfl
theorem ag23 : aggB Tryd.prog 23 = some false := by kernel_rfl
theorem ze23 : zeroB Tryd.prog 23 = some [.sl true 0 [] none] := by kernel_rfl
theorem zm23 : zeroM Tryd.prog 23 = some (.sl true 0 [] none) := by kernel_rfl
theorem sz24 : szB Tryd.prog 24 = some 1 := by kernel_rfl
theorem by24 : byB Tryd.prog 24 = some 8 := by kernel_rfl
theorem ag24 : aggB Tryd.prog 24 = some false := by kernel_rfl
theorem sz25 : szB Tryd.prog 25 = some 1 := by kernel_rfl
theorem by25 : byB Tryd.prog 25 = some 24 := by kernel_rfl
theorem ag25 : aggB Tryd.prog 25 = some false := by kernel_rfl
theorem ze25 : zeroB Tryd.prog 25 = some [.sl true 0 [] none] := by kernel_rfl
theorem zm25 : zeroM Tryd.prog 25 = some (.sl true 0 [] none) := by kernel_rfl
theorem sz26 : szB Tryd.prog 26 = some 1 := by kernel_rfl
theorem by26 : byB Tryd.prog 26 = some 8 := by kernel_rfl
theorem ag26 : aggB Tryd.prog 26 = some false := by kernel_rfl
theorem sz27 : szB Tryd.prog 27 = some 1 := by kernel_rfl
theorem by27 : byB Tryd.prog 27 = some 24 := by kernel_rfl
theorem ag27 : aggB Tryd.prog 27 = some false := by kernel_rfl
theorem ze27 : zeroB Tryd.prog 27 = some [.sl true 0 [] none] := by kernel_rfl
theorem zm27 : zeroM Tryd.prog 27 = some (.sl true 0 [] none) := by kernel_rfl
theorem sz28 : szB Tryd.prog 28 = some 3 := by kernel_rfl
theorem by28 : byB Tryd.prog 28 = some 32 := by kernel_rfl
theorem ag28 : aggB Tryd.prog 28 = some true := by kernel_rfl
theorem ze28 : zeroB Tryd.prog 28 = some [.x (Value.int IntKind.i64 0), .x (Value.int IntKind.i64 0), .x (Value.string ⟨#[]⟩)] := by kernel_rfl
theorem zm28 : zeroM Tryd.prog 28 = some (.agg [.x (Value.int IntKind.i64 0), .x (Value.int IntKind.i64 0), .x (Value.string ⟨#[]⟩)]) := by kernel_rfl
theorem sz29 : szB Tryd.prog 29 = some 3 := by kernel_rfl
theorem by29 : byB Tryd.prog 29 = some 32 := by kernel_rfl
theorem ag29 : aggB Tryd.prog 29 = some true := by kernel_rfl
theorem ze29 : zeroB Tryd.prog 29 = some [.x (Value.int IntKind.i64 0), .x (Value.int IntKind.i64 0), .x (Value.string ⟨#[]⟩)] := by kernel_rfl
theorem zm29 : zeroM Tryd.prog 29 = some (.agg [.x (Value.int IntKind.i64 0), .x (Value.int IntKind.i64 0), .x (Value.string ⟨#[]⟩)]) := by kernel_rfl
theorem sz30 : szB Tryd.prog 30 = some 1 := by kernel_rfl
theorem by30 : byB Tryd.prog 30 = some 8 := by kernel_rfl
theorem ag30 : aggB Tryd.prog 30 = some false := by kernel_rfl
theorem sz31 : szB Tryd.prog 31 = some 1 := by kernel_rfl
theorem by31 : byB Tryd.prog 31 = some 8 := by kernel_rfl
theorem ag31 : aggB Tryd.prog 31 = some false := by kernel_rfl
theorem sz32 : szB Tryd.prog 32 = some 1 := by kernel_rfl
theorem by32 : byB Tryd.prog 32 = some 8 := by kernel_rfl
theorem ag32 : aggB Tryd.prog 32 = some false := by kernel_rfl
theorem sz33 : szB Tryd.prog 33 = some 1 := by kernel_rfl
theorem by33 : byB Tryd.prog 33 = some 8 := by kernel_rfl
theorem ag33 : aggB Tryd.prog 33 = some false := by kernel_rfl
theorem sz34 : szB Tryd.prog 34 = some 1 := by kernel_rfl
theorem by34 : byB Tryd.prog 34 = some 8 := by kernel_rfl
theorem ag34 : aggB Tryd.prog 34 = some false := by kernel_rfl
theorem sz35 : szB Tryd.prog 35 = some 1 := by kernel_rfl
theorem by35 : byB Tryd.prog 35 = some 8 := by kernel_rfl
theorem ag35 : aggB Tryd.prog 35 = some false := by kernel_rfl
theorem sz36 : szB Tryd.prog 36 = some 1 := by kernel_rfl
theorem by36 : byB Tryd.prog 36 = some 8 := by kernel_rfl
theorem ag36 : aggB Tryd.prog 36 = some false := by kernel_rfl
theorem sz37 : szB Tryd.prog 37 = some 1 := by kernel_rfl
theorem by37 : byB Tryd.prog 37 = some 8 := by kernel_rfl
theorem ag37 : aggB Tryd.prog 37 = some false := by kernel_rfl
theorem sz38 : szB Tryd.prog 38 = some 1 := by kernel_rfl
theorem by38 : byB Tryd.prog 38 = some 8 := by kernel_rfl
theorem ag38 : aggB Tryd.prog 38 = some false := by kernel_rfl
theorem sz39 : szB Tryd.prog 39 = some 1 := by kernel_rfl
theorem by39 : byB Tryd.prog 39 = some 8 := by kernel_rfl
theorem ag39 : aggB Tryd.prog 39 = some false := by kernel_rfl
theorem sz40 : szB Tryd.prog 40 = some 1 := by kernel_rfl
theorem by40 : byB Tryd.prog 40 = some 8 := by kernel_rfl
theorem ag40 : aggB Tryd.prog 40 = some false := by kernel_rfl
theorem sz41 : szB Tryd.prog 41 = some 1 := by kernel_rfl
theorem by41 : byB Tryd.prog 41 = some 8 := by kernel_rfl
theorem ag41 : aggB Tryd.prog 41 = some false := by kernel_rfl
theorem sz42 : szB Tryd.prog 42 = some 1 := by kernel_rfl
theorem by42 : byB Tryd.prog 42 = some 8 := by kernel_rfl
theorem ag42 : aggB Tryd.prog 42 = some false := by kernel_rfl
theorem sz43 : szB Tryd.prog 43 = some 1 := by kernel_rfl
theorem by43 : byB Tryd.prog 43 = some 8 := by kernel_rfl
theorem ag43 : aggB Tryd.prog 43 = some false := by kernel_rfl
theorem sz44 : szB Tryd.prog 44 = some 1 := by kernel_rfl
theorem by44 : byB Tryd.prog 44 = some 8 := by kernel_rfl
theorem ag44 : aggB Tryd.prog 44 = some false := by kernel_rfl
theorem sz45 : szB Tryd.prog 45 = some 1 := by kernel_rfl
theorem by45 : byB Tryd.prog 45 = some 8 := by kernel_rfl
theorem ag45 : aggB Tryd.prog 45 = some false := by kernel_rfl
theorem sz46 : szB Tryd.prog 46 = some 1 := by kernel_rfl
theorem by46 : byB Tryd.prog 46 = some 8 := by kernel_rfl
theorem ag46 : aggB Tryd.prog 46 = some false := by kernel_rfl
theorem sz47 : szB Tryd.prog 47 = some 1 := by kernel_rfl
theorem by47 : byB Tryd.prog 47 = some 0 := by kernel_rfl
theorem ag47 : aggB Tryd.prog 47 = some false := by kernel_rfl
theorem ze47 : zeroB Tryd.prog 47 = some [.x (Value.tuple #[Value.agg #[Value.int IntKind.i64 0, Value.int IntKind.i64 0, Value.string ⟨#[]⟩], Value.bool false])] := by kernel_rfl
theorem zm47 : zeroM Tryd.prog 47 = some (.x (Value.tuple #[Value.agg #[Value.int IntKind.i64 0, Value.int IntKind.i64 0, Value.string ⟨#[]⟩], Value.bool false])) := by kernel_rfl
theorem sz48 : szB Tryd.prog 48 = some 1 := by kernel_rfl
theorem by48 : byB Tryd.prog 48 = some 8 := by kernel_rfl
theorem ag48 : aggB Tryd.prog 48 = some false := by kernel_rfl
theorem sz49 : szB Tryd.prog 49 = some 1 := by kernel_rfl
theorem by49 : byB Tryd.prog 49 = some 8 := by kernel_rfl
theorem ag49 : aggB Tryd.prog 49 = some false := by kernel_rfl
theorem sz50 : szB Tryd.prog 50 = some 1 := by kernel_rfl
theorem by50 : byB Tryd.prog 50 = some 8 := by kernel_rfl
theorem ag50 : aggB Tryd.prog 50 = some false := by kernel_rfl
theorem sz51 : szB Tryd.prog 51 = some 1 := by kernel_rfl
theorem by51 : byB Tryd.prog 51 = some 8 := by kernel_rfl
theorem ag51 : aggB Tryd.prog 51 = some false := by kernel_rfl
theorem sz52 : szB Tryd.prog 52 = some 1 := by kernel_rfl
theorem by52 : byB Tryd.prog 52 = some 8 := by kernel_rfl
theorem ag52 : aggB Tryd.prog 52 = some false := by kernel_rfl
theorem sz53 : szB Tryd.prog 53 = some 1 := by kernel_rfl
theorem by53 : byB Tryd.prog 53 = some 0 := by kernel_rfl
theorem ag53 : aggB Tryd.prog 53 = some false := by kernel_rfl
theorem ze53 : zeroB Tryd.prog 53 = some [.x (Value.tuple #[Value.slice none 0 0, Value.bool false])] := by kernel_rfl
theorem zm53 : zeroM Tryd.prog 53 = some (.x (Value.tuple #[Value.slice none 0 0, Value.bool false])) := by kernel_rfl
theorem sz54 : szB Tryd.prog 54 = some 1 := by kernel_rfl
theorem by54 : byB Tryd.prog 54 = some 8 := by kernel_rfl
theorem ag54 : aggB Tryd.prog 54 = some false := by kernel_rfl
theorem sz55 : szB Tryd.prog 55 = some 1 := by kernel_rfl
theorem by55 : byB Tryd.prog 55 = some 8 := by kernel_rfl
theorem ag55 : aggB Tryd.prog 55 = some false := by kernel_rfl
theorem sz56 : szB Tryd.prog 56 = some 1 := by kernel_rfl
theorem by56 : byB Tryd.prog 56 = some 8 := by kernel_rfl
theorem ag56 : aggB Tryd.prog 56 = some false := by kernel_rfl
theorem sz57 : szB Tryd.prog 57 = some 1 := by kernel_rfl
theorem by57 : byB Tryd.prog 57 = some 8 := by kernel_rfl
theorem ag57 : aggB Tryd.prog 57 = some false := by kernel_rfl
theorem sz58 : szB Tryd.prog 58 = some 1 := by kernel_rfl
theorem by58 : byB Tryd.prog 58 = some 8 := by kernel_rfl
theorem ag58 : aggB Tryd.prog 58 = some false := by kernel_rfl
theorem sz59 : szB Tryd.prog 59 = some 1 := by kernel_rfl
theorem by59 : byB Tryd.prog 59 = some 8 := by kernel_rfl
theorem ag59 : aggB Tryd.prog 59 = some false := by kernel_rfl
theorem sz60 : szB Tryd.prog 60 = some 1 := by kernel_rfl
theorem by60 : byB Tryd.prog 60 = some 8 := by kernel_rfl
theorem ag60 : aggB Tryd.prog 60 = some false := by kernel_rfl
theorem sz61 : szB Tryd.prog 61 = some 1 := by kernel_rfl
theorem by61 : byB Tryd.prog 61 = some 8 := by kernel_rfl
theorem ag61 : aggB Tryd.prog 61 = some false := by kernel_rfl
theorem sz62 : szB Tryd.prog 62 = some 1 := by kernel_rfl
theorem by62 : byB Tryd.prog 62 = some 8 := by kernel_rfl
theorem ag62 : aggB Tryd.prog 62 = some false := by kernel_rfl
theorem sz63 : szB Tryd.prog 63 = some 1 := by kernel_rfl
theorem by63 : byB Tryd.prog 63 = some 0 := by kernel_rfl
theorem ag63 : aggB Tryd.prog 63 = some false := by kernel_rfl
theorem ze63 : zeroB Tryd.prog 63 = some [.x (Value.tuple #[Value.bool false, Value.agg #[Value.int IntKind.i64 0, Value.int IntKind.i64 0, Value.string ⟨#[]⟩], Value.bool false])] := by kernel_rfl
theorem zm63 : zeroM Tryd.prog 63 = some (.x (Value.tuple #[Value.bool false, Value.agg #[Value.int IntKind.i64 0, Value.int IntKind.i64 0, Value.string ⟨#[]⟩], Value.bool false])) := by kernel_rfl
theorem sz64 : szB Tryd.prog 64 = some 1 := by kernel_rfl
theorem by64 : byB Tryd.prog 64 = some 8 := by kernel_rfl
theorem ag64 : aggB Tryd.prog 64 = some false := by kernel_rfl
theorem sz65 : szB Tryd.prog 65 = some 1 := by kernel_rfl
theorem by65 : byB Tryd.prog 65 = some 8 := by kernel_rfl
theorem ag65 : aggB Tryd.prog 65 = some false := by kernel_rfl
theorem ze65 : zeroB Tryd.prog 65 = some [.x (Value.pointer none)] := by kernel_rfl
theorem zm65 : zeroM Tryd.prog 65 = some (.x (Value.pointer none)) := by kernel_rfl
theorem sz66 : szB Tryd.prog 66 = some 1 := by kernel_rfl
theorem by66 : byB Tryd.prog 66 = some 24 := by kernel_rfl
theorem ag66 : aggB Tryd.prog 66 = some false := by kernel_rfl
theorem ze66 : zeroB Tryd.prog 66 = some [.sl true 0 [] none] := by kernel_rfl
theorem zm66 : zeroM Tryd.prog 66 = some (.sl true 0 [] none) := by kernel_rfl
theorem sz67 : szB Tryd.prog 67 = some 2 := by kernel_rfl
theorem by67 : byB Tryd.prog 67 = some 32 := by kernel_rfl
theorem ag67 : aggB Tryd.prog 67 = some true := by kernel_rfl
theorem ze67 : zeroB Tryd.prog 67 = some [.x (Value.pointer none), .sl true 0 [] none] := by kernel_rfl
theorem zm67 : zeroM Tryd.prog 67 = some (.agg [.x (Value.pointer none), .sl true 0 [] none]) := by kernel_rfl
theorem sz68 : szB Tryd.prog 68 = some 2 := by kernel_rfl
theorem by68 : byB Tryd.prog 68 = some 32 := by kernel_rfl
theorem ag68 : aggB Tryd.prog 68 = some true := by kernel_rfl
theorem ze68 : zeroB Tryd.prog 68 = some [.x (Value.pointer none), .sl true 0 [] none] := by kernel_rfl
theorem zm68 : zeroM Tryd.prog 68 = some (.agg [.x (Value.pointer none), .sl true 0 [] none]) := by kernel_rfl
theorem sz69 : szB Tryd.prog 69 = some 1 := by kernel_rfl
theorem by69 : byB Tryd.prog 69 = some 16 := by kernel_rfl
theorem ag69 : aggB Tryd.prog 69 = some false := by kernel_rfl
theorem sz70 : szB Tryd.prog 70 = some 1 := by kernel_rfl
theorem by70 : byB Tryd.prog 70 = some 16 := by kernel_rfl
theorem ag70 : aggB Tryd.prog 70 = some false := by kernel_rfl
theorem sz71 : szB Tryd.prog 71 = some 1 := by kernel_rfl
theorem by71 : byB Tryd.prog 71 = some 0 := by kernel_rfl
theorem ag71 : aggB Tryd.prog 71 = some false := by kernel_rfl
theorem ze71 : zeroB Tryd.prog 71 = some [.x (Value.tuple #[Value.int IntKind.i64 0, Value.nilIface])] := by kernel_rfl
theorem zm71 : zeroM Tryd.prog 71 = some (.x (Value.tuple #[Value.int IntKind.i64 0, Value.nilIface])) := by kernel_rfl
theorem sz72 : szB Tryd.prog 72 = some 1 := by kernel_rfl
theorem by72 : byB Tryd.prog 72 = some 8 := by kernel_rfl
theorem ag72 : aggB Tryd.prog 72 = some false := by kernel_rfl
theorem sz73 : szB Tryd.prog 73 = some 1 := by kernel_rfl
theorem by73 : byB Tryd.prog 73 = some 8 := by kernel_rfl
theorem ag73 : aggB Tryd.prog 73 = some false := by kernel_rfl
theorem sz74 : szB Tryd.prog 74 = some 1 := by kernel_rfl
theorem by74 : byB Tryd.prog 74 = some 8 := by kernel_rfl
theorem ag74 : aggB Tryd.prog 74 = some false := by kernel_rfl
theorem sz75 : szB Tryd.prog 75 = some 1 := by kernel_rfl
theorem by75 : byB Tryd.prog 75 = some 8 := by kernel_rfl
theorem ag75 : aggB Tryd.prog 75 = some false := by kernel_rfl
theorem sz76 : szB Tryd.prog 76 = some 1 := by kernel_rfl
theorem by76 : byB Tryd.prog 76 = some 0 := by kernel_rfl
theorem ag76 : aggB Tryd.prog 76 = some false := by kernel_rfl
theorem ze76 : zeroB Tryd.prog 76 = some [.x (Value.tuple #[Value.int IntKind.i64 0, Value.agg #[Value.int IntKind.i64 0, Value.int IntKind.i64 0, Value.string ⟨#[]⟩], Value.bool false])] := by kernel_rfl
theorem zm76 : zeroM Tryd.prog 76 = some (.x (Value.tuple #[Value.int IntKind.i64 0, Value.agg #[Value.int IntKind.i64 0, Value.int IntKind.i64 0, Value.string ⟨#[]⟩], Value.bool false])) := by kernel_rfl
theorem sz77 : szB Tryd.prog 77 = some 1 := by kernel_rfl
theorem by77 : byB Tryd.prog 77 = some 8 := by kernel_rfl
theorem ag77 : aggB Tryd.prog 77 = some false := by kernel_rfl
theorem sz78 : szB Tryd.prog 78 = some 1 := by kernel_rfl
theorem by78 : byB Tryd.prog 78 = some 8 := by kernel_rfl
theorem ag78 : aggB Tryd.prog 78 = some false := by kernel_rfl
theorem sz79 : szB Tryd.prog 79 = some 1 := by kernel_rfl
theorem by79 : byB Tryd.prog 79 = some 8 := by kernel_rfl
theorem ag79 : aggB Tryd.prog 79 = some false := by kernel_rfl
theorem sz80 : szB Tryd.prog 80 = some 1 := by kernel_rfl
theorem by80 : byB Tryd.prog 80 = some 8 := by kernel_rfl
theorem ag80 : aggB Tryd.prog 80 = some false := by kernel_rfl
theorem sz81 : szB Tryd.prog 81 = some 1 := by kernel_rfl
theorem by81 : byB Tryd.prog 81 = some 8 := by kernel_rfl
theorem ag81 : aggB Tryd.prog 81 = some false := by kernel_rfl
theorem sz82 : szB Tryd.prog 82 = some 1 := by kernel_rfl
theorem by82 : byB Tryd.prog 82 = some 8 := by kernel_rfl
theorem ag82 : aggB Tryd.prog 82 = some false := by kernel_rfl
theorem sz83 : szB Tryd.prog 83 = some 8 := by kernel_rfl
theorem by83 : byB Tryd.prog 83 = some 128 := by kernel_rfl
theorem ag83 : aggB Tryd.prog 83 = some true := by kernel_rfl
theorem ze83 : zeroB Tryd.prog 83 = some [.x (Value.string ⟨#[]⟩), .x (Value.string ⟨#[]⟩), .x (Value.string ⟨#[]⟩), .x (Value.string ⟨#[]⟩), .x (Value.string ⟨#[]⟩), .x (Value.string ⟨#[]⟩), .x (Value.string ⟨#[]⟩), .x (Value.string ⟨#[]⟩)] := by kernel_rfl
theorem zm83 : zeroM Tryd.prog 83 = some (.agg [.x (Value.string ⟨#[]⟩), .x (Value.string ⟨#[]⟩), .x (Value.string ⟨#[]⟩), .x (Value.string ⟨#[]⟩), .x (Value.string ⟨#[]⟩), .x (Value.string ⟨#[]⟩), .x (Value.string ⟨#[]⟩), .x (Value.string ⟨#[]⟩)]) := by kernel_rfl
theorem sz84 : szB Tryd.prog 84 = some 1 := by kernel_rfl
theorem by84 : byB Tryd.prog 84 = some 8 := by kernel_rfl
theorem ag84 : aggB Tryd.prog 84 = some false := by kernel_rfl
theorem sz85 : szB Tryd.prog 85 = some 1 := by kernel_rfl
theorem by85 : byB Tryd.prog 85 = some 8 := by kernel_rfl
theorem ag85 : aggB Tryd.prog 85 = some false := by kernel_rfl
theorem sz86 : szB Tryd.prog 86 = some 1 := by kernel_rfl
theorem by86 : byB Tryd.prog 86 = some 8 := by kernel_rfl
theorem ag86 : aggB Tryd.prog 86 = some false := by kernel_rfl
theorem sz87 : szB Tryd.prog 87 = some 1 := by kernel_rfl
theorem by87 : byB Tryd.prog 87 = some 0 := by kernel_rfl
theorem ag87 : aggB Tryd.prog 87 = some false := by kernel_rfl
theorem ze87 : zeroB Tryd.prog 87 = some [.x (Value.tuple #[Value.int IntKind.i64 0, Value.bool false])] := by kernel_rfl
theorem zm87 : zeroM Tryd.prog 87 = some (.x (Value.tuple #[Value.int IntKind.i64 0, Value.bool false])) := by kernel_rfl
theorem sz88 : szB Tryd.prog 88 = some 1 := by kernel_rfl
theorem by88 : byB Tryd.prog 88 = some 8 := by kernel_rfl
theorem ag88 : aggB Tryd.prog 88 = some false := by kernel_rfl
theorem sz89 : szB Tryd.prog 89 = some 1 := by kernel_rfl
theorem by89 : byB Tryd.prog 89 = some 8 := by kernel_rfl
theorem ag89 : aggB Tryd.prog 89 = some false := by kernel_rfl
theorem ze89 : zeroB Tryd.prog 89 = some [.x (Value.pointer none)] := by kernel_rfl
theorem zm89 : zeroM Tryd.prog 89 = some (.x (Value.pointer none)) := by kernel_rfl
theorem sz90 : szB Tryd.prog 90 = some 1 := by kernel_rfl
theorem by90 : byB Tryd.prog 90 = some 8 := by kernel_rfl
theorem ag90 : aggB Tryd.prog 90 = some false := by kernel_rfl
theorem sz91 : szB Tryd.prog 91 = some 1 := by kernel_rfl
theorem by91 : byB Tryd.prog 91 = some 8 := by kernel_rfl
theorem ag91 : aggB Tryd.prog 91 = some false := by kernel_rfl
theorem ze91 : zeroB Tryd.prog 91 = some [.x (Value.pointer none)] := by kernel_rfl
theorem zm91 : zeroM Tryd.prog 91 = some (.x (Value.pointer none)) := by kernel_rfl
theorem sz92 : szB Tryd.prog 92 = some 1 := by kernel_rfl
theorem by92 : byB Tryd.prog 92 = some 8 := by kernel_rfl
theorem ag92 : aggB Tryd.prog 92 = some false := by kernel_rfl
theorem sz93 : szB Tryd.prog 93 = some 1 := by kernel_rfl
theorem by93 : byB Tryd.prog 93 = some 8 := by kernel_rfl
theorem ag93 : aggB Tryd.prog 93 = some false := by kernel_rfl
theorem sz94 : szB Tryd.prog 94 = some 1 := by kernel_rfl
theorem by94 : byB Tryd.prog 94 = some 8 := by kernel_rfl
theorem ag94 : aggB Tryd.prog 94 = some false := by kernel_rfl
theorem sz95 : szB Tryd.prog 95 = some 1 := by kernel_rfl
theorem by95 : byB Tryd.prog 95 = some 8 := by kernel_rfl
theorem ag95 : aggB Tryd.prog 95 = some false := by kernel_rfl
theorem ze95 : zeroB Tryd.prog 95 = some [.x (Value.int IntKind.u64 0)] := by kernel_rfl
theorem zm95 : zeroM Tryd.prog 95 = some (.x (Value.int IntKind.u64 0)) := by kernel_rfl
theorem sz96 : szB Tryd.prog 96 = some 1 := by kernel_rfl
theorem by96 : byB Tryd.prog 96 = some 8 := by kernel_rfl
theorem ag96 : aggB Tryd.prog 96 = some false := by kernel_rfl
theorem sz97 : szB Tryd.prog 97 = some 1 := by kernel_rfl
theorem by97 : byB Tryd.prog 97 = some 4 := by kernel_rfl
theorem ag97 : aggB Tryd.prog 97 = some false := by kernel_rfl
theorem ze97 : zeroB Tryd.prog 97 = some [.x (Value.int IntKind.u32 0)] := by kernel_rfl
theorem zm97 : zeroM Tryd.prog 97 = some (.x (Value.int IntKind.u32 0)) := by kernel_rfl
theorem sz98 : szB Tryd.prog 98 = some 1 := by kernel_rfl
theorem by98 : byB Tryd.prog 98 = some 0 := by kernel_rfl
theorem ag98 : aggB Tryd.prog 98 = some false := by kernel_rfl
theorem ze98 : zeroB Tryd.prog 98 = some [.x (Value.tuple #[Value.int IntKind.u32 0, Value.int IntKind.u32 0])] := by kernel_rfl
theorem zm98 : zeroM Tryd.prog 98 = some (.x (Value.tuple #[Value.int IntKind.u32 0, Value.int IntKind.u32 0])) := by kernel_rfl
theorem sz99 : szB Tryd.prog 99 = some 1 := by kernel_rfl
theorem by99 : byB Tryd.prog 99 = some 8 := by kernel_rfl
theorem ag99 : aggB Tryd.prog 99 = some false := by kernel_rfl
theorem sz100 : szB Tryd.prog 100 = some 24 := by kernel_rfl
theorem by100 : byB Tryd.prog 100 = some 24 := by kernel_rfl
theorem ag100 : aggB Tryd.prog 100 = some true := by kernel_rfl
theorem ze100 : zeroB Tryd.prog 100 = some [.x (Value.int IntKind.u8 0), .x (Value.int IntKind.u8 0), .x (Value.int IntKind.u8 0), .x (Value.int IntKind.u8 0), .x (Value.int IntKind.u8 0), .x (Value.int IntKind.u8 0), .x (Value.int IntKind.u8 0), .x (Value.int IntKind.u8 0), .x (Value.int IntKind.u8 0), .x (Value.int IntKind.u8 0), .x (Value.int IntKind.u8 0), .x (Value.int IntKind.u8 0), .x (Value.int IntKind.u8 0), .x (Value.int IntKind.u8 0), .x (Value.int IntKind.u8 0), .x (Value.int IntKind.u8 0), .x (Value.int IntKind.u8 0), .x (Value.int IntKind.u8 0), .x (Value.int IntKind.u8 0), .x (Value.int IntKind.u8 0), .x (Value.int IntKind.u8 0), .x (Value.int IntKind.u8 0), .x (Value.int IntKind.u8 0), .x (Value.int IntKind.u8 0)] := by kernel_rfl
theorem zm100 : zeroM Tryd.prog 100 = some (.agg [.x (Value.int IntKind.u8 0), .x (Value.int IntKind.u8 0), .x (Value.int IntKind.u8 0), .x (Value.int IntKind.u8 0), .x (Value.int IntKind.u8 0), .x (Value.int IntKind.u8 0), .x (Value.int IntKind.u8 0), .x (Value.int IntKind.u8 0), .x (Value.int IntKind.u8 0), .x (Value.int IntKind.u8 0), .x (Value.int IntKind.u8 0), .x (Value.int IntKind.u8 0), .x (Value.int IntKind.u8 0), .x (Value.int IntKind.u8 0), .x (Value.int IntKind.u8 0), .x (Value.int IntKind.u8 0), .x (Value.int IntKind.u8 0), .x (Value.int IntKind.u8 0), .x (Value.int IntKind.u8 0), .x (Value.int IntKind.u8 0), .x (Value.int IntKind.u8 0), .x (Value.int IntKind.u8 0), .x (Value.int IntKind.u8 0), .x (Value.int IntKind.u8 0)]) := by kernel_rfl
theorem sz101 : szB Tryd.prog 101 = some 1 := by kernel_rfl
theorem by101 : byB Tryd.prog 101 = some 8 := by kernel_rfl
theorem ag101 : aggB Tryd.prog 101 = some false := by kernel_rfl
theorem ze101 : zeroB Tryd.prog 101 = some [.x (Value.int IntKind.u64 0)] := by kernel_rfl
theorem zm101 : zeroM Tryd.prog 101 = some (.x (Value.int IntKind.u64 0)) := by kernel_rfl
theorem sz102 : szB Tryd.prog 102 = some 1 := by kernel_rfl
theorem by102 : byB Tryd.prog 102 = some 8 := by kernel_rfl
theorem ag102 : aggB Tryd.prog 102 = some false := by kernel_rfl
theorem sz103 : szB Tryd.prog 103 = some 1 := by kernel_rfl
theorem by103 : byB Tryd.prog 103 = some 8 := by kernel_rfl
theorem ag103 : aggB Tryd.prog 103 = some false := by kernel_rfl
theorem sz104 : szB Tryd.prog 104 = some 1 := by kernel_rfl
theorem by104 : byB Tryd.prog 104 = some 0 := by kernel_rfl
theorem ag104 : aggB Tryd.prog 104 = some false := by kernel_rfl
theorem ze104 : zeroB Tryd.prog 104 = some [.x (Value.tuple #[Value.slice none 0 0, Value.string ⟨#[]⟩])] := by kernel_rfl
theorem zm104 : zeroM Tryd.prog 104 = some (.x (Value.tuple #[Value.slice none 0 0, Value.string ⟨#[]⟩])) := by kernel_rfl
theorem sz105 : szB Tryd.prog 105 = some 1 := by kernel_rfl
theorem by105 : byB Tryd.prog 105 = some 8 := by kernel_rfl
theorem ag105 : aggB Tryd.prog 105 = some false := by kernel_rfl
theorem sz106 : szB Tryd.prog 106 = some 1 := by kernel_rfl
theorem by106 : byB Tryd.prog 106 = some 8 := by kernel_rfl
theorem ag106 : aggB Tryd.prog 106 = some false := by kernel_rfl
theorem sz107 : szB Tryd.prog 107 = some 20 := by kernel_rfl
theorem by107 : byB Tryd.prog 107 = some 160 := by kernel_rfl
theorem ag107 : aggB Tryd.prog 107 = some true := by kernel_rfl
theorem ze107 : zeroB Tryd.prog 107 = some [.x (Value.int IntKind.u64 0), .x (Value.int IntKind.u64 0), .x (Value.int IntKind.u64 0), .x (Value.int IntKind.u64 0), .x (Value.int IntKind.u64 0), .x (Value.int IntKind.u64 0), .x (Value.int IntKind.u64 0), .x (Value.int IntKind.u64 0), .x (Value.int IntKind.u64 0), .x (Value.int IntKind.u64 0), .x (Value.int IntKind.u64 0), .x (Value.int IntKind.u64 0), .x (Value.int IntKind.u64 0), .x (Value.int IntKind.u64 0), .x (Value.int IntKind.u64 0), .x (Value.int IntKind.u64 0), .x (Value.int IntKind.u64 0), .x (Value.int IntKind.u64 0), .x (Value.int IntKind.u64 0), .x (Value.int IntKind.u64 0)] := by kernel_rfl
theorem zm107 : zeroM Tryd.prog 107 = some (.agg [.x (Value.int IntKind.u64 0), .x (Value.int IntKind.u64 0), .x (Value.int IntKind.u64 0), .x (Value.int IntKind.u64 0), .x (Value.int IntKind.u64 0), .x (Value.int IntKind.u64 0), .x (Value.int IntKind.u64 0), .x (Value.int IntKind.u64 0), .x (Value.int IntKind.u64 0), .x (Value.int IntKind.u64 0), .x (Value.int IntKind.u64 0), .x (Value.int IntKind.u64 0), .x (Value.int IntKind.u64 0), .x (Value.int IntKind.u64 0), .x (Value.int IntKind.u64 0), .x (Value.int IntKind.u64 0), .x (Value.int IntKind.u64 0), .x (Value.int IntKind.u64 0), .x (Value.int IntKind.u64 0), .x (Value.int IntKind.u64 0)]) := by kernel_rfl
theorem sz108 : szB Tryd.prog 108 = some 65 := by kernel_rfl
theorem by108 : byB Tryd.prog 108 = some 65 := by kernel_rfl
theorem ag108 : aggB Tryd.prog 108 = some true := by kernel_rfl
theorem sz109 : szB Tryd.prog 109 = some 1 := by kernel_rfl
theorem by109 : byB Tryd.prog 109 = some 8 := by kernel_rfl
theorem ag109 : aggB Tryd.prog 109 = some false := by kernel_rfl
theorem sz110 : szB Tryd.prog 110 = some 1 := by kernel_rfl
theorem by110 : byB Tryd.prog 110 = some 8 := by kernel_rfl
theorem ag110 : aggB Tryd.prog 110 = some false := by kernel_rfl
theorem sz111 : szB Tryd.prog 111 = some 32 := by kernel_rfl
theorem by111 : byB Tryd.prog 111 = some 32 := by kernel_rfl
theorem ag111 : aggB Tryd.prog 111 = some true := by kernel_rfl
theorem ze111 : zeroB Tryd.prog 111 = some [.x (Value.int IntKind.u8 0), .x (Value.int IntKind.u8 0), .x (Value.int IntKind.u8 0), .x (Value.int IntKind.u8 0), .x (Value.int IntKind.u8 0), .x (Value.int IntKind.u8 0), .x (Value.int IntKind.u8 0), .x (Value.int IntKind.u8 0), .x (Value.int IntKind.u8 0), .x (Value.int IntKind.u8 0), .x (Value.int IntKind.u8 0), .x (Value.int IntKind.u8 0), .x (Value.int IntKind.u8 0), .x (Value.int IntKind.u8 0), .x (Value.int IntKind.u8 0), .x (Value.int IntKind.u8 0), .x (Value.int IntKind.u8 0), .x (Value.int IntKind.u8 0), .x (Value.int IntKind.u8 0), .x (Value.int IntKind.u8 0), .x (Value.int IntKind.u8 0), .x (Value.int IntKind.u8 0), .x (Value.int IntKind.u8 0), .x (Value.int IntKind.u8 0), .x (Value.int IntKind.u8 0), .x (Value.int IntKind.u8 0), .x (Value.int IntKind.u8 0), .x (Value.int IntKind.u8 0), .x (Value.int IntKind.u8 0), .x (Value.int IntKind.u8 0), .x (Value.int IntKind.u8 0), .x (Value.int IntKind.u8 0)] := by kernel_rfl
theorem zm111 : zeroM Tryd.prog 111 = some (.agg [.x (Value.int IntKind.u8 0), .x (Value.int IntKind.u8 0), .x (Value.int IntKind.u8 0), .x (Value.int IntKind.u8 0), .x (Value.int IntKind.u8 0), .x (Value.int IntKind.u8 0), .x (Value.int IntKind.u8 0), .x (Value.int IntKind.u8 0), .x (Value.int IntKind.u8 0), .x (Value.int IntKind.u8 0), .x (Value.int IntKind.u8 0), .x (Value.int IntKind.u8 0), .x (Value.int IntKind.u8 0), .x (Value.int IntKind.u8 0), .x (Value.int IntKind.u8 0), .x (Value.int IntKind.u8 0), .x (Value.int IntKind.u8 0), .x (Value.int IntKind.u8 0), .x (Value.int IntKind.u8 0), .x (Value.int IntKind.u8 0), .x (Value.int IntKind.u8 0), .x (Value.int IntKind.u8 0), .x (Value.int IntKind.u8 0), .x (Value.int IntKind.u8 0), .x (Value.int IntKind.u8 0), .x (Value.int IntKind.u8 0), .x (Value.int IntKind.u8 0), .x (Value.int IntKind.u8 0), .x (Value.int IntKind.u8 0), .x (Value.int IntKind.u8 0), .x (Value.int IntKind.u8 0), .x (Value.int IntKind.u8 0)]) := by kernel_rfl
theorem sz112 : szB Tryd.prog 112 = some 64 := by kernel_rfl
theorem by112 : byB Tryd.prog 112 = some 64 := by kernel_rfl
theorem ag112 : aggB Tryd.prog 112 = some true := by kernel_rfl
theorem ze112 : zeroB Tryd.prog 112 = some [.x (Value.int IntKind.u8 0), .x (Value.int IntKind.u8 0), .x (Value.int IntKind.u8 0), .x (Value.int IntKind.u8 0), .x (Value.int IntKind.u8 0), .x (Value.int IntKind.u8 0), .x (Value.int IntKind.u8 0), .x (Value.int IntKind.u8 0), .x (Value.int IntKind.u8 0), .x (Value.int IntKind.u8 0), .x (Value.int IntKind.u8 0), .x (Value.int IntKind.u8 0), .x (Value.int IntKind.u8 0), .x (Value.int IntKind.u8 0), .x (Value.int IntKind.u8 0), .x (Value.int IntKind.u8 0), .x (Value.int IntKind.u8 0), .x (Value.int IntKind.u8 0), .x (Value.int IntKind.u8 0), .x (Value.int IntKind.u8 0), .x (Value.int IntKind.u8 0), .x (Value.int IntKind.u8 0), .x (Value.int IntKind.u8 0), .x (Value.int IntKind.u8 0), .x (Value.int IntKind.u8 0), .x (Value.int IntKind.u8 0), .x (Value.int IntKind.u8 0), .x (Value.int IntKind.u8 0), .x (Value.int IntKind.u8 0), .x (Value.int IntKind.u8 0), .x (Value.int IntKind.u8 0), .x (Value.int IntKind.u8 0), .x (Value.int IntKind.u8 0), .x (Value.int IntKind.u8 0), .x (Value.int IntKind.u8 0), .x (Value.int IntKind.u8 0), .x (Value.int IntKind.u8 0), .x (Value.int IntKind.u8 0), .x (Value.int IntKind.u8 0), .x (Value.int IntKind.u8 0), .x (Value.int IntKind.u8 0), .x (Value.int IntKind.u8 0), .x (Value.int IntKind.u8 0), .x (Value.int IntKind.u8 0), .x (Value.int IntKind.u8 0), .x (Value.int IntKind.u8 0), .x (Value.int IntKind.u8 0), .x (Value.int IntKind.u8 0), .x (Value.int IntKind.u8 0), .x (Value.int IntKind.u8 0), .x (Value.int IntKind.u8 0), .x (Value.int IntKind.u8 0), .x (Value.int IntKind.u8 0), .x (Value.int IntKind.u8 0), .x (Value.int IntKind.u8 0), .x (Value.int IntKind.u8 0), .x (Value.int IntKind.u8 0), .x (Value.int IntKind.u8 0), .x (Value.int IntKind.u8 0), .x (Value.int IntKind.u8 0), .x (Value.int IntKind.u8 0), .x (Value.int IntKind.u8 0), .x (Value.int IntKind.u8 0), .x (Value.int IntKind.u8 0)] := by kernel_rfl
theorem zm112 : zeroM Tryd.prog 112 = some (.agg [.x (Value.int IntKind.u8 0), .x (Value.int IntKind.u8 0), .x (Value.int IntKind.u8 0), .x (Value.int IntKind.u8 0), .x (Value.int IntKind.u8 0), .x (Value.int IntKind.u8 0), .x (Value.int IntKind.u8 0), .x (Value.int IntKind.u8 0), .x (Value.int IntKind.u8 0), .x (Value.int IntKind.u8 0), .x (Value.int IntKind.u8 0), .x (Value.int IntKind.u8 0), .x (Value.int IntKind.u8 0), .x (Value.int IntKind.u8 0), .x (Value.int IntKind.u8 0), .x (Value.int IntKind.u8 0), .x (Value.int IntKind.u8 0), .x (Value.int IntKind.u8 0), .x (Value.int IntKind.u8 0), .x (Value.int IntKind.u8 0), .x (Value.int IntKind.u8 0), .x (Value.int IntKind.u8 0), .x (Value.int IntKind.u8 0), .x (Value.int IntKind.u8 0), .x (Value.int IntKind.u8 0), .x (Value.int IntKind.u8 0), .x (Value.int IntKind.u8 0), .x (Value.int IntKind.u8 0), .x (Value.int IntKind.u8 0), .x (Value.int IntKind.u8 0), .x (Value.int IntKind.u8 0), .x (Value.int IntKind.u8 0), .x (Value.int IntKind.u8 0), .x (Value.int IntKind.u8 0), .x (Value.int IntKind.u8 0), .x (Value.int IntKind.u8 0), .x (Value.int IntKind.u8 0), .x (Value.int IntKind.u8 0), .x (Value.int IntKind.u8 0), .x (Value.int IntKind.u8 0), .x (Value.int IntKind.u8 0), .x (Value.int IntKind.u8 0), .x (Value.int IntKind.u8 0), .x (Value.int IntKind.u8 0), .x (Value.int IntKind.u8 0), .x (Value.int IntKind.u8 0), .x (Value.int IntKind.u8 0), .x (Value.int IntKind.u8 0), .x (Value.int IntKind.u8 0), .x (Value.int IntKind.u8 0), .x (Value.int IntKind.u8 0), .x (Value.int IntKind.u8 0), .x (Value.int IntKind.u8 0), .x (Value.int IntKind.u8 0), .x (Value.int IntKind.u8 0), .x (Value.int IntKind.u8 0), .x (Value.int IntKind.u8 0), .x (Value.int IntKind.u8 0), .x (Value.int IntKind.u8 0), .x (Value.int IntKind.u8 0), .x (Value.int IntKind.u8 0), .x (Value.int IntKind.u8 0), .x (Value.int IntKind.u8 0), .x (Value.int IntKind.u8 0)]) := by kernel_rfl
theorem sz113 : szB Tryd.prog 113 = some 4 := by kernel_rfl
theorem by113 : byB Tryd.prog 113 = some 40 := by kernel_rfl
theorem ag113 : aggB Tryd.prog 113 = some true := by kernel_rfl
theorem ze113 : zeroB Tryd.prog 113 = some [.x (Value.pointer none), .x (Value.pointer none), .x (Value.pointer none), .x (Value.string ⟨#[]⟩)] := by kernel_rfl
theorem zm113 : zeroM Tryd.prog 113 = some (.agg [.x (Value.pointer none), .x (Value.pointer none), .x (Value.pointer none), .x (Value.string ⟨#[]⟩)]) := by kernel_rfl
theorem sz114 : szB Tryd.prog 114 = some 4 := by kernel_rfl
theorem by114 : byB Tryd.prog 114 = some 40 := by kernel_rfl
theorem ag114 : aggB Tryd.prog 114 = some true := by kernel_rfl
theorem ze114 : zeroB Tryd.prog 114 = some [.x (Value.pointer none), .x (Value.pointer none), .x (Value.pointer none), .x (Value.string ⟨#[]⟩)] := by kernel_rfl
theorem zm114 : zeroM Tryd.prog 114 = some (.agg [.x (Value.pointer none), .x (Value.pointer none), .x (Value.pointer none), .x (Value.string ⟨#[]⟩)]) := by kernel_rfl
theorem sz115 : szB Tryd.prog 115 = some 0 := by kernel_rfl
theorem by115 : byB Tryd.prog 115 = some 0 := by kernel_rfl
theorem ag115 : aggB Tryd.prog 115 = some true := by kernel_rfl
theorem ze115 : zeroB Tryd.prog 115 = some [] := by kernel_rfl
theorem zm115 : zeroM Tryd.prog 115 = some (.agg []) := by kernel_rfl
theorem sz116 : szB Tryd.prog 116 = some 0 := by kernel_rfl
theorem by116 : byB Tryd.prog 116 = some 0 := by kernel_rfl
theorem ag116 : aggB Tryd.prog 116 = some true := by kernel_rfl
theorem ze116 : zeroB Tryd.prog 116 = some [] := by kernel_rfl
theorem zm116 : zeroM Tryd.prog 116 = some (.agg []) := by kernel_rfl
theorem sz117 : szB Tryd.prog 117 = some 0 := by kernel_rfl
theorem by117 : byB Tryd.prog 117 = some 0 := by kernel_rfl
theorem ag117 : aggB Tryd.prog 117 = some true := by kernel_rfl
theorem ze117 : zeroB Tryd.prog 117 = some [] := by kernel_rfl
theorem zm117 : zeroM Tryd.prog 117 = some (.agg []) := by kernel_rfl
theorem sz118 : szB Tryd.prog 118 = some 1 := by kernel_rfl
theorem by118 : byB Tryd.prog 118 = some 1 := by kernel_rfl
theorem ag118 : aggB Tryd.prog 118 = some false := by kernel_rfl
theorem ze118 : zeroB Tryd.prog 118 = some [.x (Value.int IntKind.u8 0)] := by kernel_rfl
theorem zm118 : zeroM Tryd.prog 118 = some (.x (Value.int IntKind.u8 0)) := by kernel_rfl
theorem sz119 : szB Tryd.prog 119 = some 1 := by kernel_rfl
theorem by119 : byB Tryd.prog 119 = some 1 := by kernel_rfl
theorem ag119 : aggB Tryd.prog 119 = some false := by kernel_rfl
theorem ze119 : zeroB Tryd.prog 119 = some [.x (Value.int IntKind.u8 0)] := by kernel_rfl
theorem zm119 : zeroM Tryd.prog 119 = some (.x (Value.int IntKind.u8 0)) := by kernel_rfl
theorem sz120 : szB Tryd.prog 120 = some 1 := by kernel_rfl
theorem by120 : byB Tryd.prog 120 = some 8 := by kernel_rfl
theorem ag120 : aggB Tryd.prog 120 = some false := by kernel_rfl
theorem sz121 : szB Tryd.prog 121 = some 1 := by kernel_rfl
theorem by121 : byB Tryd.prog 121 = some 4 := by kernel_rfl
theorem ag121 : aggB Tryd.prog 121 = some false := by kernel_rfl
theorem ze121 : zeroB Tryd.prog 121 = some [.x (Value.int IntKind.i32 0)] := by kernel_rfl
theorem zm121 : zeroM Tryd.prog 121 = some (.x (Value.int IntKind.i32 0)) := by kernel_rfl
theorem sz122 : szB Tryd.prog 122 = some 1 := by kernel_rfl
theorem by122 : byB Tryd.prog 122 = some 4 := by kernel_rfl
theorem ag122 : aggB Tryd.prog 122 = some false := by kernel_rfl
theorem ze122 : zeroB Tryd.prog 122 = some [.x (Value.int IntKind.i32 0)] := by kernel_rfl
theorem zm122 : zeroM Tryd.prog 122 = some (.x (Value.int IntKind.i32 0)) := by kernel_rfl
theorem sz123 : szB Tryd.prog 123 = some 11 := by kernel_rfl
theorem by123 : byB Tryd.prog 123 = some 48 := by kernel_rfl
theorem ag123 : aggB Tryd.prog 123 = some true := by kernel_rfl
theorem ze123 : zeroB Tryd.prog 123 = some [.x (Value.int IntKind.u64 0), .x (Value.int IntKind.u64 0), .x (Value.int IntKind.u32 0), .x (Value.int IntKind.u8 0), .x (Value.int IntKind.u8 0), .x (Value.int IntKind.u8 0), .x (Value.int IntKind.u8 0), .x (Value.nilFunc), .x (Value.pointer none), .x (Value.int IntKind.i32 0), .x (Value.int IntKind.i32 0)] := by kernel_rfl
theorem zm123 : zeroM Tryd.prog 123 = some (.agg [.x (Value.int IntKind.u64 0), .x (Value.int IntKind.u64 0), .x (Value.int IntKind.u32 0), .x (Value.int IntKind.u8 0), .x (Value.int IntKind.u8 0), .x (Value.int IntKind.u8 0), .x (Value.int IntKind.u8 0), .x (Value.nilFunc), .x (Value.pointer none), .x (Value.int IntKind.i32 0), .x (Value.int IntKind.i32 0)]) := by kernel_rfl
theorem sz124 : szB Tryd.prog 124 = some 11 := by kernel_rfl
theorem by124 : byB Tryd.prog 124 = some 48 := by kernel_rfl
theorem ag124 : aggB Tryd.prog 124 = some true := by kernel_rfl
theorem ze124 : zeroB Tryd.prog 124 = some [.x (Value.int IntKind.u64 0), .x (Value.int IntKind.u64 0), .x (Value.int IntKind.u32 0), .x (Value.int IntKind.u8 0), .x (Value.int IntKind.u8 0), .x (Value.int IntKind.u8 0), .x (Value.int IntKind.u8 0), .x (Value.nilFunc), .x (Value.pointer none), .x (Value.int IntKind.i32 0), .x (Value.int IntKind.i32 0)] := by kernel_rfl
theorem zm124 : zeroM Tryd.prog 124 = some (.agg [.x (Value.int IntKind.u64 0), .x (Value.int IntKind.u64 0), .x (Value.int IntKind.u32 0), .x (Value.int IntKind.u8 0), .x (Value.int IntKind.u8 0), .x (Value.int IntKind.u8 0), .x (Value.int IntKind.u8 0), .x (Value.nilFunc), .x (Value.pointer none), .x (Value.int IntKind.i32 0), .x (Value.int IntKind.i32 0)]) := by kernel_rfl
attribute [go_sem] sz0 by0 sz1 by1 sz2 by2 sz3 by3 sz4 by4 sz5 by5 sz6 by6 sz7 by7 sz8 by8 sz9 by9 sz10 by10 sz11 by11 sz12 by12 sz13 by13 sz14 by14 sz15 by15 sz16 by16 sz17 by17 sz18 by18 sz19 by19 sz20 by20 sz21 by21 sz22 by22 sz23 by23 sz24 by24 sz25 by25 sz26 by26 sz27 by27 sz28 by28 sz29 by29 sz30 by30 sz31 by31 sz32 by32 sz33 by33 sz34 by34 sz35 by35 sz36 by36 sz37 by37 sz38 by38 sz39 by39 sz40 by40 sz41 by41 sz42 by42 sz43 by43 sz44 by44 sz45 by45 sz46 by46 sz47 by47 sz48 by48 sz49 by49 sz50 by50 sz51 by51 sz52 by52 sz53 by53 sz54 by54 sz55 by55 sz56 by56 sz57 by57 sz58 by58 sz59 by59 sz60 by60 sz61 by61 sz62 by62 sz63 by63 sz64 by64 sz65 by65 sz66 by66 sz67 by67 sz68 by68 sz69 by69 sz70 by70 sz71 by71 sz72 by72 sz73 by73 sz74 by74 sz75 by75 sz76 by76 sz77 by77 sz78 by78 sz79 by79 sz80 by80 sz81 by81 sz82 by82 sz83 by83 sz84 by84 sz85 by85 sz86 by86 sz87 by87 sz88 by88 sz89 by89 sz90 by90 sz91 by91 sz92 by92 sz93 by93 sz94 by94 sz95 by95 sz96 by96 sz97 by97 sz98 by98 sz99 by99 sz100 by100 sz101 by101 sz102 by102 sz103 by103 sz104 by104 sz105 by105 sz106 by106 sz107 by107 sz108 by108 sz109 by109 sz110 by110 sz111 by111 sz112 by112 sz113 by113 sz114 by114 sz115 by115 sz116 by116 sz117 by117 sz118 by118 sz119 by119 sz120 by120 sz121 by121 sz122 by122 sz123 by123 sz124 by124 ag0 ag1 ag2 ag3 ag4 ag5 ag6 ag7 ag8 ag9 ag10 ag11 ag12 ag13 ag14 ag15 ag16 ag17 ag18 ag19 ag20 ag21 ag22 ag23 ag24 ag25 ag26 ag27 ag28 ag29 ag30 ag31 ag32 ag33 ag34 ag35 ag36 ag37 ag38 ag39 ag40 ag41 ag42 ag43 ag44 ag45 ag46 ag47 ag48 ag49 ag50 ag51 ag52 ag53 ag54 ag55 ag56 ag57 ag58 ag59 ag60 ag61 ag62 ag63 ag64 ag65 ag66 ag67 ag68 ag69 ag70 ag71 ag72 ag73 ag74 ag75 ag76 ag77 ag78 ag79 ag80 ag81 ag82 ag83 ag84 ag85 ag86 ag87 ag88 ag89 ag90 ag91 ag92 ag93 ag94 ag95 ag96 ag97 ag98 ag99 ag100 ag101 ag102 ag103 ag104 ag105 ag106 ag107 ag108 ag109 ag110 ag111 ag112 ag113 ag114 ag115 ag116 ag117 ag118 ag119 ag120 ag121 ag122 ag123 ag124 ze0 zm0 ze2 zm2 ze3 zm3 ze4 zm4 ze5 zm5 ze6 zm6 ze7 zm7 ze8 zm8 ze9 zm9 ze10 zm10 ze11 zm11 ze12 zm12 ze13 zm13 ze14 zm14 ze15 zm15 ze16 zm16 ze17 zm17 ze18 zm18 ze19 zm19 ze21 zm21 ze22 zm22 ze23 zm23 ze25 zm25 ze27 zm27 ze28 zm28 ze29 zm29 ze47 zm47 ze53 zm53 ze63 zm63 ze65 zm65 ze66 zm66 ze67 zm67 ze68 zm68 ze71 zm71 ze76 zm76 ze83 zm83 ze87 zm87 ze89 zm89 ze91 zm91 ze95 zm95 ze97 zm97 ze98 zm98 ze100 zm100 ze101 zm101 ze104 zm104 ze107 zm107 ze111 zm111 ze112 zm112 ze113 zm113 ze114 zm114 ze115 zm115 ze116 zm116 ze117 zm117 ze118 zm118 ze119 zm119 ze121 zm121 ze122 zm122 ze123 zm123 ze124 zm124 Tryd.underlying0 Tryd.underlying1 Tryd.underlying2 Tryd.underlying3 Tryd.underlying4 Tryd.underlying5 Tryd.underlying6 Tryd.underlying7 Tryd.eqGuardType7 Tryd.stoodInHeld7 Tryd.underlying8 Tryd.eqGuardType8 Tryd.stoodInHeld8 Tryd.underlying9 Tryd.underlying10 Tryd.underlying11 Tryd.underlying12 Tryd.underlying13 Tryd.eqGuardType13 Tryd.stoodInHeld13 Tryd.underlying14 Tryd.eqGuardType14 Tryd.stoodInHeld14 Tryd.underlying15 Tryd.underlying16 Tryd.underlying17 Tryd.underlying18 Tryd.eqGuardType18 Tryd.stoodInHeld18 Tryd.underlying19 Tryd.eqGuardType19 Tryd.stoodInHeld19 Tryd.underlying20 Tryd.underlying21 Tryd.underlying22 Tryd.underlying23 Tryd.underlying24 Tryd.underlying25 Tryd.underlying26 Tryd.underlying27 Tryd.underlying28 Tryd.eqGuardType28 Tryd.stoodInHeld28 Tryd.underlying29 Tryd.eqGuardType29 Tryd.stoodInHeld29 Tryd.underlying30 Tryd.underlying31 Tryd.underlying32 Tryd.underlying33 Tryd.underlying34 Tryd.underlying35 Tryd.underlying36 Tryd.underlying37 Tryd.underlying38 Tryd.underlying39 Tryd.underlying40 Tryd.underlying41 Tryd.underlying42 Tryd.underlying43 Tryd.underlying44 Tryd.underlying45 Tryd.underlying46 Tryd.underlying47 Tryd.underlying48 Tryd.underlying49 Tryd.underlying50 Tryd.underlying51 Tryd.underlying52 Tryd.underlying53 Tryd.underlying54 Tryd.underlying55 Tryd.underlying56 Tryd.underlying57 Tryd.underlying58 Tryd.underlying59 Tryd.underlying60 Tryd.underlying61 Tryd.underlying62 Tryd.underlying63 Tryd.underlying64 Tryd.underlying65 Tryd.underlying66 Tryd.underlying67 Tryd.eqGuardType67 Tryd.stoodInHeld67 Tryd.underlying68 Tryd.eqGuardType68 Tryd.stoodInHeld68 Tryd.underlying69 Tryd.underlying70 Tryd.underlying71 Tryd.underlying72 Tryd.underlying73 Tryd.underlying74 Tryd.underlying75 Tryd.underlying76 Tryd.underlying77 Tryd.underlying78 Tryd.underlying79 Tryd.underlying80 Tryd.underlying81 Tryd.underlying82 Tryd.underlying83 Tryd.eqGuardType83 Tryd.underlying84 Tryd.underlying85 Tryd.underlying86 Tryd.underlying87 Tryd.underlying88 Tryd.underlying89 Tryd.underlying90 Tryd.underlying91 Tryd.underlying92 Tryd.underlying93 Tryd.underlying94 Tryd.underlying95 Tryd.underlying96 Tryd.underlying97 Tryd.underlying98 Tryd.underlying99 Tryd.underlying100 Tryd.eqGuardType100 Tryd.underlying101 Tryd.underlying102 Tryd.underlying103 Tryd.underlying104 Tryd.underlying105 Tryd.underlying106 Tryd.underlying107 Tryd.eqGuardType107 Tryd.underlying108 Tryd.eqGuardType108 Tryd.underlying109 Tryd.underlying110 Tryd.underlying111 Tryd.eqGuardType111 Tryd.underlying112 Tryd.eqGuardType112 Tryd.underlying113 Tryd.eqGuardType113 Tryd.stoodInHeld113 Tryd.underlying114 Tryd.eqGuardType114 Tryd.stoodInHeld114 Tryd.underlying115 Tryd.eqGuardType115 Tryd.underlying116 Tryd.eqGuardType116 Tryd.stoodInHeld116 Tryd.underlying117 Tryd.eqGuardType117 Tryd.stoodInHeld117 Tryd.underlying118 Tryd.underlying119 Tryd.underlying120 Tryd.underlying121 Tryd.underlying122 Tryd.underlying123 Tryd.eqGuardType123 Tryd.stoodInHeld123 Tryd.underlying124 Tryd.eqGuardType124 Tryd.stoodInHeld124
end Go.Proofs.YtakcoalbidjahaaDoor

/- What the run over plain data asks of each type of this seat's program, by program. -/
import Derived.Test.YtkomcgljekfheaaDoorPfI
import Derived.Test.YtkomcgljekfheaaDoorProg
import Derived.KernelRfl
namespace Go.Proofs.YtkomcgljekfheaaDoor
open Go Go.RowKit
theorem sz0 : szB Tryd.prog 0 = some 1 := by kernel_rfl
theorem by0 : byB Tryd.prog 0 = some 0 := by kernel_rfl
theorem ag0 : aggB Tryd.prog 0 = some false := by kernel_rfl
theorem ze0 : zeroB Tryd.prog 0 = some [.x (Value.tuple #[])] := by kernel_rfl
theorem sz1 : szB Tryd.prog 1 = some 1 := by kernel_rfl
theorem by1 : byB Tryd.prog 1 = some 8 := by kernel_rfl
theorem ag1 : aggB Tryd.prog 1 = some false := by kernel_rfl
theorem sz2 : szB Tryd.prog 2 = some 1 := by kernel_rfl
theorem by2 : byB Tryd.prog 2 = some 8 := by kernel_rfl
theorem ag2 : aggB Tryd.prog 2 = some false := by kernel_rfl
theorem ze2 : zeroB Tryd.prog 2 = some [.x (Value.int IntKind.i64 0)] := by kernel_rfl
theorem sz3 : szB Tryd.prog 3 = some 1 := by kernel_rfl
theorem by3 : byB Tryd.prog 3 = some 8 := by kernel_rfl
theorem ag3 : aggB Tryd.prog 3 = some false := by kernel_rfl
theorem ze3 : zeroB Tryd.prog 3 = some [.x (Value.int IntKind.i64 0)] := by kernel_rfl
theorem sz4 : szB Tryd.prog 4 = some 1 := by kernel_rfl
theorem by4 : byB Tryd.prog 4 = some 1 := by kernel_rfl
theorem ag4 : aggB Tryd.prog 4 = some false := by kernel_rfl
theorem ze4 : zeroB Tryd.prog 4 = some [.x (Value.bool false)] := by kernel_rfl
theorem sz5 : szB Tryd.prog 5 = some 1 := by kernel_rfl
theorem by5 : byB Tryd.prog 5 = some 1 := by kernel_rfl
theorem ag5 : aggB Tryd.prog 5 = some false := by kernel_rfl
theorem ze5 : zeroB Tryd.prog 5 = some [.x (Value.int IntKind.u8 0)] := by kernel_rfl
theorem sz6 : szB Tryd.prog 6 = some 1 := by kernel_rfl
theorem by6 : byB Tryd.prog 6 = some 1 := by kernel_rfl
theorem ag6 : aggB Tryd.prog 6 = some false := by kernel_rfl
theorem ze6 : zeroB Tryd.prog 6 = some [.x (Value.int IntKind.u8 0)] := by kernel_rfl
theorem sz7 : szB Tryd.prog 7 = some 4 := by kernel_rfl
theorem by7 : byB Tryd.prog 7 = some 24 := by kernel_rfl
theorem ag7 : aggB Tryd.prog 7 = some true := by kernel_rfl
theorem ze7 : zeroB Tryd.prog 7 = some [.x (Value.int IntKind.i64 0), .x (Value.int IntKind.i64 0), .x (Value.bool false), .x (Value.int IntKind.u8 0)] := by kernel_rfl
theorem sz8 : szB Tryd.prog 8 = some 4 := by kernel_rfl
theorem by8 : byB Tryd.prog 8 = some 24 := by kernel_rfl
theorem ag8 : aggB Tryd.prog 8 = some true := by kernel_rfl
theorem ze8 : zeroB Tryd.prog 8 = some [.x (Value.int IntKind.i64 0), .x (Value.int IntKind.i64 0), .x (Value.bool false), .x (Value.int IntKind.u8 0)] := by kernel_rfl
theorem sz9 : szB Tryd.prog 9 = some 1 := by kernel_rfl
theorem by9 : byB Tryd.prog 9 = some 16 := by kernel_rfl
theorem ag9 : aggB Tryd.prog 9 = some false := by kernel_rfl
theorem ze9 : zeroB Tryd.prog 9 = some [.x (Value.string ⟨#[]⟩)] := by kernel_rfl
theorem sz10 : szB Tryd.prog 10 = some 1 := by kernel_rfl
theorem by10 : byB Tryd.prog 10 = some 16 := by kernel_rfl
theorem ag10 : aggB Tryd.prog 10 = some false := by kernel_rfl
theorem ze10 : zeroB Tryd.prog 10 = some [.x (Value.string ⟨#[]⟩)] := by kernel_rfl
theorem sz11 : szB Tryd.prog 11 = some 1 := by kernel_rfl
theorem by11 : byB Tryd.prog 11 = some 16 := by kernel_rfl
theorem ag11 : aggB Tryd.prog 11 = some false := by kernel_rfl
theorem ze11 : zeroB Tryd.prog 11 = some [.x (Value.string ⟨#[]⟩)] := by kernel_rfl
theorem sz12 : szB Tryd.prog 12 = some 1 := by kernel_rfl
theorem by12 : byB Tryd.prog 12 = some 8 := by kernel_rfl
theorem ag12 : aggB Tryd.prog 12 = some false := by kernel_rfl
theorem ze12 : zeroB Tryd.prog 12 = some [.x (Value.int IntKind.u64 0)] := by kernel_rfl
theorem sz13 : szB Tryd.prog 13 = some 2 := by kernel_rfl
theorem by13 : byB Tryd.prog 13 = some 24 := by kernel_rfl
theorem ag13 : aggB Tryd.prog 13 = some true := by kernel_rfl
theorem ze13 : zeroB Tryd.prog 13 = some [.x (Value.string ⟨#[]⟩), .x (Value.int IntKind.u64 0)] := by kernel_rfl
theorem sz14 : szB Tryd.prog 14 = some 2 := by kernel_rfl
theorem by14 : byB Tryd.prog 14 = some 24 := by kernel_rfl
theorem ag14 : aggB Tryd.prog 14 = some true := by kernel_rfl
theorem ze14 : zeroB Tryd.prog 14 = some [.x (Value.string ⟨#[]⟩), .x (Value.int IntKind.u64 0)] := by kernel_rfl
theorem sz15 : szB Tryd.prog 15 = some 1 := by kernel_rfl
theorem by15 : byB Tryd.prog 15 = some 8 := by kernel_rfl
theorem ag15 : aggB Tryd.prog 15 = some false := by kernel_rfl
theorem ze15 : zeroB Tryd.prog 15 = some [.x (Value.pointer none)] := by kernel_rfl
theorem sz16 : szB Tryd.prog 16 = some 1 := by kernel_rfl
theorem by16 : byB Tryd.prog 16 = some 8 := by kernel_rfl
theorem ag16 : aggB Tryd.prog 16 = some false := by kernel_rfl
theorem ze16 : zeroB Tryd.prog 16 = some [.x (Value.pointer none)] := by kernel_rfl
theorem sz17 : szB Tryd.prog 17 = some 1 := by kernel_rfl
theorem by17 : byB Tryd.prog 17 = some 8 := by kernel_rfl
theorem ag17 : aggB Tryd.prog 17 = some false := by kernel_rfl
theorem ze17 : zeroB Tryd.prog 17 = some [.x (Value.pointer none)] := by kernel_rfl
theorem sz18 : szB Tryd.prog 18 = some 1 := by kernel_rfl
theorem by18 : byB Tryd.prog 18 = some 8 := by kernel_rfl
theorem ag18 : aggB Tryd.prog 18 = some true := by kernel_rfl
theorem ze18 : zeroB Tryd.prog 18 = some [.x (Value.pointer none)] := by kernel_rfl
theorem sz19 : szB Tryd.prog 19 = some 1 := by kernel_rfl
theorem by19 : byB Tryd.prog 19 = some 8 := by kernel_rfl
theorem ag19 : aggB Tryd.prog 19 = some true := by kernel_rfl
theorem ze19 : zeroB Tryd.prog 19 = some [.x (Value.pointer none)] := by kernel_rfl
theorem sz20 : szB Tryd.prog 20 = some 1 := by kernel_rfl
theorem by20 : byB Tryd.prog 20 = some 16 := by kernel_rfl
theorem ag20 : aggB Tryd.prog 20 = some false := by kernel_rfl
theorem sz21 : szB Tryd.prog 21 = some 1 := by kernel_rfl
theorem by21 : byB Tryd.prog 21 = some 4 := by kernel_rfl
theorem ag21 : aggB Tryd.prog 21 = some false := by kernel_rfl
theorem ze21 : zeroB Tryd.prog 21 = some [.x (Value.int IntKind.i32 0)] := by kernel_rfl
theorem sz22 : szB Tryd.prog 22 = some 1 := by kernel_rfl
theorem by22 : byB Tryd.prog 22 = some 8 := by kernel_rfl
theorem ag22 : aggB Tryd.prog 22 = some false := by kernel_rfl
theorem sz23 : szB Tryd.prog 23 = some 1 := by kernel_rfl
theorem by23 : byB Tryd.prog 23 = some 24 := by kernel_rfl
theorem ag23 : aggB Tryd.prog 23 = some false := by kernel_rfl
theorem ze23 : zeroB Tryd.prog 23 = some [.sl true 0 [] none] := by kernel_rfl
theorem sz24 : szB Tryd.prog 24 = some 1 := by kernel_rfl
theorem by24 : byB Tryd.prog 24 = some 8 := by kernel_rfl
theorem ag24 : aggB Tryd.prog 24 = some false := by kernel_rfl
theorem ze24 : zeroB Tryd.prog 24 = some [.x (Value.int IntKind.i64 0)] := by kernel_rfl
theorem sz25 : szB Tryd.prog 25 = some 1 := by kernel_rfl
theorem by25 : byB Tryd.prog 25 = some 0 := by kernel_rfl
theorem ag25 : aggB Tryd.prog 25 = some false := by kernel_rfl
theorem ze25 : zeroB Tryd.prog 25 = some [.x (Value.tuple #[Value.slice none 0 0, Value.int IntKind.i64 0, Value.int IntKind.i64 0])] := by kernel_rfl
theorem sz26 : szB Tryd.prog 26 = some 1 := by kernel_rfl
theorem by26 : byB Tryd.prog 26 = some 8 := by kernel_rfl
theorem ag26 : aggB Tryd.prog 26 = some false := by kernel_rfl
theorem sz27 : szB Tryd.prog 27 = some 1 := by kernel_rfl
theorem by27 : byB Tryd.prog 27 = some 0 := by kernel_rfl
theorem ag27 : aggB Tryd.prog 27 = some false := by kernel_rfl
theorem ze27 : zeroB Tryd.prog 27 = some [.x (Value.tuple #[Value.slice none 0 0, Value.int IntKind.i64 0, Value.int IntKind.i64 0])] := by kernel_rfl
theorem sz28 : szB Tryd.prog 28 = some 1 := by kernel_rfl
theorem by28 : byB Tryd.prog 28 = some 8 := by kernel_rfl
theorem ag28 : aggB Tryd.prog 28 = some false := by kernel_rfl
theorem sz29 : szB Tryd.prog 29 = some 1 := by kernel_rfl
theorem by29 : byB Tryd.prog 29 = some 8 := by kernel_rfl
theorem ag29 : aggB Tryd.prog 29 = some false := by kernel_rfl
theorem sz30 : szB Tryd.prog 30 = some 1 := by kernel_rfl
theorem by30 : byB Tryd.prog 30 = some 8 := by kernel_rfl
theorem ag30 : aggB Tryd.prog 30 = some false := by kernel_rfl
theorem sz31 : szB Tryd.prog 31 = some 1 := by kernel_rfl
theorem by31 : byB Tryd.prog 31 = some 8 := by kernel_rfl
theorem ag31 : aggB Tryd.prog 31 = some false := by kernel_rfl
theorem sz32 : szB Tryd.prog 32 = some 1 := by kernel_rfl
theorem by32 : byB Tryd.prog 32 = some 24 := by kernel_rfl
theorem ag32 : aggB Tryd.prog 32 = some false := by kernel_rfl
theorem ze32 : zeroB Tryd.prog 32 = some [.sl true 0 [] none] := by kernel_rfl
theorem sz33 : szB Tryd.prog 33 = some 1 := by kernel_rfl
theorem by33 : byB Tryd.prog 33 = some 24 := by kernel_rfl
theorem ag33 : aggB Tryd.prog 33 = some false := by kernel_rfl
theorem ze33 : zeroB Tryd.prog 33 = some [.sl true 0 [] none] := by kernel_rfl
theorem sz34 : szB Tryd.prog 34 = some 3 := by kernel_rfl
theorem by34 : byB Tryd.prog 34 = some 32 := by kernel_rfl
theorem ag34 : aggB Tryd.prog 34 = some true := by kernel_rfl
theorem ze34 : zeroB Tryd.prog 34 = some [.x (Value.int IntKind.i64 0), .x (Value.int IntKind.i64 0), .x (Value.string ⟨#[]⟩)] := by kernel_rfl
theorem sz35 : szB Tryd.prog 35 = some 3 := by kernel_rfl
theorem by35 : byB Tryd.prog 35 = some 32 := by kernel_rfl
theorem ag35 : aggB Tryd.prog 35 = some true := by kernel_rfl
theorem ze35 : zeroB Tryd.prog 35 = some [.x (Value.int IntKind.i64 0), .x (Value.int IntKind.i64 0), .x (Value.string ⟨#[]⟩)] := by kernel_rfl
theorem sz36 : szB Tryd.prog 36 = some 1 := by kernel_rfl
theorem by36 : byB Tryd.prog 36 = some 8 := by kernel_rfl
theorem ag36 : aggB Tryd.prog 36 = some false := by kernel_rfl
theorem sz37 : szB Tryd.prog 37 = some 1 := by kernel_rfl
theorem by37 : byB Tryd.prog 37 = some 0 := by kernel_rfl
theorem ag37 : aggB Tryd.prog 37 = some false := by kernel_rfl
theorem ze37 : zeroB Tryd.prog 37 = some [.x (Value.tuple #[Value.int IntKind.i64 0, Value.int IntKind.i64 0])] := by kernel_rfl
theorem sz38 : szB Tryd.prog 38 = some 1 := by kernel_rfl
theorem by38 : byB Tryd.prog 38 = some 8 := by kernel_rfl
theorem ag38 : aggB Tryd.prog 38 = some false := by kernel_rfl
theorem sz39 : szB Tryd.prog 39 = some 1 := by kernel_rfl
theorem by39 : byB Tryd.prog 39 = some 8 := by kernel_rfl
theorem ag39 : aggB Tryd.prog 39 = some false := by kernel_rfl
theorem sz40 : szB Tryd.prog 40 = some 1 := by kernel_rfl
theorem by40 : byB Tryd.prog 40 = some 8 := by kernel_rfl
theorem ag40 : aggB Tryd.prog 40 = some false := by kernel_rfl
theorem sz41 : szB Tryd.prog 41 = some 1 := by kernel_rfl
theorem by41 : byB Tryd.prog 41 = some 0 := by kernel_rfl
theorem ag41 : aggB Tryd.prog 41 = some false := by kernel_rfl
theorem ze41 : zeroB Tryd.prog 41 = some [.x (Value.tuple #[Value.string ⟨#[]⟩, Value.int IntKind.i64 0, Value.bool false])] := by kernel_rfl
theorem sz42 : szB Tryd.prog 42 = some 1 := by kernel_rfl
theorem by42 : byB Tryd.prog 42 = some 8 := by kernel_rfl
theorem ag42 : aggB Tryd.prog 42 = some false := by kernel_rfl
theorem sz43 : szB Tryd.prog 43 = some 1 := by kernel_rfl
theorem by43 : byB Tryd.prog 43 = some 8 := by kernel_rfl
theorem ag43 : aggB Tryd.prog 43 = some false := by kernel_rfl
theorem sz44 : szB Tryd.prog 44 = some 1 := by kernel_rfl
theorem by44 : byB Tryd.prog 44 = some 8 := by kernel_rfl
theorem ag44 : aggB Tryd.prog 44 = some false := by kernel_rfl
theorem sz45 : szB Tryd.prog 45 = some 1 := by kernel_rfl
theorem by45 : byB Tryd.prog 45 = some 8 := by kernel_rfl
theorem ag45 : aggB Tryd.prog 45 = some false := by kernel_rfl
theorem sz46 : szB Tryd.prog 46 = some 1 := by kernel_rfl
theorem by46 : byB Tryd.prog 46 = some 8 := by kernel_rfl
theorem ag46 : aggB Tryd.prog 46 = some false := by kernel_rfl
theorem sz47 : szB Tryd.prog 47 = some 1 := by kernel_rfl
theorem by47 : byB Tryd.prog 47 = some 8 := by kernel_rfl
theorem ag47 : aggB Tryd.prog 47 = some false := by kernel_rfl
theorem sz48 : szB Tryd.prog 48 = some 1 := by kernel_rfl
theorem by48 : byB Tryd.prog 48 = some 8 := by kernel_rfl
theorem ag48 : aggB Tryd.prog 48 = some false := by kernel_rfl
theorem sz49 : szB Tryd.prog 49 = some 1 := by kernel_rfl
theorem by49 : byB Tryd.prog 49 = some 8 := by kernel_rfl
theorem ag49 : aggB Tryd.prog 49 = some false := by kernel_rfl
theorem sz50 : szB Tryd.prog 50 = some 1 := by kernel_rfl
theorem by50 : byB Tryd.prog 50 = some 8 := by kernel_rfl
theorem ag50 : aggB Tryd.prog 50 = some false := by kernel_rfl
theorem ze50 : zeroB Tryd.prog 50 = some [.x (Value.pointer none)] := by kernel_rfl
theorem sz51 : szB Tryd.prog 51 = some 1 := by kernel_rfl
theorem by51 : byB Tryd.prog 51 = some 24 := by kernel_rfl
theorem ag51 : aggB Tryd.prog 51 = some false := by kernel_rfl
theorem ze51 : zeroB Tryd.prog 51 = some [.sl true 0 [] none] := by kernel_rfl
theorem sz52 : szB Tryd.prog 52 = some 2 := by kernel_rfl
theorem by52 : byB Tryd.prog 52 = some 32 := by kernel_rfl
theorem ag52 : aggB Tryd.prog 52 = some true := by kernel_rfl
theorem ze52 : zeroB Tryd.prog 52 = some [.x (Value.pointer none), .sl true 0 [] none] := by kernel_rfl
theorem sz53 : szB Tryd.prog 53 = some 2 := by kernel_rfl
theorem by53 : byB Tryd.prog 53 = some 32 := by kernel_rfl
theorem ag53 : aggB Tryd.prog 53 = some true := by kernel_rfl
theorem ze53 : zeroB Tryd.prog 53 = some [.x (Value.pointer none), .sl true 0 [] none] := by kernel_rfl
theorem sz54 : szB Tryd.prog 54 = some 1 := by kernel_rfl
theorem by54 : byB Tryd.prog 54 = some 8 := by kernel_rfl
theorem ag54 : aggB Tryd.prog 54 = some false := by kernel_rfl
theorem sz55 : szB Tryd.prog 55 = some 1 := by kernel_rfl
theorem by55 : byB Tryd.prog 55 = some 16 := by kernel_rfl
theorem ag55 : aggB Tryd.prog 55 = some false := by kernel_rfl
theorem sz56 : szB Tryd.prog 56 = some 1 := by kernel_rfl
theorem by56 : byB Tryd.prog 56 = some 16 := by kernel_rfl
theorem ag56 : aggB Tryd.prog 56 = some false := by kernel_rfl
theorem sz57 : szB Tryd.prog 57 = some 1 := by kernel_rfl
theorem by57 : byB Tryd.prog 57 = some 0 := by kernel_rfl
theorem ag57 : aggB Tryd.prog 57 = some false := by kernel_rfl
theorem ze57 : zeroB Tryd.prog 57 = some [.x (Value.tuple #[Value.int IntKind.i64 0, Value.nilIface])] := by kernel_rfl
theorem sz58 : szB Tryd.prog 58 = some 1 := by kernel_rfl
theorem by58 : byB Tryd.prog 58 = some 8 := by kernel_rfl
theorem ag58 : aggB Tryd.prog 58 = some false := by kernel_rfl
theorem sz59 : szB Tryd.prog 59 = some 1 := by kernel_rfl
theorem by59 : byB Tryd.prog 59 = some 0 := by kernel_rfl
theorem ag59 : aggB Tryd.prog 59 = some false := by kernel_rfl
theorem ze59 : zeroB Tryd.prog 59 = some [.x (Value.tuple #[Value.int IntKind.i32 0, Value.int IntKind.i64 0])] := by kernel_rfl
theorem sz60 : szB Tryd.prog 60 = some 1 := by kernel_rfl
theorem by60 : byB Tryd.prog 60 = some 8 := by kernel_rfl
theorem ag60 : aggB Tryd.prog 60 = some false := by kernel_rfl
theorem sz61 : szB Tryd.prog 61 = some 1 := by kernel_rfl
theorem by61 : byB Tryd.prog 61 = some 8 := by kernel_rfl
theorem ag61 : aggB Tryd.prog 61 = some false := by kernel_rfl
theorem sz62 : szB Tryd.prog 62 = some 1 := by kernel_rfl
theorem by62 : byB Tryd.prog 62 = some 8 := by kernel_rfl
theorem ag62 : aggB Tryd.prog 62 = some false := by kernel_rfl
theorem ze62 : zeroB Tryd.prog 62 = some [.x (Value.pointer none)] := by kernel_rfl
theorem sz63 : szB Tryd.prog 63 = some 1 := by kernel_rfl
theorem by63 : byB Tryd.prog 63 = some 8 := by kernel_rfl
theorem ag63 : aggB Tryd.prog 63 = some false := by kernel_rfl
theorem sz64 : szB Tryd.prog 64 = some 1 := by kernel_rfl
theorem by64 : byB Tryd.prog 64 = some 8 := by kernel_rfl
theorem ag64 : aggB Tryd.prog 64 = some false := by kernel_rfl
theorem ze64 : zeroB Tryd.prog 64 = some [.x (Value.pointer none)] := by kernel_rfl
theorem sz65 : szB Tryd.prog 65 = some 1 := by kernel_rfl
theorem by65 : byB Tryd.prog 65 = some 8 := by kernel_rfl
theorem ag65 : aggB Tryd.prog 65 = some false := by kernel_rfl
theorem sz66 : szB Tryd.prog 66 = some 1 := by kernel_rfl
theorem by66 : byB Tryd.prog 66 = some 8 := by kernel_rfl
theorem ag66 : aggB Tryd.prog 66 = some false := by kernel_rfl
theorem sz67 : szB Tryd.prog 67 = some 1 := by kernel_rfl
theorem by67 : byB Tryd.prog 67 = some 8 := by kernel_rfl
theorem ag67 : aggB Tryd.prog 67 = some false := by kernel_rfl
theorem sz68 : szB Tryd.prog 68 = some 1 := by kernel_rfl
theorem by68 : byB Tryd.prog 68 = some 8 := by kernel_rfl
theorem ag68 : aggB Tryd.prog 68 = some false := by kernel_rfl
theorem ze68 : zeroB Tryd.prog 68 = some [.x (Value.int IntKind.u64 0)] := by kernel_rfl
theorem sz69 : szB Tryd.prog 69 = some 256 := by kernel_rfl
theorem by69 : byB Tryd.prog 69 = some 256 := by kernel_rfl
theorem ag69 : aggB Tryd.prog 69 = some true := by kernel_rfl
theorem sz70 : szB Tryd.prog 70 = some 2 := by kernel_rfl
theorem by70 : byB Tryd.prog 70 = some 2 := by kernel_rfl
theorem ag70 : aggB Tryd.prog 70 = some true := by kernel_rfl
theorem ze70 : zeroB Tryd.prog 70 = some [.x (Value.int IntKind.u8 0), .x (Value.int IntKind.u8 0)] := by kernel_rfl
theorem sz71 : szB Tryd.prog 71 = some 2 := by kernel_rfl
theorem by71 : byB Tryd.prog 71 = some 2 := by kernel_rfl
theorem ag71 : aggB Tryd.prog 71 = some true := by kernel_rfl
theorem ze71 : zeroB Tryd.prog 71 = some [.x (Value.int IntKind.u8 0), .x (Value.int IntKind.u8 0)] := by kernel_rfl
theorem sz72 : szB Tryd.prog 72 = some 32 := by kernel_rfl
theorem by72 : byB Tryd.prog 72 = some 32 := by kernel_rfl
theorem ag72 : aggB Tryd.prog 72 = some true := by kernel_rfl
theorem ze72 : zeroB Tryd.prog 72 = some [.x (Value.int IntKind.u8 0), .x (Value.int IntKind.u8 0), .x (Value.int IntKind.u8 0), .x (Value.int IntKind.u8 0), .x (Value.int IntKind.u8 0), .x (Value.int IntKind.u8 0), .x (Value.int IntKind.u8 0), .x (Value.int IntKind.u8 0), .x (Value.int IntKind.u8 0), .x (Value.int IntKind.u8 0), .x (Value.int IntKind.u8 0), .x (Value.int IntKind.u8 0), .x (Value.int IntKind.u8 0), .x (Value.int IntKind.u8 0), .x (Value.int IntKind.u8 0), .x (Value.int IntKind.u8 0), .x (Value.int IntKind.u8 0), .x (Value.int IntKind.u8 0), .x (Value.int IntKind.u8 0), .x (Value.int IntKind.u8 0), .x (Value.int IntKind.u8 0), .x (Value.int IntKind.u8 0), .x (Value.int IntKind.u8 0), .x (Value.int IntKind.u8 0), .x (Value.int IntKind.u8 0), .x (Value.int IntKind.u8 0), .x (Value.int IntKind.u8 0), .x (Value.int IntKind.u8 0), .x (Value.int IntKind.u8 0), .x (Value.int IntKind.u8 0), .x (Value.int IntKind.u8 0), .x (Value.int IntKind.u8 0)] := by kernel_rfl
theorem sz73 : szB Tryd.prog 73 = some 1 := by kernel_rfl
theorem by73 : byB Tryd.prog 73 = some 4 := by kernel_rfl
theorem ag73 : aggB Tryd.prog 73 = some false := by kernel_rfl
theorem ze73 : zeroB Tryd.prog 73 = some [.x (Value.int IntKind.u32 0)] := by kernel_rfl
theorem sz74 : szB Tryd.prog 74 = some 1 := by kernel_rfl
theorem by74 : byB Tryd.prog 74 = some 0 := by kernel_rfl
theorem ag74 : aggB Tryd.prog 74 = some false := by kernel_rfl
theorem ze74 : zeroB Tryd.prog 74 = some [.x (Value.tuple #[Value.int IntKind.u32 0, Value.int IntKind.u32 0])] := by kernel_rfl
theorem sz75 : szB Tryd.prog 75 = some 1 := by kernel_rfl
theorem by75 : byB Tryd.prog 75 = some 8 := by kernel_rfl
theorem ag75 : aggB Tryd.prog 75 = some false := by kernel_rfl
theorem sz76 : szB Tryd.prog 76 = some 4 := by kernel_rfl
theorem by76 : byB Tryd.prog 76 = some 40 := by kernel_rfl
theorem ag76 : aggB Tryd.prog 76 = some true := by kernel_rfl
theorem ze76 : zeroB Tryd.prog 76 = some [.x (Value.pointer none), .x (Value.pointer none), .x (Value.pointer none), .x (Value.string ⟨#[]⟩)] := by kernel_rfl
theorem sz77 : szB Tryd.prog 77 = some 4 := by kernel_rfl
theorem by77 : byB Tryd.prog 77 = some 40 := by kernel_rfl
theorem ag77 : aggB Tryd.prog 77 = some true := by kernel_rfl
theorem ze77 : zeroB Tryd.prog 77 = some [.x (Value.pointer none), .x (Value.pointer none), .x (Value.pointer none), .x (Value.string ⟨#[]⟩)] := by kernel_rfl
theorem sz78 : szB Tryd.prog 78 = some 0 := by kernel_rfl
theorem by78 : byB Tryd.prog 78 = some 0 := by kernel_rfl
theorem ag78 : aggB Tryd.prog 78 = some true := by kernel_rfl
theorem ze78 : zeroB Tryd.prog 78 = some [] := by kernel_rfl
theorem sz79 : szB Tryd.prog 79 = some 0 := by kernel_rfl
theorem by79 : byB Tryd.prog 79 = some 0 := by kernel_rfl
theorem ag79 : aggB Tryd.prog 79 = some true := by kernel_rfl
theorem ze79 : zeroB Tryd.prog 79 = some [] := by kernel_rfl
theorem sz80 : szB Tryd.prog 80 = some 0 := by kernel_rfl
theorem by80 : byB Tryd.prog 80 = some 0 := by kernel_rfl
theorem ag80 : aggB Tryd.prog 80 = some true := by kernel_rfl
theorem ze80 : zeroB Tryd.prog 80 = some [] := by kernel_rfl
theorem sz81 : szB Tryd.prog 81 = some 1 := by kernel_rfl
theorem by81 : byB Tryd.prog 81 = some 8 := by kernel_rfl
theorem ag81 : aggB Tryd.prog 81 = some false := by kernel_rfl
theorem sz82 : szB Tryd.prog 82 = some 1 := by kernel_rfl
theorem by82 : byB Tryd.prog 82 = some 1 := by kernel_rfl
theorem ag82 : aggB Tryd.prog 82 = some false := by kernel_rfl
theorem ze82 : zeroB Tryd.prog 82 = some [.x (Value.int IntKind.u8 0)] := by kernel_rfl
theorem sz83 : szB Tryd.prog 83 = some 1 := by kernel_rfl
theorem by83 : byB Tryd.prog 83 = some 1 := by kernel_rfl
theorem ag83 : aggB Tryd.prog 83 = some false := by kernel_rfl
theorem ze83 : zeroB Tryd.prog 83 = some [.x (Value.int IntKind.u8 0)] := by kernel_rfl
theorem sz84 : szB Tryd.prog 84 = some 1 := by kernel_rfl
theorem by84 : byB Tryd.prog 84 = some 8 := by kernel_rfl
theorem ag84 : aggB Tryd.prog 84 = some false := by kernel_rfl
theorem sz85 : szB Tryd.prog 85 = some 1 := by kernel_rfl
theorem by85 : byB Tryd.prog 85 = some 4 := by kernel_rfl
theorem ag85 : aggB Tryd.prog 85 = some false := by kernel_rfl
theorem ze85 : zeroB Tryd.prog 85 = some [.x (Value.int IntKind.i32 0)] := by kernel_rfl
theorem sz86 : szB Tryd.prog 86 = some 1 := by kernel_rfl
theorem by86 : byB Tryd.prog 86 = some 4 := by kernel_rfl
theorem ag86 : aggB Tryd.prog 86 = some false := by kernel_rfl
theorem ze86 : zeroB Tryd.prog 86 = some [.x (Value.int IntKind.i32 0)] := by kernel_rfl
theorem sz87 : szB Tryd.prog 87 = some 11 := by kernel_rfl
theorem by87 : byB Tryd.prog 87 = some 48 := by kernel_rfl
theorem ag87 : aggB Tryd.prog 87 = some true := by kernel_rfl
theorem ze87 : zeroB Tryd.prog 87 = some [.x (Value.int IntKind.u64 0), .x (Value.int IntKind.u64 0), .x (Value.int IntKind.u32 0), .x (Value.int IntKind.u8 0), .x (Value.int IntKind.u8 0), .x (Value.int IntKind.u8 0), .x (Value.int IntKind.u8 0), .x (Value.nilFunc), .x (Value.pointer none), .x (Value.int IntKind.i32 0), .x (Value.int IntKind.i32 0)] := by kernel_rfl
theorem sz88 : szB Tryd.prog 88 = some 11 := by kernel_rfl
theorem by88 : byB Tryd.prog 88 = some 48 := by kernel_rfl
theorem ag88 : aggB Tryd.prog 88 = some true := by kernel_rfl
theorem ze88 : zeroB Tryd.prog 88 = some [.x (Value.int IntKind.u64 0), .x (Value.int IntKind.u64 0), .x (Value.int IntKind.u32 0), .x (Value.int IntKind.u8 0), .x (Value.int IntKind.u8 0), .x (Value.int IntKind.u8 0), .x (Value.int IntKind.u8 0), .x (Value.nilFunc), .x (Value.pointer none), .x (Value.int IntKind.i32 0), .x (Value.int IntKind.i32 0)] := by kernel_rfl
attribute [go_sem] sz0 by0 sz1 by1 sz2 by2 sz3 by3 sz4 by4 sz5 by5 sz6 by6 sz7 by7 sz8 by8 sz9 by9 sz10 by10 sz11 by11 sz12 by12 sz13 by13 sz14 by14 sz15 by15 sz16 by16 sz17 by17 sz18 by18 sz19 by19 sz20 by20 sz21 by21 sz22 by22 sz23 by23 sz24 by24 sz25 by25 sz26 by26 sz27 by27 sz28 by28 sz29 by29 sz30 by30 sz31 by31 sz32 by32 sz33 by33 sz34 by34 sz35 by35 sz36 by36 sz37 by37 sz38 by38 sz39 by39 sz40 by40 sz41 by41 sz42 by42 sz43 by43 sz44 by44 sz45 by45 sz46 by46 sz47 by47 sz48 by48 sz49 by49 sz50 by50 sz51 by51 sz52 by52 sz53 by53 sz54 by54 sz55 by55 sz56 by56 sz57 by57 sz58 by58 sz59 by59 sz60 by60 sz61 by61 sz62 by62 sz63 by63 sz64 by64 sz65 by65 sz66 by66 sz67 by67 sz68 by68 sz69 by69 sz70 by70 sz71 by71 sz72 by72 sz73 by73 sz74 by74 sz75 by75 sz76 by76 sz77 by77 sz78 by78 sz79 by79 sz80 by80 sz81 by81 sz82 by82 sz83 by83 sz84 by84 sz85 by85 sz86 by86 sz87 by87 sz88 by88 ag0 ag1 ag2 ag3 ag4 ag5 ag6 ag7 ag8 ag9 ag10 ag11 ag12 ag13 ag14 ag15 ag16 ag17 ag18 ag19 ag20 ag21 ag22 ag23 ag24 ag25 ag26 ag27 ag28 ag29 ag30 ag31 ag32 ag33 ag34 ag35 ag36 ag37 ag38 ag39 ag40 ag41 ag42 ag43 ag44 ag45 ag46 ag47 ag48 ag49 ag50 ag51 ag52 ag53 ag54 ag55 ag56 ag57 ag58 ag59 ag60 ag61 ag62 ag63 ag64 ag65 ag66 ag67 ag68 ag69 ag70 ag71 ag72 ag73 ag74 ag75 ag76 ag77 ag78 ag79 ag80 ag81 ag82 ag83 ag84 ag85 ag86 ag87 ag88 ze0 ze2 ze3 ze4 ze5 ze6 ze7 ze8 ze9 ze10 ze11 ze12 ze13 ze14 ze15 ze16 ze17 ze18 ze19 ze21 ze23 ze24 ze25 ze27 ze32 ze33 ze34 ze35 ze37 ze41 ze50 ze51 ze52 ze53 ze57 ze59 ze62 ze64 ze68 ze70 ze71 ze72 ze73 ze74 ze76 ze77 ze78 ze79 ze80 ze82 ze83 ze85 ze86 ze87 ze88 Tryd.underlying0 Tryd.underlying1 Tryd.underlying2 Tryd.underlying3 Tryd.underlying4 Tryd.underlying5 Tryd.underlying6 Tryd.underlying7 Tryd.eqGuardType7 Tryd.stoodInHeld7 Tryd.underlying8 Tryd.eqGuardType8 Tryd.stoodInHeld8 Tryd.underlying9 Tryd.underlying10 Tryd.underlying11 Tryd.underlying12 Tryd.underlying13 Tryd.eqGuardType13 Tryd.stoodInHeld13 Tryd.underlying14 Tryd.eqGuardType14 Tryd.stoodInHeld14 Tryd.underlying15 Tryd.underlying16 Tryd.underlying17 Tryd.underlying18 Tryd.eqGuardType18 Tryd.stoodInHeld18 Tryd.underlying19 Tryd.eqGuardType19 Tryd.stoodInHeld19 Tryd.underlying20 Tryd.underlying21 Tryd.underlying22 Tryd.underlying23 Tryd.underlying24 Tryd.underlying25 Tryd.underlying26 Tryd.underlying27 Tryd.underlying28 Tryd.underlying29 Tryd.underlying30 Tryd.underlying31 Tryd.underlying32 Tryd.underlying33 Tryd.underlying34 Tryd.eqGuardType34 Tryd.stoodInHeld34 Tryd.underlying35 Tryd.eqGuardType35 Tryd.stoodInHeld35 Tryd.underlying36 Tryd.underlying37 Tryd.underlying38 Tryd.underlying39 Tryd.underlying40 Tryd.underlying41 Tryd.underlying42 Tryd.underlying43 Tryd.underlying44 Tryd.underlying45 Tryd.underlying46 Tryd.underlying47 Tryd.underlying48 Tryd.underlying49 Tryd.underlying50 Tryd.underlying51 Tryd.underlying52 Tryd.eqGuardType52 Tryd.stoodInHeld52 Tryd.underlying53 Tryd.eqGuardType53 Tryd.stoodInHeld53 Tryd.underlying54 Tryd.underlying55 Tryd.underlying56 Tryd.underlying57 Tryd.underlying58 Tryd.underlying59 Tryd.underlying60 Tryd.underlying61 Tryd.underlying62 Tryd.underlying63 Tryd.underlying64 Tryd.underlying65 Tryd.underlying66 Tryd.underlying67 Tryd.underlying68 Tryd.underlying69 Tryd.eqGuardType69 Tryd.underlying70 Tryd.eqGuardType70 Tryd.stoodInHeld70 Tryd.underlying71 Tryd.eqGuardType71 Tryd.stoodInHeld71 Tryd.underlying72 Tryd.eqGuardType72 Tryd.underlying73 Tryd.underlying74 Tryd.underlying75 Tryd.underlying76 Tryd.eqGuardType76 Tryd.stoodInHeld76 Tryd.underlying77 Tryd.eqGuardType77 Tryd.stoodInHeld77 Tryd.underlying78 Tryd.eqGuardType78 Tryd.underlying79 Tryd.eqGuardType79 Tryd.stoodInHeld79 Tryd.underlying80 Tryd.eqGuardType80 Tryd.stoodInHeld80 Tryd.underlying81 Tryd.underlying82 Tryd.underlying83 Tryd.underlying84 Tryd.underlying85 Tryd.underlying86 Tryd.underlying87 Tryd.eqGuardType87 Tryd.stoodInHeld87 Tryd.underlying88 Tryd.eqGuardType88 Tryd.stoodInHeld88
end Go.Proofs.YtkomcgljekfheaaDoor

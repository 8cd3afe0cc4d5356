/- PfTy -/
import Derived.Test.YtiepfeebmnfbdaaGreatMPB
import Derived.Test.YtiepfeebmnfbdaaGreatProg
import Derived.KernelRfl
namespace Go.Proofs.YtiepfeebmnfbdaaGreat
open Tryz
set_option linter.unusedSimpArgs false
open Go Go.RowKit
theorem iI:bo prog 0=some 1:=A0a
theorem Ud:bo prog 1=some 1:=A0a
theorem sz2:bo prog 2=some 1:=A0a
theorem Rj:bo prog 3=some 1:=A0a
theorem TK:bY prog 3=some 8:=A0a
theorem TL:aB prog 3=some [.x (Value.int IntKind.i64 0)]:=A0a
theorem Zj:aO prog 3=some (.x (Value.int IntKind.i64 0)):=A0a
theorem Ue:bo prog 29=some 1:=A0a
theorem Uf:bY prog 29=some 24:=A0a
theorem Ug:aB prog 29=some [.sl true 0 [] none]:=A0a
theorem Uh:bo prog 31=some 2:=A0a
theorem Ui:bY prog 31=some 32:=A0a
theorem Uj:aB prog 31=some [.sl true 0 [] none,.x (Value.bool false)]:=A0a
theorem mH:bo prog 33=some 3:=A0a
theorem mI:bY prog 33=some 32:=A0a
theorem mJ:aB prog 33=some [.x (Value.string ⟨#[]⟩),.x (Value.int IntKind.i64 0),.x (Value.int IntKind.i64 0)]:=A0a
theorem Rk:bo prog 39=some 1:=A0a
theorem Rl:bY prog 39=some 24:=A0a
theorem Rm:aB prog 39=some [.sl true 0 [] none]:=A0a
theorem Fl:bo prog 43=some 20:=A0a
theorem Nk:bY prog 43=some 232:=A0a
theorem Nl:aB prog 43=some [.x (Value.string ⟨#[]⟩),.x (Value.int IntKind.i64 0),.x (Value.int IntKind.i64 0),.x (Value.bool false),.x (Value.int IntKind.i64 0),.x (Value.string ⟨#[]⟩),.x (Value.string ⟨#[]⟩),.x (Value.int IntKind.i64 0),.x (Value.int IntKind.i64 0),.x (Value.string ⟨#[]⟩),.x (Value.string ⟨#[]⟩),.x (Value.int IntKind.i64 0),.x (Value.int IntKind.i64 0),.x (Value.string ⟨#[]⟩),.x (Value.int IntKind.i64 0),.x (Value.int IntKind.i64 0),.sl true 0 [] none,.x (Value.int IntKind.i64 0),.x (Value.int IntKind.i64 0),.x (Value.string ⟨#[]⟩)]:=A0a
theorem QB:aO prog 113=some (.agg []):=A0a
theorem zzz:aR prog 3=some false∧bo prog 4=some 1∧aR prog 4=some false∧bo prog 9=some 1∧aR prog 9=some false∧bo prog 22=some 1∧aR prog 22=some false∧aR prog 29=some false∧aR prog 31=some true∧aR prog 33=some true∧bo prog 38=some 3∧aR prog 39=some false∧bo prog 41=some 13∧aR prog 41=some true∧aB prog 41=some [.x (.int .i64 0),.x (.string ⟨#[]⟩),.x (.string ⟨#[]⟩),.x (.int .i64 0),.x (.int .i64 0),.x (.string ⟨#[]⟩),.x (.string ⟨#[]⟩),.x (.int .i64 0),.x (.int .i64 0),.x (.string ⟨#[]⟩),.x (.int .i64 0),.x (.int .i64 0),.sl true 0 [] none]∧aR prog 43=some true∧bo prog 46=some 1∧aR prog 46=some false∧aB prog 48=some [.sl true 0 [] none,.sl true 0 [] none]∧bo prog 50=some 1∧aR prog 50=some false∧bo prog 52=some 3∧aR prog 52=some true∧aB prog 52=some [.sl true 0 [] none,.sl true 0 [] none,.sl true 0 [] none]∧bo prog 54=some 1∧aR prog 54=some false∧aB prog 54=some [.sl true 0 [] none]∧bo prog 59=some 1∧aR prog 59=some false∧aB prog 61=some [.sl true 0 [] none]∧bo prog 72=some 6∧aR prog 72=some true∧aB prog 72=some [.x (.string ⟨#[]⟩),.x (.int .i64 0),.x (.int .i64 0),.x (.string ⟨#[]⟩),.x (.int .i64 0),.x (.int .i64 0)]∧bo prog 75=some 1∧aR prog 75=some false∧aB prog 90=some [.sl true 0 [] none,.x (.map none),.sl true 0 [] none,.sl true 0 [] none]∧bo prog 95=some 1∧aR prog 95=some false∧bo prog 101=some 1∧aR prog 101=some false∧bo prog 108=some 1∧aR prog 108=some false∧aB prog 108=some [.x (.map none)]∧bo prog 109=some 1∧aR prog 109=some false∧aB prog 109=some [.x (.map none)]∧bo prog 113=some 0∧aB prog 113=some []∧bo prog 129=some 2∧aR prog 129=some true:=by and_intros<;>kernel_rfl
attribute [go_sem] zzz Rj TK Ue Uh mH mI Rk Fl TL Zj Ug Uj mJ Rm Nl underlying3 underlying4 underlying9 underlying22 underlying27 underlying29 underlying31 underlying33 eqGuardType33 stoodInHeld33 underlying38 underlying39 underlying41 underlying43 underlying46 underlying48 underlying50 underlying52 underlying54 underlying59 underlying61 underlying72 stoodInHeld72 underlying73 underlying75 underlying90 underlying108 underlying109 underlying113 underlying129 underlying134

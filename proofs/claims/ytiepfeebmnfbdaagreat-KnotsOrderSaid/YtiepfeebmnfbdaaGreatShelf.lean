/- Shelf -/
import Derived.Shelf.Small.Bits
import Derived.Shelf.Small.Wraps
import Derived.Shelf.Strconv.Itoa0
import Derived.Shelf.LaysM
import Derived.Shelf.Strconv.Clone
import Derived.Ground.GgsProg
import Derived.Shelf.GgSortFunc.Insertion
import Derived.Shelf.GgSortFunc.Small
import Derived.Shelf.GgSortFunc.InsertionK
import Derived.Shelf.GgSortFunc.SmallK
import Derived.Shelf.GgSortFunc.Tiny
import Derived.Shelf.Slices.Turned
import Derived.Ground.Names2Prog
import Derived.Shelf.Slices.SearchI
import Derived.Shelf.SlSortFunc.Xorshift
import Derived.Shelf.SlSortFuncK.ComposeK
import Derived.Test.YtiepfeebmnfbdaaGreatProg
namespace Go.Proofs
open Go.Shelf
def Tryz.laysM316_ren:Go.Shelf.Ren:=⟨fun|316=>72|n=>n,fun|9=>9|3=>3|4=>4|37=>153|0=>0|127=>154|5=>5|n=>n,fun|n=>n⟩
theorem Tryz.laysM316:Go.Proofs.LaysM.n316 Tryz.prog Tryz.laysM316_ren:=by constructor<;>first|kernel_rfl|(intros;kernel_rfl)|(constructor<;>first|kernel_rfl|(intros;kernel_rfl))
open Go.RowKit in
theorem Tryz.stringslite_Clone(s:ByteArray)(w:World)(hlim:s.size<=281474976710656):
 Calls Tryz.prog 72 #[.string s] w fun e w'=>e= .returned (.string s)∧Below w.heap.size w w':=Any.stringslite_Clone Tryz.laysM316 s w hlim
def Tryz.laysGg14_ren:Go.Shelf.Ren:=⟨fun|14=>68|26=>89|27=>90|28=>91|29=>92|30=>93|31=>94|32=>95|33=>96|34=>100|35=>101|36=>102|37=>103|38=>104|13=>67|39=>106|24=>87|25=>88|n=>n,fun|44=>129|3=>3|0=>0|4=>4|54=>147|53=>146|26=>95|58=>85|37=>101|60=>155|41=>126|51=>144|64=>159|66=>161|67=>162|49=>142|5=>5|9=>9|n=>n,fun|n=>n⟩
theorem Tryz.laysGg14:Go.Proofs.LaysGg.n14 Tryz.prog Tryz.laysGg14_ren:=by constructor<;>first|kernel_rfl|(intros;kernel_rfl)
def Tryz.laysGg6_ren:Go.Shelf.Ren:=⟨fun|6=>55|10=>64|11=>65|12=>66|13=>67|14=>68|24=>87|25=>88|26=>89|27=>90|28=>91|29=>92|30=>93|31=>94|32=>95|33=>96|34=>100|35=>101|36=>102|37=>103|38=>104|39=>106|n=>n,fun|20=>20|26=>95|35=>122|0=>0|37=>101|3=>3|41=>126|44=>129|49=>142|51=>144|4=>4|54=>147|53=>146|58=>85|5=>5|9=>9|60=>155|64=>159|66=>161|67=>162|17=>17|32=>119|33=>120|82=>176|12=>12|75=>170|76=>171|77=>172|78=>154|79=>173|80=>174|n=>n,fun|n=>n⟩
theorem Tryz.laysGg6:Go.Proofs.LaysGg.n6 Tryz.prog Tryz.laysGg6_ren:=by constructor<;>first|kernel_rfl|(intros;kernel_rfl)

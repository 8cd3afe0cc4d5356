/- Which values may be: package value and the reference, as functions of plain data. -/
import Derived.Test.YtldnpcolhdnkdaaMPO
import Derived.Shelf.Strconv.AtoiAll
import Derived.KernelRfl
import Derived.Lib.Bytealg
namespace Go.Proofs.Ytldnpcolhdnkdaa
set_option linter.unusedSimpArgs false
open Go Go.RowKit
def Ow (b:Int):Bool:=Bd b||HE b
def Kk (s:ByteArray):Bool:=decide (1<=s.size)&&decide (s.size<=8)&&Bd (py s 0)&&(List.range s.size).all fun j=>j==0||Ow (py s j)
def Bo (s:ByteArray) (c r:Int):Bool:=Kk s&&decide (1<=c)&&decide (c<=702)&&decide (1<=r)&&decide (r<=999)
abbrev cl (s:ByteArray) (c r:Int):V:= .agg [.x (.string s),.x (.int .i64 c),.x (.int .i64 r)]
attribute [go_sem] cl
def PA (s:ByteArray) (c r:Int) (s':ByteArray) (c' r':Int):Bool:=Bo s c r&&Bo s' c' r'&&decide (s=s')&&decide (c<=c')&&decide (r<=r')
def Kl (c r c' r':Int):Int:=(c'-c+1)*(r'-r+1)
def dg (b:UInt8):Bool:=decide (48<=b.toNat)&&decide (b.toNat<=57)
end Go.Proofs.Ytldnpcolhdnkdaa

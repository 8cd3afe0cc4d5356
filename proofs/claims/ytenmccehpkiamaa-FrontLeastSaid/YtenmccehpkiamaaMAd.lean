/- Which values may be: package value and the reference, as functions of plain data. -/
import Derived.Test.YtenmccehpkiamaaMPO
import Derived.Shelf.Strconv.AtoiAll
import Derived.KernelRfl
import Derived.Lib.Bytealg
namespace Go.Proofs.Ytenmccehpkiamaa
set_option linter.unusedSimpArgs false
open Go Go.RowKit
def KG (b:Int):Bool:=yn b||D8 b
def F4 (s:ByteArray):Bool:=decide (1<=s.size)&&decide (s.size<=8)&&yn (nq s 0)&&(List.range s.size).all fun j=>j==0||KG (nq s j)
def yB (s:ByteArray) (c r:Int):Bool:=F4 s&&decide (1<=c)&&decide (c<=702)&&decide (1<=r)&&decide (r<=999)
abbrev cl (s:ByteArray) (c r:Int):V:= .agg [.x (.string s),.x (.int .i64 c),.x (.int .i64 r)]
attribute [go_sem] cl
def LL (s:ByteArray) (c r:Int) (s':ByteArray) (c' r':Int):Bool:=yB s c r&&yB s' c' r'&&decide (s=s')&&decide (c<=c')&&decide (r<=r')
def F5 (c r c' r':Int):Int:=(c'-c+1)*(r'-r+1)
def gr (b:UInt8):Bool:=decide (65<=b.toNat)&&decide (b.toNat<=90)
def dg (b:UInt8):Bool:=decide (48<=b.toNat)&&decide (b.toNat<=57)
end Go.Proofs.Ytenmccehpkiamaa

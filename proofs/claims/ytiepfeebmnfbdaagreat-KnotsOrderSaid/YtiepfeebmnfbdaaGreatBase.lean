/- Base -/
import Derived.WalkKit
import Derived.WalkSpells
import Derived.WalkLawsBesides
import Derived.Lib.Hide
import Derived.Deep.Draws
namespace Go.Proofs.YtiepfeebmnfbdaaGreat
open Go.RowKit
theorem olds{W w1:World}(hb:Below W.heap.size W w1):
 (∀b o,b<W.heap.size->w1.cell? ⟨b,o,none⟩=W.cell? ⟨b,o,none⟩)∧(∀b o,b<W.heap.size->w1.frozen? ⟨b,o,none⟩=W.frozen? ⟨b,o,none⟩):=
 ⟨fun b o h=>hb.cell (p:=⟨b,o,none⟩) h,fun b o h=>hb.frozen (p:=⟨b,o,none⟩) h⟩
theorem kc{w w1:World}(hb:Below w.heap.size w w1){p:Addr}{v:Value}(h:w.cell? p=some v):w1.cell? p=some v:=(hb.cell (World.block_lt_of_cell? w p h)).trans h

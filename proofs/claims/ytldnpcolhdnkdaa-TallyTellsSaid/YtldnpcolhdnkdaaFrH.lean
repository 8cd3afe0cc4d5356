/- Chapter 16's law FrontPlays. -/
import Derived.Test.YtldnpcolhdnkdaaMFz
namespace Go.Proofs.Ytldnpcolhdnkdaa
set_option linter.unusedSimpArgs false
set_option maxRecDepth 100000
open Go Go.RowKit
abbrev AR:=(Bool×Nat×List Ch)×aK
def OC (q:AR):Prop:=q.1.2.2≠[]->q.1.2.1=4
noncomputable instance (q:AR):Decidable (OC q):=Classical.propDecidable _
end Go.Proofs.Ytldnpcolhdnkdaa

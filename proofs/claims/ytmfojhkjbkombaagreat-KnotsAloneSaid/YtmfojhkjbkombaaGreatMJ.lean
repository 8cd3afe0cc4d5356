/- The iterators of maps.Keys: over cells, over texts. -/
import Derived.Test.YtmfojhkjbkombaaGreatML
import Derived.Test.YtmfojhkjbkombaaGreatMI
import Derived.Test.YtmfojhkjbkombaaGreatMG
import Derived.Test.YtmfojhkjbkombaaGreatMAd
namespace Go.Proofs.YtmfojhkjbkombaaGreat
set_option linter.unusedSimpArgs false
open Go Go.RowKit
open Go.ChangeMaps (setBlock)
section
variable {α:Type} [DecidableEq α] {P:Program} {enc:α->V} {kt:TypeId}
def inS (L:List α) (c:α):Bool:=decide (c∈L)
omit [DecidableEq α] in
end
open Go Go.RowKit Go.Sort
theorem CZ {E:Env} {ops:List Oper} {Q:Exit->Act->World->Prop} {a:Act} {w:World} {i:Nat} {rest:List Nat} {o:Oper} {d:Tmp} {f:FuncId} {args:Array Operand} {ts:Array TypeId} {R:Ending->World->Prop} (hi:ops[i]?=some o) (hop:o.op= .call {callee:= .value (.func f),args:=args,argTypes:=ts}) (hd:o.dst=some d) (hg:o.guard=none)
 (hcall:∀args w,(callFunc f args).run E.P w= .ok (.enter f args) w) (hc:Calls E.P f (args.map a.eval) w R)
 (hR:∀e w',R e w'->∃v,e= .returned v∧wpOpsIn (bo none) 0 E.P ⟨ops⟩ Q rest (a.put (some d) v) w'):wpOpsIn (bo none) 0 E.P ⟨ops⟩ Q (i::rest) a w:=by
 rw[wpOpsIn_cons];unfold wpOpIn;have hi':(⟨ops⟩:Array Oper)[i]?=some o:=A0k
 rw[hi'];simp only;rw[YG A0t];refine⟨fun _ _=>trivial,?_⟩;rw[Oper.semAt_eq _ _ _ A0W];have hrun:(execOp a.eval o).run E.P w= .ok (.enter f (args.map a.eval)) w:=by simp only[execOp,hop,resolve,Sem.run_bind,Act.eval,Deferred.ofValue,Sem.run_pure,Result.andThen_ok,invoke];simpa using hcall _ _
 rw[hrun];refine⟨(fun e=>by cases e),cB.2 (hc.mono ?_)⟩;intro e w' hr;obtain⟨v,rfl,hK⟩:=hR e w' hr;show wpOpsIn (bo none) 0 E.P ⟨ops⟩ Q rest (a.put o.dst v) w';rw[hd];exact hK
end Go.Proofs.YtmfojhkjbkombaaGreat

/- Stamps' cells; acts among the arguments. -/
import Derived.Test.YtldnpcolhdnkdaaFrameG
import Derived.Test.YtldnpcolhdnkdaaFrH
namespace Go.Proofs.Ytldnpcolhdnkdaa
set_option linter.unusedSimpArgs false
set_option maxRecDepth 100000
open Go.ChangeShapes Go.WideShapes Go.ChangeAt Go.WideMaps Go.WideElems Go.RowKit Go.Joins
section
variable {H:Type} {enc:TypeId×Value->H} {W:World} {base:Nat} {held:Bool}
variable {l:List Value}
theorem It (h:l.length=4):∃a b c d,l=[a,b,c,d]:=by
 match l,h with
 |[a,b,c,d],_=>exact⟨a,b,c,d,rfl⟩
theorem Iu (h:l.length=3):∃a b c,l=[a,b,c]:=by
 match l,h with
 |[a,b,c],_=>exact⟨a,b,c,rfl⟩
theorem mQ {fuel:Nat} {cs:List Value} {x:DataW H×List MemPlace} (h:DataW.trod enc Try.prog W base (fun _=>true) held fuel 32 cs=some x):∃j k m:Int,cs=[.int .i64 j,.int .i64 k,.int .i64 m]:=by
 obtain⟨xs,n,_,_,hlen,hxl,hf⟩:=DataW.trod_struct Try.underlying32 h;have hc:Try.prog.cellsOf 32=3:=by kernel_rfl
 have ct:Try.prog.cellsOf 3=1:=by kernel_rfl
 rw[hc] at hlen;obtain⟨a,b,c,rfl⟩:=Iu hlen;obtain⟨x0,h0⟩:=dO hxl (i:=0) (by decide);obtain⟨x1,h1⟩:=dO hxl (i:=1) (by decide);obtain⟨x2,h2⟩:=dO hxl (i:=2) (by decide);have f0:DataW.trod enc Try.prog W base (fun _=>true) held n 3 (List.take (Try.prog.cellsOf 3) (List.drop 0 [a,b,c]))=some x0:=(hf 0 _ rfl).trans h0;have f1:DataW.trod enc Try.prog W base (fun _=>true) held n 3 (List.take (Try.prog.cellsOf 3) (List.drop 1 [a,b,c]))=some x1:=(hf 1 _ rfl).trans h1;have f2:DataW.trod enc Try.prog W base (fun _=>true) held n 3 (List.take (Try.prog.cellsOf 3) (List.drop 2 [a,b,c]))=some x2:=(hf 2 _ rfl).trans h2;simp only[ct,Rm,List.drop_succ_cons,Sb,RI] at f0 f1 f2;obtain⟨j,e0,_⟩:=DataW.trod_int Try.underlying3 f0;obtain⟨k,e1,_⟩:=DataW.trod_int Try.underlying3 f1;obtain⟨m,e2,_⟩:=DataW.trod_int Try.underlying3 f2;cases e0;cases e1;cases e2;exact⟨j,k,m,rfl⟩
end
section
variable {H:Type} {enc:TypeId×Value->H} {W:World} {base b0:Nat} {r:Reach} {held:Bool} {v:Value} {d:DataW H} {p:List MemPlace}
end
end Go.Proofs.Ytldnpcolhdnkdaa

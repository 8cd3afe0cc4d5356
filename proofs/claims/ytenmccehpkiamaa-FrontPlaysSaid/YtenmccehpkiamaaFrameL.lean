/- Stamps' cells; acts among the arguments. -/
import Derived.Test.YtenmccehpkiamaaFrameG
import Derived.Test.YtenmccehpkiamaaMFz
namespace Go.Proofs.Ytenmccehpkiamaa
set_option linter.unusedSimpArgs false
set_option maxRecDepth 100000
open Go.ChangeShapes Go.WideShapes Go.ChangeAt Go.WideMaps Go.WideElems Go.RowKit Go.Joins
section
variable {H:Type} {enc:TypeId×Value->H} {W:World} {base:Nat} {held:Bool}
variable {l:List Value}
theorem EJ (h:l.length=4):∃a b c d,l=[a,b,c,d]:=by
 match l,h with
 |[a,b,c,d],_=>exact⟨a,b,c,d,rfl⟩
theorem EK (h:l.length=3):∃a b c,l=[a,b,c]:=by
 match l,h with
 |[a,b,c],_=>exact⟨a,b,c,rfl⟩
variable {fuel:Nat} {cs:List Value}
theorem kQ {x:DataW H×List MemPlace} (h:DataW.trod enc Try.prog W base (fun _=>true) held fuel 24 cs=some x):∃j k m:Int,cs=[.int .i64 j,.int .i64 k,.int .i64 m]:=by
 obtain⟨xs,n,_,_,hlen,hxl,hf⟩:=DataW.trod_struct Try.underlying24 h;have hc:Try.prog.cellsOf 24=3:=by kernel_rfl
 have ct:Try.prog.cellsOf 3=1:=by kernel_rfl
 rw[hc] at hlen;obtain⟨a,b,c,rfl⟩:=EK hlen;obtain⟨x0,h0⟩:=dr hxl (i:=0) (by decide);obtain⟨x1,h1⟩:=dr hxl (i:=1) (by decide);obtain⟨x2,h2⟩:=dr hxl (i:=2) (by decide);have f0:DataW.trod enc Try.prog W base (fun _=>true) held n 3 (List.take (Try.prog.cellsOf 3) (List.drop 0 [a,b,c]))=some x0:=(hf 0 _ rfl).trans h0;have f1:DataW.trod enc Try.prog W base (fun _=>true) held n 3 (List.take (Try.prog.cellsOf 3) (List.drop 1 [a,b,c]))=some x1:=(hf 1 _ rfl).trans h1;have f2:DataW.trod enc Try.prog W base (fun _=>true) held n 3 (List.take (Try.prog.cellsOf 3) (List.drop 2 [a,b,c]))=some x2:=(hf 2 _ rfl).trans h2;simp only[ct,Nu,List.drop_succ_cons,List.take_succ_cons,Nz] at f0 f1 f2;obtain⟨j,e0,_⟩:=DataW.trod_int Try.underlying3 f0;obtain⟨k,e1,_⟩:=DataW.trod_int Try.underlying3 f1;obtain⟨m,e2,_⟩:=DataW.trod_int Try.underlying3 f2;cases e0;cases e1;cases e2;exact⟨j,k,m,rfl⟩
theorem pK {x:DataW H×List MemPlace} (h:DataW.trod enc Try.prog W base (fun _=>true) held fuel 35 cs=some x):∃a:Ch,True∧RdL (fun _=>none) W cs (bB a).cells:=by
 obtain⟨xs,n,_,_,hlen,hxl,hf⟩:=DataW.trod_struct Try.underlying35 h;have hc:Try.prog.cellsOf 35=4:=by kernel_rfl
 have ci:Try.prog.cellsOf 24=3:=by kernel_rfl
 have ct:Try.prog.cellsOf 3=1:=by kernel_rfl
 rw[hc] at hlen;obtain⟨a,b,c,d,rfl⟩:=EJ hlen;obtain⟨x0,h0⟩:=dr hxl (i:=0) (by decide);obtain⟨x1,h1⟩:=dr hxl (i:=1) (by decide);have f0:DataW.trod enc Try.prog W base (fun _=>true) held n 24 (List.take (Try.prog.cellsOf 24) (List.drop 0 [a,b,c,d]))=some x0:=(hf 0 _ rfl).trans h0;have f1:DataW.trod enc Try.prog W base (fun _=>true) held n 3 (List.take (Try.prog.cellsOf 3) (List.drop 3 [a,b,c,d]))=some x1:=(hf 1 _ rfl).trans h1;simp only[ci,ct,Nu,List.drop_succ_cons,List.take_succ_cons,Nz] at f0 f1;obtain⟨j,k,m,e0⟩:=kQ f0;obtain⟨y,e1,_⟩:=DataW.trod_int Try.underlying3 f1;cases e0;cases e1;exact⟨((j,k,m),y),trivial,.x _,.x _,.x _,.x _,trivial⟩
end
section
variable {H:Type} {enc:TypeId×Value->H} {W:World} {base b0:Nat} {r:Reach} {held:Bool} {v:Value} {d:DataW H} {p:List MemPlace}
theorem me (hv:Value.okWide Try.prog W r b0 22 v) (h:DataW.Trod enc Try.prog W base (fun _=>true) held 22 v d p):∃q:Bool×Nat×List Ch,(q.2.2≠[]->q.2.1=4)∧Rd (fun _=>none) W v (.sl q.1 q.2.1 (q.2.2.map bB) none):=by
 obtain⟨a,n,c,rfl⟩:=okWide_slice Try.underlying22 hv;obtain⟨fuel,hf⟩:=h;rcases lj (K:=4) (f:=bB) (Pr:=fun _=>True) Try.underlying22 (by kernel_rfl) (by decide) (fun _=>rfl) (fun _ _ _ h _=>pK h) hf with e|⟨l,_,hr⟩
 . exact⟨(true,0,[]),fun h=>absurd rfl h,by rw[e];exact .nil _ _⟩
 . exact⟨(false,4,l),fun _=>rfl,hr⟩
end
end Go.Proofs.Ytenmccehpkiamaa

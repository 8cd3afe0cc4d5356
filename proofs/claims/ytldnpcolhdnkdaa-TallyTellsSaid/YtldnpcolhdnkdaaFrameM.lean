/- Rows of rows of changes, rows of numbers among the arguments. -/
import Derived.Test.YtldnpcolhdnkdaaFrameL
import Derived.Test.YtldnpcolhdnkdaaMFz
namespace Go.Proofs.Ytldnpcolhdnkdaa
set_option linter.unusedSimpArgs false
set_option maxRecDepth 100000
open Go.ChangeShapes Go.WideShapes Go.ChangeAt Go.WideMaps Go.WideElems Go.RowKit Go.Joins
section
variable {H:Type} {enc:TypeId×Value->H} {W:World} {base:Nat} {held:Bool}
variable {fuel:Nat}
theorem sk {cs:List Value} {x:DataW H×List MemPlace} (h:DataW.trod enc Try.prog W base (fun _=>true) held fuel 35 cs=some x):∃a:Ch,True∧RdL (fun _=>none) W cs (cD a).cells:=by
 obtain⟨xs,n,_,_,hlen,hxl,hf⟩:=DataW.trod_struct Try.underlying35 h;have hc:Try.prog.cellsOf 35=4:=by kernel_rfl
 have ci:Try.prog.cellsOf 32=3:=by kernel_rfl
 have ct:Try.prog.cellsOf 3=1:=by kernel_rfl
 rw[hc] at hlen;obtain⟨a,b,c,d,rfl⟩:=It hlen;obtain⟨x0,h0⟩:=dO hxl (i:=0) (by decide);obtain⟨x1,h1⟩:=dO hxl (i:=1) (by decide);have f0:DataW.trod enc Try.prog W base (fun _=>true) held n 32 (List.take (Try.prog.cellsOf 32) (List.drop 0 [a,b,c,d]))=some x0:=(hf 0 _ rfl).trans h0;have f1:DataW.trod enc Try.prog W base (fun _=>true) held n 3 (List.take (Try.prog.cellsOf 3) (List.drop 3 [a,b,c,d]))=some x1:=(hf 1 _ rfl).trans h1;simp only[ci,ct,Rm,List.drop_succ_cons,Sb,RI] at f0 f1;obtain⟨j,k,m,e0⟩:=mQ f0;obtain⟨y,e1,_⟩:=DataW.trod_int Try.underlying3 f1;cases e0;cases e1;exact⟨((j,k,m),y),trivial,.x _,.x _,.x _,.x _,trivial⟩
theorem iY {m:Lim} {w:World} {a:Option Addr} {len cap:Nat} {nl:Bool} {sz:Nat} {es:List V} {t:Option Nat} (h:Rd m w (.slice a len cap) (.sl nl sz es t)):es.length=len:=by cases h<;>rfl
variable {v:Value}
theorem vh {x:DataW H×List MemPlace} (h:DataW.trod enc Try.prog W base (fun _=>true) held fuel 28 [v]=some x) (hw:∀n∈x.1.weights Try.prog 28,n<=reachBytes):∃q:eD,yJ q∧Rd (fun _=>none) W v (eQ q):=by
 obtain⟨q,h1,hr⟩:∃q:eD,(q.2.2≠[]->q.2.1=4)∧Rd (fun _=>none) W v (eQ q):=by
  rcases fl (K:=4) (f:=cD) (Pr:=fun _=>True) Try.underlying28 (by kernel_rfl) (by decide) (fun _=>rfl) (fun _ _ _ h _=>sk h) h with e|⟨l,_,hr⟩
  . exact⟨(true,0,[]),fun h=>absurd rfl h,by rw[e];exact .nil _ _⟩
  . exact⟨(false,4,l),fun _=>rfl,hr⟩
 refine⟨q,⟨h1,?_⟩,hr⟩;rcases DataW.trod_slice Try.underlying28 h with⟨e,_⟩|⟨a,len,cap,elems,rest,n',rfl,e,ex,_,_,_,hel',_⟩
 . cases e;have:=iY hr;rw[eq] at this;omega
 . cases e;have hlen:=iY hr;rw[eq] at hlen;have hb:Try.prog.bytesOf 35=32:=by kernel_rfl
   have:=hw ((elems.length+rest.length)*Try.prog.bytesOf 35) (by rw[ex];simp only[DataW.weights,Try.underlying28];simp);have hr:=reachBytes_lt;rw[hb] at this;omega
theorem jI {P:Program} {e:TypeId}:∀{ds:List (DataW H)} {d:DataW H},d∈ds->∀n∈d.weights P e,n∈DataW.weightsAll P e ds
 | d0::ds,d,hd,n,hn=>by
   simp only[DataW.weightsAll,PU];rcases PY.1 hd with rfl|hd
   . exact .inl hn
   . exact .inr (jI hd n hn)
theorem nk {x:DataW H×List MemPlace} (h:DataW.trod enc Try.prog W base (fun _=>true) held fuel 22 [v]=some x) (hw:∀n∈x.1.weights Try.prog 22,n<=reachBytes):∃q:Cq,nj q∧Rd (fun _=>none) W v (yI q):=by
 rcases DataW.trod_slice Try.underlying22 h with⟨e,_⟩|⟨a,len,cap,elems,rest,n',rfl,e,ex0,_,_,_,_,_⟩
 . cases e;exact⟨(true,0,[]),⟨fun h=>absurd rfl h,PH _,fun v hv=>by cases hv⟩,.nil _ _⟩
 cases e;obtain⟨ds,sp,ex⟩:∃ds sp,x.1= .slice ds sp:=⟨_,_,by rw[ex0]⟩;have key:∀(n:Nat) (cs:List Value) (y:DataW H×List MemPlace),DataW.trod enc Try.prog W base (fun _=>true) held n 28 cs=some y->(∀ds sp,x.1= .slice ds sp->y.1∈ds)->∃a:eD,yJ a∧RdL (fun _=>none) W cs (eQ a).cells:=fun n cs y hy hm=>by
  have h1:∃u,cs=[u]:=by
   rcases DataW.trod_slice Try.underlying28 hy with⟨e,_⟩|⟨a,len,cap,elems,rest,n',_,e,_⟩
   . exact⟨_,e⟩
   . exact⟨_,e⟩
  obtain⟨u,rfl⟩:=h1
  obtain⟨q,h2,h4⟩:=vh hy (fun n hn=>hw n (by rw[ex];simp only[DataW.weights,Try.underlying22,PY,PU];exact .inr (.inl (jI (hm ds sp ex) n hn))))
  exact⟨q,h2,h4,trivial⟩
 rcases fl (K:=1) (f:=eQ) (Pr:=yJ) Try.underlying22 (by kernel_rfl) (by decide) (fun _=>rfl) key h with e|⟨l,hl,hr⟩
 . exact⟨(true,0,[]),⟨fun h=>absurd rfl h,PH _,fun v hv=>by cases hv⟩,by rw[e];exact .nil _ _⟩
 . refine⟨(false,1,l),⟨fun _=>rfl,?_,hl⟩,hr⟩;have hlen:=iY hr;rw[eq] at hlen;have hb:1<=Try.prog.bytesOf 28:=QA (by kernel_rfl);have:=hw ((elems.length+rest.length)*Try.prog.bytesOf 28) (by rw[ex0];simp only[DataW.weights,Try.underlying22];simp);have hr:=reachBytes_lt;have h3:(elems.length+rest.length)*1<=(elems.length+rest.length)*Try.prog.bytesOf 28:=Nat.mul_le_mul_left _ hb;simp only;omega
end
section
variable {H:Type} {enc:TypeId×Value->H} {W:World} {base b0:Nat} {r:Reach} {held:Bool} {v:Value} {d:DataW H} {p:List MemPlace}
theorem ot (hv:Value.okWide Try.prog W r b0 22 v) (h:DataW.Trod enc Try.prog W base (fun _=>true) held 22 v d p) (hw:∀n∈d.weights Try.prog 22,n<=reachBytes):∃q:Cq,nj q∧Rd (fun _=>none) W v (yI q):=by obtain⟨a,n,c,rfl⟩:=okWide_slice Try.underlying22 hv;obtain⟨fuel,hf⟩:=h;exact nk hf hw
theorem vi (hv:Value.okWide Try.prog W r b0 36 v) (h:DataW.Trod enc Try.prog W base (fun _=>true) held 36 v d p):∃q:Bool×Nat×List Int,(q.2.2≠[]->q.2.1=1)∧Rd (fun _=>none) W v (.sl q.1 q.2.1 (q.2.2.map Gs) none):=by
 obtain⟨a,n,c,rfl⟩:=okWide_slice Try.underlying36 hv;obtain⟨fuel,hf⟩:=h;rcases fl (K:=1) (f:=Gs) (Pr:=fun _=>True) Try.underlying36 (by kernel_rfl) (by decide) (fun _=>rfl) (fun _ cs _ h _=>by obtain⟨k,e1,_⟩:=DataW.trod_int Try.underlying3 h;subst e1;exact⟨k,trivial,.x _,trivial⟩) hf with e|⟨l,_,hr⟩
 . exact⟨(true,0,[]),fun h=>absurd rfl h,by rw[e];exact .nil _ _⟩
 . exact⟨(false,1,l),fun _=>rfl,hr⟩
end
end Go.Proofs.Ytldnpcolhdnkdaa

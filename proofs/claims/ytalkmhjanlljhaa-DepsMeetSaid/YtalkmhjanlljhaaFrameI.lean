/- Entries among the arguments: rows of api.Entry. -/
import Derived.Test.YtalkmhjanlljhaaFrameG
import Derived.Test.YtalkmhjanlljhaaFrameT
import Derived.Test.YtalkmhjanlljhaaMD
namespace Go.Proofs.Ytalkmhjanlljhaa
set_option linter.unusedSimpArgs false
set_option maxRecDepth 100000
open Go.ChangeShapes Go.WideShapes Go.ChangeAt Go.WideMaps Go.WideElems Go.RowKit Go.Joins
section
variable {H:Type} {enc:TypeId×Value->H} {W:World} {base:Nat} {held:Bool}
theorem IC {l:List Value} (h:l.length=20):∃a0 a1 a2 a3 a4 a5 a6 a7 a8 a9 a10 a11 a12 a13 a14 a15 a16 a17 a18 a19,l=[a0,a1,a2,a3,a4,a5,a6,a7,a8,a9,a10,a11,a12,a13,a14,a15,a16,a17,a18,a19]:=by
 match l,h with
 |[a0,a1,a2,a3,a4,a5,a6,a7,a8,a9,a10,a11,a12,a13,a14,a15,a16,a17,a18,a19],_=>exact⟨_,_,_,_,_,_,_,_,_,_,_,_,_,_,_,_,_,_,_,_,rfl⟩
variable {fuel:Nat}
theorem ng {cs:List Value} {x:DataW H×List MemPlace} (h:DataW.trod enc Try.prog W base (fun _=>true) held fuel 39 cs=some x):∃e:En,Fn e.2.2.1∧RdL (fun _=>none) W cs (cK e).cells:=by
 obtain⟨xs,n,_,_,hlen,hxl,hf⟩:=DataW.trod_struct Try.underlying39 h;have hc:Try.prog.cellsOf 39=20:=by kernel_rfl
 have ci:Try.prog.cellsOf 32=3:=by kernel_rfl
 have cb:Try.prog.cellsOf 4=1:=by kernel_rfl
 have cn:Try.prog.cellsOf 37=13:=by kernel_rfl
 have cv:Try.prog.cellsOf 34=3:=by kernel_rfl
 rw[hc] at hlen;obtain⟨a0,a1,a2,a3,a4,a5,a6,a7,a8,a9,a10,a11,a12,a13,a14,a15,a16,a17,a18,a19,rfl⟩:=IC hlen;obtain⟨x0,h0⟩:=eH hxl (i:=0) (by decide);obtain⟨x1,h1⟩:=eH hxl (i:=1) (by decide);obtain⟨x2,h2⟩:=eH hxl (i:=2) (by decide);obtain⟨x3,h3⟩:=eH hxl (i:=3) (by decide);have f0:DataW.trod enc Try.prog W base (fun _=>true) held n 32 (List.take (Try.prog.cellsOf 32) (List.drop 0 [a0,a1,a2,a3,a4,a5,a6,a7,a8,a9,a10,a11,a12,a13,a14,a15,a16,a17,a18,a19]))=some x0:=(hf 0 _ rfl).trans h0;have f1:DataW.trod enc Try.prog W base (fun _=>true) held n 4 (List.take (Try.prog.cellsOf 4) (List.drop 3 [a0,a1,a2,a3,a4,a5,a6,a7,a8,a9,a10,a11,a12,a13,a14,a15,a16,a17,a18,a19]))=some x1:=(hf 1 _ rfl).trans h1;have f2:DataW.trod enc Try.prog W base (fun _=>true) held n 37 (List.take (Try.prog.cellsOf 37) (List.drop 4 [a0,a1,a2,a3,a4,a5,a6,a7,a8,a9,a10,a11,a12,a13,a14,a15,a16,a17,a18,a19]))=some x2:=(hf 2 _ rfl).trans h2;have f3:DataW.trod enc Try.prog W base (fun _=>true) held n 34 (List.take (Try.prog.cellsOf 34) (List.drop 17 [a0,a1,a2,a3,a4,a5,a6,a7,a8,a9,a10,a11,a12,a13,a14,a15,a16,a17,a18,a19]))=some x3:=(hf 3 _ rfl).trans h3;simp only[ci,cb,cn,cv,VB,Vw,Vx,Vp] at f0 f1 f2 f3;obtain⟨s,k,m,e0⟩:=gr f0;obtain⟨b,e1,_⟩:=DataW.trod_bool Try.underlying4 f1;obtain⟨nd,hsm,hn⟩:=pp _ _ _ f2;obtain⟨vk,vn,vs,e3,_⟩:=iN f3;cases e0;cases e1;cases e3;rw[aS] at hn;obtain⟨r0,r1,r2,r3,r4,r5,r6,r7,r8,r9,r10,r11,r12,_⟩:=hn;exact⟨((s,k,m),b,nd,(vk,vn,vs)),hsm,.x _,.x _,.x _,.x _,r0,r1,r2,r3,r4,r5,r6,r7,r8,r9,r10,r11,r12,.x _,.x _,.x _,trivial⟩
def NA (q:Bool×Nat×List En):V:= .sl q.1 q.2.1 (q.2.2.map cK) none
variable {v:Value}
theorem kH {x:DataW H×List MemPlace} (h:DataW.trod enc Try.prog W base (fun _=>true) held fuel 22 [v]=some x):∃q:Bool×Nat×List En,(q.2.2≠[]->q.2.1=20)∧(∀a∈q.2.2,Fn a.2.2.1)∧Rd (fun _=>none) W v (NA q):=by
 rcases nf (K:=20) (f:=cK) (Pr:=fun a=>Fn a.2.2.1) Try.underlying22 (by kernel_rfl) (by decide) (fun _=>rfl) (fun _ _ _ h _=>ng h) h with rfl|⟨l,hl,hr⟩
 . exact⟨(true,0,[]),fun h=>absurd rfl h,(fun v hv=>by cases hv),.nil _ _⟩
 . exact⟨(false,20,l),fun _=>rfl,hl,hr⟩
end
theorem mN {m:Lim} {w:World} {a:Option Addr} {len cap:Nat} {nl:Bool} {sz:Nat} {es:List V} {t:Option Nat} (h:Rd m w (.slice a len cap) (.sl nl sz es t)):es.length=len:=by cases h<;>rfl
variable {W:World} {base fuel:Nat} {held:Bool} {v:Value}
theorem nh {H:Type} {enc:TypeId×Value->H} {x:DataW H×List MemPlace} (h:DataW.trod enc Try.prog W base (fun _=>true) held fuel 22 [v]=some x) (hw:∀n∈x.1.weights Try.prog 22,n<=reachBytes):∃q:Bool×Nat×List En,(q.2.2≠[]->q.2.1=20)∧q.2.2.length<=281474976710656∧Rd (fun _=>none) W v (NA q):=by
 obtain⟨q,h1,_,hr⟩:=kH h;refine⟨q,h1,?_,hr⟩;rcases DataW.trod_slice Try.underlying22 h with⟨e,_⟩|⟨a,len,cap,elems,rest,n',rfl,e,ex,_,_,_,hel',_⟩
 . cases e;have:=mN hr;rw[io] at this;omega
 . cases e;have hlen:=mN hr;rw[io] at hlen;have hb:32<=Try.prog.bytesOf 39:=Ti (by kernel_rfl);have:=hw ((elems.length+rest.length)*Try.prog.bytesOf 39) (by rw[ex];simp only[DataW.weights,Try.underlying22];simp);have hr:=reachBytes_lt;have h3:(elems.length+rest.length)*32<=(elems.length+rest.length)*Try.prog.bytesOf 39:=Nat.mul_le_mul_left _ hb;omega
theorem jf {H:Type} {enc:TypeId×Value->H} {r:Reach} {b0:Nat} {d:DataW H} {p:List MemPlace} (hv:Value.okWide Try.prog W r b0 22 v) (h:DataW.Trod enc Try.prog W base (fun _=>true) held 22 v d p) (hw:∀n∈d.weights Try.prog 22,n<=reachBytes):
 ∃q:Bool×Nat×List En,(q.2.2≠[]->q.2.1=20)∧q.2.2.length<=281474976710656∧Rd (fun _=>none) W v (NA q):=by
 obtain⟨a,n,c,rfl⟩:=okWide_slice Try.underlying22 hv;obtain⟨fuel,hf⟩:=h;exact nh hf hw
end Go.Proofs.Ytalkmhjanlljhaa

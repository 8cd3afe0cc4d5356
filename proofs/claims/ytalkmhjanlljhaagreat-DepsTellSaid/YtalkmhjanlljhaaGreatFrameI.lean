/- Entries among the arguments: rows of api.Entry. -/
import Derived.Test.YtalkmhjanlljhaaGreatFrameG
import Derived.Test.YtalkmhjanlljhaaGreatFrameT
import Derived.Test.YtalkmhjanlljhaaGreatMD
namespace Go.Proofs.YtalkmhjanlljhaaGreat
set_option linter.unusedSimpArgs false
set_option maxRecDepth 100000
open Go.ChangeShapes Go.WideShapes Go.ChangeAt Go.WideMaps Go.WideElems Go.RowKit Go.Joins
section
variable {H:Type} {enc:TypeId×Value->H} {W:World} {base:Nat} {held:Bool}
theorem LD {l:List Value} (h:l.length=20):∃a0 a1 a2 a3 a4 a5 a6 a7 a8 a9 a10 a11 a12 a13 a14 a15 a16 a17 a18 a19,l=[a0,a1,a2,a3,a4,a5,a6,a7,a8,a9,a10,a11,a12,a13,a14,a15,a16,a17,a18,a19]:=by
 match l,h with
 |[a0,a1,a2,a3,a4,a5,a6,a7,a8,a9,a10,a11,a12,a13,a14,a15,a16,a17,a18,a19],_=>exact⟨_,_,_,_,_,_,_,_,_,_,_,_,_,_,_,_,_,_,_,_,rfl⟩
variable {fuel:Nat}
theorem oZ {cs:List Value} {x:DataW H×List MemPlace} (h:DataW.trod enc Tryz.prog W base (fun _=>true) held fuel 52 cs=some x):∃e:En,HJ e.2.2.1∧RdL (fun _=>none) W cs (bK e).cells:=by
 obtain⟨xs,n,_,_,hlen,hxl,hf⟩:=DataW.trod_struct Tryz.underlying52 h;have hc:Tryz.prog.cellsOf 52=20:=by kernel_rfl
 have ci:Tryz.prog.cellsOf 24=3:=by kernel_rfl
 have cb:Tryz.prog.cellsOf 4=1:=by kernel_rfl
 have cn:Tryz.prog.cellsOf 50=13:=by kernel_rfl
 have cv:Tryz.prog.cellsOf 47=3:=by kernel_rfl
 rw[hc] at hlen;obtain⟨a0,a1,a2,a3,a4,a5,a6,a7,a8,a9,a10,a11,a12,a13,a14,a15,a16,a17,a18,a19,rfl⟩:=LD hlen;obtain⟨x0,h0⟩:=fD hxl (i:=0) (by decide);obtain⟨x1,h1⟩:=fD hxl (i:=1) (by decide);obtain⟨x2,h2⟩:=fD hxl (i:=2) (by decide);obtain⟨x3,h3⟩:=fD hxl (i:=3) (by decide);have f0:DataW.trod enc Tryz.prog W base (fun _=>true) held n 24 (List.take (Tryz.prog.cellsOf 24) (List.drop 0 [a0,a1,a2,a3,a4,a5,a6,a7,a8,a9,a10,a11,a12,a13,a14,a15,a16,a17,a18,a19]))=some x0:=(hf 0 _ rfl).trans h0;have f1:DataW.trod enc Tryz.prog W base (fun _=>true) held n 4 (List.take (Tryz.prog.cellsOf 4) (List.drop 3 [a0,a1,a2,a3,a4,a5,a6,a7,a8,a9,a10,a11,a12,a13,a14,a15,a16,a17,a18,a19]))=some x1:=(hf 1 _ rfl).trans h1;have f2:DataW.trod enc Tryz.prog W base (fun _=>true) held n 50 (List.take (Tryz.prog.cellsOf 50) (List.drop 4 [a0,a1,a2,a3,a4,a5,a6,a7,a8,a9,a10,a11,a12,a13,a14,a15,a16,a17,a18,a19]))=some x2:=(hf 2 _ rfl).trans h2;have f3:DataW.trod enc Tryz.prog W base (fun _=>true) held n 47 (List.take (Tryz.prog.cellsOf 47) (List.drop 17 [a0,a1,a2,a3,a4,a5,a6,a7,a8,a9,a10,a11,a12,a13,a14,a15,a16,a17,a18,a19]))=some x3:=(hf 3 _ rfl).trans h3;simp only[ci,cb,cn,cv,XQ,XI,XJ,VW] at f0 f1 f2 f3;obtain⟨s,k,m,e0⟩:=iv f0;obtain⟨b,e1,_⟩:=DataW.trod_bool Tryz.underlying4 f1;obtain⟨nd,hsm,hn⟩:=ru _ _ _ f2;obtain⟨vk,vn,vs,e3,_⟩:=jU f3;cases e0;cases e1;cases e3;rw[bf] at hn;obtain⟨r0,r1,r2,r3,r4,r5,r6,r7,r8,r9,r10,r11,r12,_⟩:=hn;exact⟨((s,k,m),b,nd,(vk,vn,vs)),hsm,.x _,.x _,.x _,.x _,r0,r1,r2,r3,r4,r5,r6,r7,r8,r9,r10,r11,r12,.x _,.x _,.x _,trivial⟩
def QQ (q:Bool×Nat×List En):V:= .sl q.1 q.2.1 (q.2.2.map bK) none
variable {v:Value}
theorem mw {x:DataW H×List MemPlace} (h:DataW.trod enc Tryz.prog W base (fun _=>true) held fuel 22 [v]=some x):∃q:Bool×Nat×List En,(q.2.2≠[]->q.2.1=20)∧(∀a∈q.2.2,HJ a.2.2.1)∧Rd (fun _=>none) W v (QQ q):=by
 rcases oY (K:=20) (f:=bK) (Pr:=fun a=>HJ a.2.2.1) Tryz.underlying22 (by kernel_rfl) (by decide) (fun _=>rfl) (fun _ _ _ h _=>oZ h) h with rfl|⟨l,hl,hr⟩
 . exact⟨(true,0,[]),fun h=>absurd rfl h,(fun v hv=>by cases hv),.nil _ _⟩
 . exact⟨(false,20,l),fun _=>rfl,hl,hr⟩
end
theorem oL {m:Lim} {w:World} {a:Option Addr} {len cap:Nat} {nl:Bool} {sz:Nat} {es:List V} {t:Option Nat} (h:Rd m w (.slice a len cap) (.sl nl sz es t)):es.length=len:=by cases h<;>rfl
variable {W:World} {base fuel:Nat} {held:Bool} {v:Value}
theorem o0 {H:Type} {enc:TypeId×Value->H} {x:DataW H×List MemPlace} (h:DataW.trod enc Tryz.prog W base (fun _=>true) held fuel 22 [v]=some x) (hw:∀n∈x.1.weights Tryz.prog 22,n<=reachBytes):∃q:Bool×Nat×List En,(q.2.2≠[]->q.2.1=20)∧q.2.2.length<=281474976710656∧Rd (fun _=>none) W v (QQ q):=by
 obtain⟨q,h1,_,hr⟩:=mw h;refine⟨q,h1,?_,hr⟩;rcases DataW.trod_slice Tryz.underlying22 h with⟨e,_⟩|⟨a,len,cap,elems,rest,n',rfl,e,ex,_,_,_,hel',_⟩
 . cases e;have:=oL hr;rw[eq] at this;omega
 . cases e;have hlen:=oL hr;rw[eq] at hlen;have hb:32<=Tryz.prog.bytesOf 52:=Vw (by kernel_rfl);have:=hw ((elems.length+rest.length)*Tryz.prog.bytesOf 52) (by rw[ex];simp only[DataW.weights,Tryz.underlying22];simp);have hr:=reachBytes_lt;have h3:(elems.length+rest.length)*32<=(elems.length+rest.length)*Tryz.prog.bytesOf 52:=Nat.mul_le_mul_left _ hb;omega
theorem kp {H:Type} {enc:TypeId×Value->H} {r:Reach} {b0:Nat} {d:DataW H} {p:List MemPlace} (hv:Value.okWide Tryz.prog W r b0 22 v) (h:DataW.Trod enc Tryz.prog W base (fun _=>true) held 22 v d p) (hw:∀n∈d.weights Tryz.prog 22,n<=reachBytes):
 ∃q:Bool×Nat×List En,(q.2.2≠[]->q.2.1=20)∧q.2.2.length<=281474976710656∧Rd (fun _=>none) W v (QQ q):=by
 obtain⟨a,n,c,rfl⟩:=okWide_slice Tryz.underlying22 hv;obtain⟨fuel,hf⟩:=h;exact o0 hf hw
end Go.Proofs.YtalkmhjanlljhaaGreat

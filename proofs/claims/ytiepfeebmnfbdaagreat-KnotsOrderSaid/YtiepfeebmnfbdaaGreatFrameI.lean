/- FrameI -/
import Derived.Test.YtiepfeebmnfbdaaGreatFrameG
import Derived.Test.YtiepfeebmnfbdaaGreatFrameT
import Derived.Test.YtiepfeebmnfbdaaGreatMD
namespace Go.Proofs.YtiepfeebmnfbdaaGreat
open _root_.Go.Proofs.Tryz
set_option linter.unusedSimpArgs false
set_option maxRecDepth 100000
open Go.ChangeShapes Go.WideShapes Go.ChangeAt Go.WideMaps Go.WideElems Go.RowKit Go.Joins
section
variable{H:Type}{enc:TypeId×Value->H}{W:World}{base:Nat}{held:Bool}
theorem TJ{l:List Value}(h:l.length=20):∃a0 a1 a2 a3 a4 a5 a6 a7 a8 a9 a10 a11 a12 a13 a14 a15 a16 a17 a18 a19,l=[a0,a1,a2,a3,a4,a5,a6,a7,a8,a9,a10,a11,a12,a13,a14,a15,a16,a17,a18,a19]:=by
 match l,h with
 |[a0,a1,a2,a3,a4,a5,a6,a7,a8,a9,a10,a11,a12,a13,a14,a15,a16,a17,a18,a19],_=>exact⟨_,_,_,_,_,_,_,_,_,_,_,_,_,_,_,_,_,_,_,_,rfl⟩
variable{fuel:Nat}
theorem rY{cs:List Value}{x:DataW H×List MemPlace}(h:DataW.trod enc prog W base (fun _=>true) held fuel 43 cs=some x):∃e:En,ON e.2.2.1∧RdL (fun _=>none) W cs (cj e).cells:=by
 obtain⟨xs,n,_,_,hlen,hxl,hf⟩:=DataW.trod_struct underlying43 h;have hc:prog.cellsOf 43=20:=A0a
 have ci:prog.cellsOf 33=3:=A0a
 have cb:prog.cellsOf 4=1:=A0a
 have cn:prog.cellsOf 41=13:=A0a
 have cv:prog.cellsOf 38=3:=A0a
 rw[hc] at hlen;obtain⟨a0,a1,a2,a3,a4,a5,a6,a7,a8,a9,a10,a11,a12,a13,a14,a15,a16,a17,a18,a19,rfl⟩:=TJ hlen;obtain⟨x0,h0⟩:=gD hxl (i:=0) A0c;obtain⟨x1,h1⟩:=gD hxl (i:=1) A0c;obtain⟨x2,h2⟩:=gD hxl (i:=2) A0c;obtain⟨x3,h3⟩:=gD hxl (i:=3) A0c;have f0:DataW.trod enc prog W base (fun _=>true) held n 33 (List.take (prog.cellsOf 33) (List.drop 0 [a0,a1,a2,a3,a4,a5,a6,a7,a8,a9,a10,a11,a12,a13,a14,a15,a16,a17,a18,a19]))=some x0:=(hf 0 _ rfl).trans h0;have f1:DataW.trod enc prog W base (fun _=>true) held n 4 (List.take (prog.cellsOf 4) (List.drop 3 [a0,a1,a2,a3,a4,a5,a6,a7,a8,a9,a10,a11,a12,a13,a14,a15,a16,a17,a18,a19]))=some x1:=(hf 1 _ rfl).trans h1;have f2:DataW.trod enc prog W base (fun _=>true) held n 41 (List.take (prog.cellsOf 41) (List.drop 4 [a0,a1,a2,a3,a4,a5,a6,a7,a8,a9,a10,a11,a12,a13,a14,a15,a16,a17,a18,a19]))=some x2:=(hf 2 _ rfl).trans h2;have f3:DataW.trod enc prog W base (fun _=>true) held n 38 (List.take (prog.cellsOf 38) (List.drop 17 [a0,a1,a2,a3,a4,a5,a6,a7,a8,a9,a10,a11,a12,a13,a14,a15,a16,a17,a18,a19]))=some x3:=(hf 3 _ rfl).trans h3;simp only[ci,cb,cn,cv,agr,age,agf,ad5] at f0 f1 f2 f3;obtain⟨s,k,m,e0⟩:=jK f0;obtain⟨b,e1,_⟩:=DataW.trod_bool underlying4 f1;obtain⟨nd,hsm,hn⟩:=vo _ _ _ f2;obtain⟨vk,vn,vs,e3,_⟩:=lD f3;cases e0;cases e1;cases e3;rw[bm] at hn;obtain⟨r0,r1,r2,r3,r4,r5,r6,r7,r8,r9,r10,r11,r12,_⟩:=hn;exact⟨((s,k,m),b,nd,(vk,vn,vs)),hsm,.x _,.x _,.x _,.x _,r0,r1,r2,r3,r4,r5,r6,r7,r8,r9,r10,r11,r12,.x _,.x _,.x _,trivial⟩
def Zc(q:Bool×Nat×List En):V:= .sl q.1 q.2.1 (q.2.2.map cj) none
variable{v:Value}
theorem oN{x:DataW H×List MemPlace}(h:DataW.trod enc prog W base (fun _=>true) held fuel 22 [v]=some x):∃q:Bool×Nat×List En,(q.2.2≠[]->q.2.1=20)∧(∀a∈q.2.2,ON a.2.2.1)∧Rd (fun _=>none) W v (Zc q):=by
 rcases rX (K:=20) (f:=cj) (Pr:=fun a=>ON a.2.2.1) underlying22 A0a A0c (fun _=>rfl) (fun _ _ _ h _=>rY h) h with rfl|⟨l,hl,hr⟩
 . exact⟨(true,0,[]),fun h=>absurd rfl h,(fun v hv=>by cases hv),.nil _ _⟩
 . exact⟨(false,20,l),fun _=>rfl,hl,hr⟩
end
theorem rx{m:Lim}{w:World}{a:Option Addr}{len cap:Nat}{nl:Bool}{sz:Nat}{es:U}{t:Option Nat}(h:Rd m w (.slice a len cap) (.sl nl sz es t)):es.length=len:=by cases h<;>rfl
variable{W:World}{base fuel:Nat}{held:Bool}{v:Value}
theorem rZ{H:Type}{enc:TypeId×Value->H}{x:DataW H×List MemPlace}(h:DataW.trod enc prog W base (fun _=>true) held fuel 22 [v]=some x)(hw:∀n∈x.1.weights prog 22,n<=reachBytes):∃q:Bool×Nat×List En,(q.2.2≠[]->q.2.1=20)∧q.2.2.length<=281474976710656∧Rd (fun _=>none) W v (Zc q):=by
 obtain⟨q,h1,_,hr⟩:=oN h;refine⟨q,h1,?_,hr⟩;rcases DataW.trod_slice underlying22 h with⟨e,_⟩|⟨a,len,cap,elems,rest,n',rfl,e,ex,_,_,_,hel',_⟩
 . cases e;have:=rx hr;rw[eq] at this;omega
 . cases e;have hlen:=rx hr;rw[eq] at hlen;have hb:32<=prog.bytesOf 43:=adQ A0a;have:=hw ((elems.length+rest.length)*prog.bytesOf 43) (by rw[ex];simp only[DataW.weights,underlying22];simp);have hr:=reachBytes_lt;have h3:(elems.length+rest.length)*32<=(elems.length+rest.length)*prog.bytesOf 43:=Nat.mul_le_mul_left _ hb;omega
theorem ml{H:Type}{enc:TypeId×Value->H}{r:Reach}{b0:Nat}{d:DataW H}{p:List MemPlace}(hv:Value.okWide prog W r b0 22 v)(h:DataW.Trod enc prog W base (fun _=>true) held 22 v d p)(hw:∀n∈d.weights prog 22,n<=reachBytes):
 ∃q:Bool×Nat×List En,(q.2.2≠[]->q.2.1=20)∧q.2.2.length<=281474976710656∧Rd (fun _=>none) W v (Zc q):=by
 obtain⟨a,n,c,rfl⟩:=okWide_slice underlying22 hv;obtain⟨fuel,hf⟩:=h;exact rZ hf hw

/- FrameT -/
import Derived.Test.YtiepfeebmnfbdaaGreatFrameN
import Derived.Test.YtiepfeebmnfbdaaGreatMT
import Derived.Deep.Slices
namespace Go.Proofs.YtiepfeebmnfbdaaGreat
open _root_.Go.Proofs.Tryz
set_option linter.unusedSimpArgs false
set_option maxRecDepth 100000
open Go.ChangeShapes Go.WideShapes Go.ChangeAt Go.WideMaps Go.WideElems Go.RowKit Go.Joins
section
variable{H:Type}{enc:TypeId×Value->H}{W:World}{base:Nat}{held:Bool}
variable{l:List Value}
theorem Q7(h:l.length=3):∃a b c,l=[a,b,c]:=by
 match l,h with
 |[a,b,c],_=>exact⟨a,b,c,rfl⟩
variable{n:Nat}
theorem cX{α:Type}{l:List α}{i:Nat}(h:l.length=n)(hi:i<n):∃x,l[i]?=some x:=⟨l[i]' A0b,io A0b ⟩
variable{fuel:Nat}{cs:List Value}
theorem lD{x:DataW H×List MemPlace}(h:DataW.trod enc prog W base (fun _=>true) held fuel 38 cs=some x):∃(k n:Int) (s:ByteArray),cs=[.int .i64 k,.int .i64 n,.string s]∧n<=9223372036854775807:=by
 obtain⟨xs,n,_,_,hlen,hxl,hf⟩:=DataW.trod_struct underlying38 h;have hc:prog.cellsOf 38=3:=A0a
 have ci:prog.cellsOf 3=1:=A0a
 have ct:prog.cellsOf 9=1:=A0a
 rw[hc] at hlen;obtain⟨a,b,c,rfl⟩:=Q7 hlen;obtain⟨x0,h0⟩:=cX hxl (i:=0) A0c;obtain⟨x1,h1⟩:=cX hxl (i:=1) A0c;obtain⟨x2,h2⟩:=cX hxl (i:=2) A0c;have f0:DataW.trod enc prog W base (fun _=>true) held n 3 (List.take (prog.cellsOf 3) (List.drop 0 [a,b,c]))=some x0:=(hf 0 _ rfl).trans h0;have f1:DataW.trod enc prog W base (fun _=>true) held n 3 (List.take (prog.cellsOf 3) (List.drop 1 [a,b,c]))=some x1:=(hf 1 _ rfl).trans h1;have f2:DataW.trod enc prog W base (fun _=>true) held n 9 (List.take (prog.cellsOf 9) (List.drop 2 [a,b,c]))=some x2:=(hf 2 _ rfl).trans h2;simp only[ci,ct,agr,age,agf,ad5] at f0 f1 f2;obtain⟨k,e0,_⟩:=DataW.trod_int underlying3 f0;obtain⟨m,e1,_,wk⟩:=DataW.trod_int underlying3 f1;obtain⟨s,e2,_⟩:=DataW.trod_string underlying9 f2;cases e0;cases e1;cases e2;exact⟨k,m,s,rfl,(bounds_i64 wk).2⟩
theorem jK{x:DataW H×List MemPlace}(h:DataW.trod enc prog W base (fun _=>true) held fuel 33 cs=some x):∃(s:ByteArray) (k n:Int),cs=[.string s,.int .i64 k,.int .i64 n]:=by
 obtain⟨xs,n,_,_,hlen,hxl,hf⟩:=DataW.trod_struct underlying33 h;have hc:prog.cellsOf 33=3:=A0a
 have ci:prog.cellsOf 3=1:=A0a
 have ct:prog.cellsOf 9=1:=A0a
 rw[hc] at hlen;obtain⟨a,b,c,rfl⟩:=Q7 hlen;obtain⟨x0,h0⟩:=cX hxl (i:=0) A0c;obtain⟨x1,h1⟩:=cX hxl (i:=1) A0c;obtain⟨x2,h2⟩:=cX hxl (i:=2) A0c;have f0:DataW.trod enc prog W base (fun _=>true) held n 9 (List.take (prog.cellsOf 9) (List.drop 0 [a,b,c]))=some x0:=(hf 0 _ rfl).trans h0;have f1:DataW.trod enc prog W base (fun _=>true) held n 3 (List.take (prog.cellsOf 3) (List.drop 1 [a,b,c]))=some x1:=(hf 1 _ rfl).trans h1;have f2:DataW.trod enc prog W base (fun _=>true) held n 3 (List.take (prog.cellsOf 3) (List.drop 2 [a,b,c]))=some x2:=(hf 2 _ rfl).trans h2;simp only[ci,ct,agr,age,agf,ad5] at f0 f1 f2;obtain⟨s,e0,_⟩:=DataW.trod_string underlying9 f0;obtain⟨k,e1,_⟩:=DataW.trod_int underlying3 f1;obtain⟨m,e2,_⟩:=DataW.trod_int underlying3 f2;cases e0;cases e1;cases e2;exact⟨s,k,m,rfl⟩
theorem TI(h:l.length=13):∃a0 a1 a2 a3 a4 a5 a6 a7 a8 a9 a10 a11 a12,l=[a0,a1,a2,a3,a4,a5,a6,a7,a8,a9,a10,a11,a12]:=by
 match l,h with
 |[a0,a1,a2,a3,a4,a5,a6,a7,a8,a9,a10,a11,a12],_=>exact⟨_,_,_,_,_,_,_,_,_,_,_,_,_,rfl⟩
variable{α:Type}
theorem HU{p:Nat->α->Prop}(h:∀i,i<n->∃a,p i a):∃l:List α,l.length=n∧∀(i:Nat) (a:α),l[i]?=some a->p i a:=by
 induction n with
 |zero=>exact⟨[],rfl,fun i a h=>by simp at h⟩
 | succ n ih=>
   obtain⟨l,hl,hp⟩:=ih (fun i hi=>h i A0b);obtain⟨a,ha⟩:=h n A0b;refine⟨l++[a],A00,fun i b hb=>?_⟩;by_cases hi:i<l.length
   . rw[adu hi] at hb;exact hp i b hb
   . rw[adH A0b] at hb;have h0:i-l.length=0:=by have:=(iO.1 hb).1;simp at this;omega
     rw[h0] at hb;simp at hb;subst hb;rw[show i=n by omega];exact ha
theorem vo :∀(fuel:Nat) (cs:List Value) (x:DataW H×List MemPlace),DataW.trod enc prog W base (fun _=>true) held fuel 41 cs=some x->∃nd:Nd,ON nd∧RdL (fun _=>none) W cs (ar nd).cells:=by
 intro fuel
 induction fuel using Nat.strongRecOn with
 | _ fuel ih=>
   intro cs x h;obtain⟨xs,n,rfl,_,hlen,hxl,hf⟩:=DataW.trod_struct underlying41 h;have hc:prog.cellsOf 41=13:=A0a
   have ci:prog.cellsOf 3=1:=A0a
   have ct:prog.cellsOf 9=1:=A0a
   have cv:prog.cellsOf 38=3:=A0a
   have cc:prog.cellsOf 33=3:=A0a
   have ck:prog.cellsOf 39=1:=A0a
   rw [hc] at hlen;obtain⟨a0,a1,a2,a3,a4,a5,a6,a7,a8,a9,a10,a11,a12,rfl⟩:=TI hlen;obtain⟨x0,h0⟩:=cX hxl (i:=0) A0c;obtain⟨x1,h1⟩:=cX hxl (i:=1) A0c;obtain⟨x2,h2⟩:=cX hxl (i:=2) A0c;obtain⟨x3,h3⟩:=cX hxl (i:=3) A0c;obtain⟨x4,h4⟩:=cX hxl (i:=4) A0c;obtain⟨x5,h5⟩:=cX hxl (i:=5) A0c;obtain⟨x6,h6⟩:=cX hxl (i:=6) A0c;have f0:DataW.trod enc prog W base (fun _=>true) held n 3 (List.take (prog.cellsOf 3) (List.drop 0 [a0,a1,a2,a3,a4,a5,a6,a7,a8,a9,a10,a11,a12]))=some x0:=(hf 0 _ rfl).trans h0;have f1:DataW.trod enc prog W base (fun _=>true) held n 9 (List.take (prog.cellsOf 9) (List.drop 1 [a0,a1,a2,a3,a4,a5,a6,a7,a8,a9,a10,a11,a12]))=some x1:=(hf 1 _ rfl).trans h1;have f2:DataW.trod enc prog W base (fun _=>true) held n 9 (List.take (prog.cellsOf 9) (List.drop 2 [a0,a1,a2,a3,a4,a5,a6,a7,a8,a9,a10,a11,a12]))=some x2:=(hf 2 _ rfl).trans h2;have f3:DataW.trod enc prog W base (fun _=>true) held n 38 (List.take (prog.cellsOf 38) (List.drop 3 [a0,a1,a2,a3,a4,a5,a6,a7,a8,a9,a10,a11,a12]))=some x3:=(hf 3 _ rfl).trans h3;have f4:DataW.trod enc prog W base (fun _=>true) held n 33 (List.take (prog.cellsOf 33) (List.drop 6 [a0,a1,a2,a3,a4,a5,a6,a7,a8,a9,a10,a11,a12]))=some x4:=(hf 4 _ rfl).trans h4;have f5:DataW.trod enc prog W base (fun _=>true) held n 33 (List.take (prog.cellsOf 33) (List.drop 9 [a0,a1,a2,a3,a4,a5,a6,a7,a8,a9,a10,a11,a12]))=some x5:=(hf 5 _ rfl).trans h5;have f6:DataW.trod enc prog W base (fun _=>true) held n 39 (List.take (prog.cellsOf 39) (List.drop 12 [a0,a1,a2,a3,a4,a5,a6,a7,a8,a9,a10,a11,a12]))=some x6:=(hf 6 _ rfl).trans h6;simp only[ci,ct,cv,cc,ck,agr,age,agf,ad5] at f0 f1 f2 f3 f4 f5 f6;obtain⟨k,e0,_⟩:=DataW.trod_int underlying3 f0;obtain⟨op,e1,_⟩:=DataW.trod_string underlying9 f1;obtain⟨nm,e2,_⟩:=DataW.trod_string underlying9 f2;obtain⟨vk,vn,vs,e3,hvn⟩:=lD f3;obtain⟨cs,c1,c2,e4⟩:=jK f4;obtain⟨ts,t1,t2,e5⟩:=jK f5;cases e0;cases e1;cases e2;cases e3;cases e4;cases e5;have key:∃nd:Nd,nd.hd=⟨k,op,nm,vk,vn,vs,cs,c1,c2,ts,t1,t2⟩∧TM nd.ks∧Rd (fun _=>none) W a12 (mL nd):=by
    rcases DataW.trod_slice underlying39 f6 with⟨e,_⟩|⟨a,len,cap,elems,rest,n',rfl,e,_,_,hle,hcm,hel,hes,hsp,_⟩
    . cases e;exact⟨.leaf _,rfl,trivial,.nil _ _⟩
    . cases e;rw[hc] at hes hsp;have hcell:∀i,i<len->∃cs' y,W.cells? base (a.add (i*13)) 13=some cs'∧DataW.trod enc prog W base (fun _=>true) held n' 41 cs'=some y:=fun i hi=>by have:=hes i hi;rw[io A0b] at this;obtain⟨cs',q1,q2⟩:=aeN.1 this;exact⟨cs',_,q1,q2⟩
      obtain⟨l,hl,hp⟩:=HU (p:=fun i (c:Nd)=>∃cs',W.cells? base (a.add (i*13)) 13=some cs'∧ON c∧RdL (fun _=>none) W cs' (ar c).cells) (fun i hi=>by obtain⟨cs',y,q1,q2⟩:=hcell i hi;obtain⟨c,hcr⟩:=ih n' A0b cs' y q2;exact⟨c,cs',q1,hcr⟩)
      refine⟨.mk _ l,rfl,Sr fun c hc=>?_,?_⟩
      . obtain⟨i,hi⟩:=aen hc;obtain⟨_,_,h,_⟩:=hp i c hi;exact h
      rcases aft len with hz|hz
      . subst hz;obtain rfl:l=[]:=aem.1 hl;exact .emp _ _ _
      . obtain⟨ab,ao,spot⟩:=a;obtain rfl:spot=none:=by obtain⟨cs',y,q1,_⟩:=hcell 0 hz;obtain⟨_,hl',hg⟩:=World.cells?_some q1;have h0:=hg 0 A0b;rw[io A0b] at h0;have h1:=World.cell?_spot h0;simpa[Addr.add] using h1
        have hat:∀(i:Nat) (c:Nd),l[i]?=some c->∃cs',(∀j,j<13->W.cell? ⟨ab,ao+(i*13+j),none⟩=cs'[j]?)∧cs'.length=13∧RdL (fun _=>none) W cs' (ar c).cells:=fun i c hi=>by
         obtain⟨cs',q1,-,q2⟩:=hp i c hi;obtain⟨_,hl',hg⟩:=World.cells?_some q1;refine⟨cs',fun j hj=>?_,hl',q2⟩;have:=hg j hj
         rwa [aP,aP,afR] at this
        have hblk:ab<W.heap.size:=by obtain⟨c,hc0⟩:=cX hl hz;obtain⟨cs',q1,q2,_⟩:=hat 0 c hc0;have h0:=q1 0 A0b;rw[io A0b] at h0;exact World.block_lt_of_cell? W _ h0
        have hmap:(l.map ar).length=len:=by rw[eq,hl]
        have hsl:=Rd.sl (m:=fun _=>none) (w:=W) ab ao cap 13 (l.map ar) none (fun k=>(W.cell? ⟨ab,ao+k,none⟩).getD undef) hblk (by rw[hmap];exact hle)
         (fun i e he=>by rw[ac9,adn] at he;obtain⟨c,_,rfl⟩:=he;exact kG c)
         (fun q hq=>by
          rw[hmap] at hq;have hi:q/13<len:=(afZ A0c).2 hq;obtain⟨c,hc0⟩:=cX hl hi;obtain⟨cs',q1,q2,_⟩:=hat (q/13) c hc0;have h0:=q1 (q%13) (agC _ A0c);have e:q/13*13+q%13=q:=A0b
          rw[e] at h0;simp only[h0];rw[io (by have:=agC q (show 0<13 by decide);omega)];rfl)
         (fun fr hf=>by cases hf)
         (fun i e he j d hd=>by
          rw[ac9,adn] at he;obtain⟨c,hc0,rfl⟩:=he;obtain⟨cs',q1,q2,q3⟩:=hat i c hc0;have hj:j<13:=by
           have:=(iO.1 hd).1
           rwa [kG] at this
          have h0:=q1 j hj;simp only[h0];rw[io A0b];exact q3.get j _ d (io A0b) hd)
        rw[hmap] at hsl;exact hsl
   obtain⟨nd,hh,hsm,hk⟩:=key;refine⟨nd,(Sq nd).2 ⟨by rw[hh];exact hvn,hsm⟩,?_⟩;rw[bm,hh];exact⟨.x _,.x _,.x _,.x _,.x _,.x _,.x _,.x _,.x _,.x _,.x _,.x _,hk,trivial⟩
end

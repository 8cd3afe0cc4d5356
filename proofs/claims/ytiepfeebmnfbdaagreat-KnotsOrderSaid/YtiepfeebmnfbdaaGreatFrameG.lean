/- FrameG -/
import Derived.Test.YtiepfeebmnfbdaaGreatFrameN
import Derived.Deep.Slices
namespace Go.Proofs.YtiepfeebmnfbdaaGreat
open _root_.Go.Proofs.Tryz
set_option linter.unusedSimpArgs false
set_option maxRecDepth 100000
open Go.ChangeShapes Go.WideShapes Go.ChangeAt Go.WideMaps Go.WideElems Go.RowKit Go.Joins
section
variable{H:Type}{enc:TypeId×Value->H}{W:World}{base:Nat}{held:Bool}
variable{n:Nat}
theorem gD{α:Type}{l:List α}{i:Nat}(h:l.length=n)(hi:i<n):∃x,l[i]?=some x:=⟨l[i]' A0b,io A0b ⟩
variable{α:Type}
theorem C8{p:Nat->α->Prop}(h:∀i,i<n->∃a,p i a):∃l:List α,l.length=n∧∀(i:Nat) (a:α),l[i]?=some a->p i a:=by
 induction n with
 |zero=>exact⟨[],rfl,fun i a h=>by simp at h⟩
 | succ n ih=>
   obtain⟨l,hl,hp⟩:=ih (fun i hi=>h i A0b);obtain⟨a,ha⟩:=h n A0b;refine⟨l++[a],A00,fun i b hb=>?_⟩;by_cases hi:i<l.length
   . rw[adu hi] at hb;exact hp i b hb
   . rw[adH A0b] at hb;have h0:i-l.length=0:=by have:=(iO.1 hb).1;simp at this;omega
     rw[h0] at hb;simp at hb;subst hb;rw[show i=n by omega];exact ha
theorem rX{te ts:TypeId}{K:Nat}{f:α->V}{Pr:α->Prop}(hu:prog.underlying ts=some (.slice te))(hK:prog.cellsOf te=K)(hpos:0<K)(hcl:∀a,(f a).cells.length=K){fuel:Nat}{v:Value}{x:DataW H×List MemPlace}
 (hel:∀(n:Nat) (cs:List Value) (y:DataW H×List MemPlace),DataW.trod enc prog W base (fun _=>true) held n te cs=some y->(∀ds sp,x.1= .slice ds sp->y.1∈ds)->∃a,Pr a∧RdL (fun _=>none) W cs (f a).cells)
 (h:DataW.trod enc prog W base (fun _=>true) held fuel ts [v]=some x):v= .slice none 0 0∨∃l:List α,(∀a∈l,Pr a)∧Rd (fun _=>none) W v (.sl false K (l.map f) none):=by
 rcases DataW.trod_slice hu h with⟨e,_⟩|⟨a,len,cap,elems,rest,n',rfl,e,ex,_,hle,hcm,hel',hes,hsp,_⟩
 . cases e;exact .inl rfl
 . cases e;rw[hK] at hes hsp;right;have hcell:∀i,i<len->∃cs' y,W.cells? base (a.add (i*K)) K=some cs'∧DataW.trod enc prog W base (fun _=>true) held n' te cs'=some y∧∀ds sp,x.1= .slice ds sp->y.1∈ds:=fun i hi=>by have:=hes i hi;rw[io A0b] at this;obtain⟨cs',q1,q2⟩:=aeN.1 this;refine⟨cs',_,q1,q2,fun ds sp e2=>?_⟩;rw[ex] at e2;cases e2;exact List.mem_map_of_mem (adR _)
   obtain⟨l,hl,hp⟩:=C8 (p:=fun i (c:α)=>∃cs',W.cells? base (a.add (i*K)) K=some cs'∧Pr c∧RdL (fun _=>none) W cs' (f c).cells) (fun i hi=>by obtain⟨cs',y,q1,q2,q3⟩:=hcell i hi;obtain⟨c,hcr⟩:=hel n' cs' y q2 q3;exact⟨c,cs',q1,hcr⟩)
   refine⟨l,fun c hc=>?_,?_⟩
   . obtain⟨i,hi⟩:=aen hc;obtain⟨_,_,h,_⟩:=hp i c hi;exact h
   rcases aft len with hz|hz
   . subst hz;obtain rfl:l=[]:=aem.1 hl;exact .emp _ _ _
   . obtain⟨ab,ao,spot⟩:=a;obtain rfl:spot=none:=by obtain⟨cs',y,q1,_,_⟩:=hcell 0 hz;obtain⟨_,hl',hg⟩:=World.cells?_some q1;have h0:=hg 0 A0b;rw[io A0b] at h0;have h1:=World.cell?_spot h0;simpa[Addr.add] using h1
     have hat:∀(i:Nat) (c:α),l[i]?=some c->∃cs',(∀j,j<K->W.cell? ⟨ab,ao+(i*K+j),none⟩=cs'[j]?)∧cs'.length=K∧RdL (fun _=>none) W cs' (f c).cells:=fun i c hi=>by
      obtain⟨cs',q1,-,q2⟩:=hp i c hi;obtain⟨_,hl',hg⟩:=World.cells?_some q1;refine⟨cs',fun j hj=>?_,hl',q2⟩;have:=hg j hj
      rwa [aP,aP,afR] at this
     have hblk:ab<W.heap.size:=by obtain⟨c,hc0⟩:=gD hl hz;obtain⟨cs',q1,q2,_⟩:=hat 0 c hc0;have h0:=q1 0 A0b;rw[io A0b] at h0;exact World.block_lt_of_cell? W _ h0
     have hmap:(l.map f).length=len:=by rw[eq,hl]
     have hsl:=Rd.sl (m:=fun _=>none) (w:=W) ab ao cap K (l.map f) none (fun k=>(W.cell? ⟨ab,ao+k,none⟩).getD undef) hblk (by rw[hmap];exact hle)
      (fun i e he=>by rw[ac9,adn] at he;obtain⟨c,_,rfl⟩:=he;exact hcl c)
      (fun q hq=>by
       rw[hmap] at hq;have hi:q/K<len:=(afZ hpos).2 hq;obtain⟨c,hc0⟩:=gD hl hi;obtain⟨cs',q1,q2,_⟩:=hat (q/K) c hc0;have h0:=q1 (q%K) (agC _ hpos);have e:q/K*K+q%K=q:=by rw[afQ];exact Nat.div_add_mod q K
       rw[e] at h0;simp only[h0];rw[io (by have:=agC q hpos;omega)];rfl)
      (fun fr hf=>by cases hf)
      (fun i e he j d hd=>by
       rw[ac9,adn] at he;obtain⟨c,hc0,rfl⟩:=he;obtain⟨cs',q1,q2,q3⟩:=hat i c hc0;have hj:j<K:=by
        have:=(iO.1 hd).1
        rwa [hcl] at this
       have h0:=q1 j hj;simp only[h0];rw[io A0b];exact q3.get j _ d (io A0b) hd)
     rw[hmap] at hsl;exact hsl
end

/- Slices among the arguments: of whatever elements. -/
import Derived.Test.YtldnpcolhdnkdaaFrameN
import Derived.Deep.Slices
namespace Go.Proofs.Ytldnpcolhdnkdaa
set_option linter.unusedSimpArgs false
set_option maxRecDepth 100000
open Go.ChangeShapes Go.WideShapes Go.ChangeAt Go.WideMaps Go.WideElems Go.RowKit Go.Joins
section
variable {H:Type} {enc:TypeId×Value->H} {W:World} {base:Nat} {held:Bool}
variable {n:Nat}
theorem dO {α:Type} {l:List α} {i:Nat} (h:l.length=n) (hi:i<n):∃x,l[i]?=some x:=⟨l[i]'(by omega),Io (by omega)⟩
variable {α:Type}
theorem uV {p:Nat->α->Prop} (h:∀i,i<n->∃a,p i a):∃l:List α,l.length=n∧∀(i:Nat) (a:α),l[i]?=some a->p i a:=by
 induction n with
 |zero=>exact⟨[],rfl,fun i a h=>by simp at h⟩
 | succ n ih=>
   obtain⟨l,hl,hp⟩:=ih (fun i hi=>h i (by omega));obtain⟨a,ha⟩:=h n (by omega);refine⟨l++[a],by simp[hl],fun i b hb=>?_⟩;by_cases hi:i<l.length
   . rw[PT hi] at hb;exact hp i b hb
   . rw[P6 (by omega)] at hb;have h0:i-l.length=0:=by have:=(PE.1 hb).1;simp at this;omega
     rw[h0] at hb;simp at hb;subst hb;rw[show i=n by omega];exact ha
theorem fl {te ts:TypeId} {K:Nat} {f:α->V} {Pr:α->Prop} (hu:Try.prog.underlying ts=some (.slice te)) (hK:Try.prog.cellsOf te=K) (hpos:0<K) (hcl:∀a,(f a).cells.length=K) {fuel:Nat} {v:Value} {x:DataW H×List MemPlace}
 (hel:∀(n:Nat) (cs:List Value) (y:DataW H×List MemPlace),DataW.trod enc Try.prog W base (fun _=>true) held n te cs=some y->(∀ds sp,x.1= .slice ds sp->y.1∈ds)->∃a,Pr a∧RdL (fun _=>none) W cs (f a).cells)
 (h:DataW.trod enc Try.prog W base (fun _=>true) held fuel ts [v]=some x):v= .slice none 0 0∨∃l:List α,(∀a∈l,Pr a)∧Rd (fun _=>none) W v (.sl false K (l.map f) none):=by
 rcases DataW.trod_slice hu h with⟨e,_⟩|⟨a,len,cap,elems,rest,n',rfl,e,ex,_,hle,hcm,hel',hes,hsp,_⟩
 . cases e;exact .inl rfl
 . cases e;rw[hK] at hes hsp;right;have hcell:∀i,i<len->∃cs' y,W.cells? base (a.add (i*K)) K=some cs'∧DataW.trod enc Try.prog W base (fun _=>true) held n' te cs'=some y∧∀ds sp,x.1= .slice ds sp->y.1∈ds:=fun i hi=>by have:=hes i hi;rw[Io (by omega)] at this;obtain⟨cs',q1,q2⟩:=QG.1 this;refine⟨cs',_,q1,q2,fun ds sp e2=>?_⟩;rw[ex] at e2;cases e2;exact List.mem_map_of_mem (R8 _)
   obtain⟨l,hl,hp⟩:=uV (p:=fun i (c:α)=>∃cs',W.cells? base (a.add (i*K)) K=some cs'∧Pr c∧RdL (fun _=>none) W cs' (f c).cells) (fun i hi=>by obtain⟨cs',y,q1,q2,q3⟩:=hcell i hi;obtain⟨c,hcr⟩:=hel n' cs' y q2 q3;exact⟨c,cs',q1,hcr⟩)
   refine⟨l,fun c hc=>?_,?_⟩
   . obtain⟨i,hi⟩:=List.getElem?_of_mem hc;obtain⟨_,_,h,_⟩:=hp i c hi;exact h
   rcases Sg len with hz|hz
   . subst hz;obtain rfl:l=[]:=Qu.1 hl;exact .emp _ _ _
   . obtain⟨ab,ao,spot⟩:=a;obtain rfl:spot=none:=by obtain⟨cs',y,q1,_,_⟩:=hcell 0 hz;obtain⟨_,hl',hg⟩:=World.cells?_some q1;have h0:=hg 0 (by omega);rw[Io (by omega)] at h0;have h1:=World.cell?_spot h0;simpa[Addr.add] using h1
     have hat:∀(i:Nat) (c:α),l[i]?=some c->∃cs',(∀j,j<K->W.cell? ⟨ab,ao+(i*K+j),none⟩=cs'[j]?)∧cs'.length=K∧RdL (fun _=>none) W cs' (f c).cells:=fun i c hi=>by
      obtain⟨cs',q1,-,q2⟩:=hp i c hi;obtain⟨_,hl',hg⟩:=World.cells?_some q1;refine⟨cs',fun j hj=>?_,hl',q2⟩;have:=hg j hj
      rwa [aC,aC,Sf] at this
     have hblk:ab<W.heap.size:=by obtain⟨c,hc0⟩:=dO hl hz;obtain⟨cs',q1,q2,_⟩:=hat 0 c hc0;have h0:=q1 0 (by omega);rw[Io (by omega)] at h0;exact World.block_lt_of_cell? W _ h0
     have hmap:(l.map f).length=len:=by rw[eq,hl]
     have hsl:=Rd.sl (m:=fun _=>none) (w:=W) ab ao cap K (l.map f) none (fun k=>(W.cell? ⟨ab,ao+k,none⟩).getD Go.undef) hblk (by rw[hmap];exact hle)
      (fun i e he=>by rw[PF,PK] at he;obtain⟨c,_,rfl⟩:=he;exact hcl c)
      (fun q hq=>by
       rw[hmap] at hq;have hi:q/K<len:=(Nat.div_lt_iff_lt_mul hpos).2 hq;obtain⟨c,hc0⟩:=dO hl hi;obtain⟨cs',q1,q2,_⟩:=hat (q/K) c hc0;have h0:=q1 (q%K) (Nat.mod_lt _ hpos);have e:q/K*K+q%K=q:=by rw[Nat.mul_comm];exact Nat.div_add_mod q K
       rw[e] at h0;simp only[h0];rw[Io (by have:=Nat.mod_lt q hpos;omega)];rfl)
      (fun fr hf=>by cases hf)
      (fun i e he j d hd=>by
       rw[PF,PK] at he;obtain⟨c,hc0,rfl⟩:=he;obtain⟨cs',q1,q2,q3⟩:=hat i c hc0;have hj:j<K:=by
        have:=(PE.1 hd).1
        rwa [hcl] at this
       have h0:=q1 j hj;simp only[h0];rw[Io (by omega)];exact q3.get j _ d (Io (by omega)) hd)
     rw[hmap] at hsl;exact hsl
end
end Go.Proofs.Ytldnpcolhdnkdaa

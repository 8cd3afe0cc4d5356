/- Sorting by a function value: all of it. -/
import Derived.Sort.Walk13a
import Derived.Sort.LotD3
import Derived.Test.YtldnpcolhdnkdaaMS
import Derived.Shelf.SlSortFuncK.BreakPatternsK
import Derived.Sort.Grow
import Derived.Test.YtldnpcolhdnkdaaShelf
import Derived.Test.YtldnpcolhdnkdaaML
import Derived.Shelf.GgSortFunc.Tiny
import Derived.Shelf.GgSortFunc.Slice
import Derived.Shelf.GgSortFunc.SmallK
import Derived.Test.YtldnpcolhdnkdaaMJ
namespace Go.Proofs.Ytldnpcolhdnkdaa
set_option linter.unusedSimpArgs false
open Go Go.RowKit
open Go.Sort (swp)
open Go.Sort (SWO Below rd PermIn SortedIn)
section
variable {g sf:FuncId} {gl gs:Array Value} {N:Nat}
end
open Go.Sort (putRowK HoldsK flatK)
section
variable {G:Nat->V} {bk N:Nat} {g sf:FuncId} {gl gs:Array Value}
end
open Go.Sort (putRowK HoldsK flatK PermIn SortedIn)
section
variable {G:Nat->V} {bk Bk N cap:Nat}
end
open Go.Sort (PermIn SortedIn)
def OneG (E:Env) (n:Nat) (B:Bs) (st:St) (a:Act) (w:World) (g:Nat) (ob:Obj) (lg:Option Nat):Prop:=
 ∃m O,Now E n B.D O m st a w∧(∀k,O k->B.Os k∨B.ws.heap.size<=k)∧Step B.Os B.ms B.ws m w∧Marks B.D O B.ws.heap.size w∧B.Kn.P m w∧KeepT B.W B.t0 a.tmps∧ ¬O g∧w.heap[g]?=some ob∧m g=lg
section
variable {E:Env} {n:Nat} {B:Bs} {m:Lim} {w:World} {st:St} {a:Act} {O:Nat->Prop} {r:Option Nat} {g:Nat} {ob:Obj} {lg:Option Nat}
variable {st':St}
theorem OneG.le (h:OneG E n B st a w g ob lg) (hl:Le st' st):OneG E n B st' a w g ob lg:=by obtain⟨m,O,h1,h2⟩:=h;exact⟨m,O,h1.le hl,h2⟩
theorem OneG.one (h:OneG E n B st a w g ob lg):One E n B st a w:=by obtain⟨m,O,h1,h2,h3,h4,h5,h6,_⟩:=h;exact⟨m,O,h1,h2,h3,h4,h5,h6⟩
variable {m':Lim} {w':World}
theorem OneG.grown {a':Act} (h2:∀k,O k->B.Os k∨B.ws.heap.size<=k) (h3:Step B.Os B.ms B.ws m w) (h4:Marks B.D O B.ws.heap.size w) (h5:B.Kn.P m w) (hkt:KeepT B.W B.t0 a'.tmps) (h7: ¬O g) (h8:w.heap[g]?=some ob) (h9:m g=lg)
 (hn:Now E n B.D (oT O w w') m' st' a' w') (hs:Step O m w m' w'):OneG E n B st' a' w' g ob lg:=by
 obtain⟨m2,O2,q1,q2,q3,q4,q5,q6⟩:=One.grown h2 h3 h4 h5 hkt hn hs;have hg:=hs.same g (al h8) h7;refine⟨m',oT O w w',hn,fun k hg=>?_,h3.next hs (fun i hi ho=>(h2 i ho).resolve_right (Q7.2 hi)),⟨h4.nd,fun d hd=>?_⟩,B.Kn.mono _ _ _ _ h5 hs.ext,hkt,fun hgr=>?_,hg.1.trans h8,hg.2.trans h9⟩
 . rcases hg.2 with hg|hg
   . exact h2 k hg
   . exact .inr (tl h3.ext.size hg)
 . obtain⟨b,rfl,q1,q2,q3⟩:=h4.is d hd;refine⟨b,rfl,q1,(hs.same b (al q2) q3).1.trans q2,fun hg=>?_⟩;rcases hg.2 with hg|hg
   . exact q3 hg
   . exact absurd (al q2) (Qw.2 hg)
 . rcases hgr.2 with hg|hg
   . exact h7 hg
   . exact absurd (al h8) (Qw.2 hg)
theorem OneG.after {Kn':Kno} {d:Tmp} (hd:d<n) {v:Value} (h1:Now E n B.D O m st a w) (h2:∀k,O k->B.Os k∨B.ws.heap.size<=k) (h3:Step B.Os B.ms B.ws m w) (h4:Marks B.D O B.ws.heap.size w) (h6:KeepT B.W B.t0 a.tmps) (hWd:B.W d=true) (hs:Step (fun _=>False) m w m' w') (hJ:E.J w') (hk:Kn'.P (aw m' g (some 0)) w') (hg:w.heap.size<=g) (hh:w'.heap[g]?=some ob):
 OneG E n {B with Kn:=Kn'} (st.put (some d) (.x v)) (a.put (some d) v) w' g ob (some 0):=by
 have hs':Step (fun _=>False) m w (aw m' g (some 0)) w':=⟨hs.os,hs.tape,hs.output,⟨hs.ext.size,hs.ext.cell,fun b hb fr' hf=>by rw[ae _ _ (by omega)] at hf;exact hs.ext.lim b hb fr' hf,hs.ext.map⟩,fun k hk hn=>⟨(hs.same k hk hn).1,by rw[ae _ _ (by omega)];exact(hs.same k hk hn).2⟩⟩
 have hp:=(h1.other hs' (fun _ _ h=>h) hJ).put hd (v:=v) (u:= .x v) (.x _);rw[bo] at hp;refine⟨_,O,hp,h2,h3.next hs' (fun _ _ h=>h.elim),⟨h4.nd,fun x hx=>?_⟩,hk,h6.put (fun k e=>by cases e;exact hWd),fun ho=>absurd (h1.lt g ho) (by omega),hh,aa _ _ _⟩;obtain⟨b,rfl,q1,q2,q3⟩:=h4.is x hx;exact⟨b,rfl,q1,(hs.same b (al q2) (fun h=>h)).1.trans q2,q3⟩
theorem OneG.done (hE:EnvOK E) {w':World} {v:Value} {u:V} (h:OneG E n B st a w g (ob) (some 0)) (hcell:∃vals ty fr,ob= .cells vals ty fr) (hgs:B.ws.heap.size<=g) (hK:E.K<=g) (hb:Bel [g] w w') (hv:∀m,m g=none->Rd m w' v u):One E n {B with Kn:=Kno.rd v u} st a w':=by
 obtain⟨m,O,q1,q2,q3,q4,q5,q6,q7,q8,q9⟩:=h;have hs:Step (fun k=>k=g) m w (aw m g none) w':=by
  refine⟨hb.os,hb.tape,hb.output,⟨hb.size,fun b off v hlt hm hc=>?_,fun b hlt fr' hf=>?_,fun b es c hm hc=>(hb.block b (du hc) (by intro e;rw[PQ.1 e,q9] at hm;cases hm)).trans hc⟩,fun k hk hn=>⟨hb.block k hk (by simpa using hn),ae _ _ hn⟩⟩
  . by_cases e:b=g
    . subst e;exact absurd (hm 0 q9) (Ro _)
    . rw[aT (hb.block b hlt (by simpa using e))];exact hc
  . by_cases e:b=g
    . rw[e,aa] at hf;cases hf
    . rw[ae _ _ e] at hf;exact⟨fr',hf,PB _⟩
 have hJ:E.J w':=hE.keep [g] _ _ (fun x hx=>by rw[PQ.1 hx];exact hK) q1.J hb;refine⟨_,O,q1.other hs (fun k hk e=>q7 (e▸hk)) hJ,q2,q3.next hs (fun i hi e=>absurd hi (Qw.2 (e▸hgs))),⟨q4.nd,fun x hx=>?_⟩,hv _ (aa _ _ _),q6⟩;obtain⟨b,rfl,r1,r2,r3⟩:=q4.is x hx;have hne:b≠g:=fun e=>by subst e;obtain⟨vals,ty,fr,rfl⟩:=hcell;rw[r2] at q8;cases q8
 exact⟨b,rfl,r1,(hs.same b (al r2) hne).1.trans r2,r3⟩
end
end Go.Proofs.Ytldnpcolhdnkdaa

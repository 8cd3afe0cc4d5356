/- The run over plain data at this seat: what the calls lean on. -/
import Derived.Test.YtalkmhjanlljhaaPfTy
import Derived.Test.YtalkmhjanlljhaaGlob
import Derived.Test.YtalkmhjanlljhaaArithP
import Derived.KernelRfl
namespace Go.Proofs.Ytalkmhjanlljhaa
set_option linter.unusedSimpArgs false
open Go Go.RowKit
def wq:List (Nat×(List V->Option V))->Nat->Option (List V->Option V)
 |[],_=>none
 |(k,F)::l,i=>if k=i then some F else wq l i
def ba:List (Nat×(List V->Option (V×List (List V))))->Nat->Option (List V->Option (V×List (List V)))
 |[],_=>none
 |(k,F)::l,i=>if k=i then some F else ba l i
noncomputable def br (l:List (Nat×(List V->Option V))) (M:Nat->Bool) (lp:List (Nat×(List V->Option (V×List (List V))))) (MB any:Nat->Bool):Env:=⟨Try.prog,wq l,fun _=> .undef,Glob,M,ba lp,dJ,MB,any,fun _ _=>none,0,fun _=>none,fun _=>false,fun _=>false⟩
noncomputable def fK (l:List (Nat×(List V->Option V))) (M:Nat->Bool) (lp:List (Nat×(List V->Option (V×List (List V))))):Env:=br l M lp (fun _=>false) (fun _=>false)
noncomputable def b9 (l:List (Nat×(List V->Option V))) (M:Nat->Bool):Env:=fK l M []
noncomputable def ar (l:List (Nat×(List V->Option V))):Env:=b9 l fun _=>false
section
variable (l:List (Nat×(List V->Option V))) (M:Nat->Bool) (lp:List (Nat×(List V->Option (V×List (List V))))) (MB any:Nat->Bool)
theorem iZ:(br l M lp MB any).P=Try.prog:=rfl
theorem G0:(br l M lp MB any).F=wq l:=rfl
theorem DZ:(br l M lp MB any).FP=ba lp:=rfl
theorem D3 (d:Option Tmp):(br l M lp MB any).fzO d=false:=by cases d<;>rfl
theorem D4 (d:Option Tmp):(fK l M lp).fzO d=false:=by cases d<;>rfl
theorem D5 (d:Option Tmp):(b9 l M).fzO d=false:=by cases d<;>rfl
theorem AS (d:Option Tmp):(ar l).fzO d=false:=by cases d<;>rfl
theorem AT (d:Option Tmp):(br l M lp MB any).litD d=false:=by cases d<;>rfl
theorem AU (d:Option Tmp):(fK l M lp).litD d=false:=by cases d<;>rfl
theorem AV (d:Option Tmp):(b9 l M).litD d=false:=by cases d<;>rfl
theorem D6:(br l M lp MB any).FM=fun _=>none:=rfl
theorem D7:(fK l M lp).FM=fun _=>none:=rfl
theorem D8:(b9 l M).FM=fun _=>none:=rfl
theorem AW:(ar l).FM=fun _=>none:=rfl
theorem G1:(br l M lp MB any).G=fun _=> .undef:=rfl
theorem D9:(br l M lp MB any).MB=MB:=rfl
theorem AX:(br l M lp MB any).any=any:=rfl
theorem AY (d:Nat):(br l M lp MB any).own (some d)=M d:=rfl
theorem G3:(fK l M lp).P=Try.prog:=rfl
theorem G4:(fK l M lp).F=wq l:=rfl
theorem Ea:(fK l M lp).FP=ba lp:=rfl
theorem G5:(fK l M lp).G=fun _=> .undef:=rfl
theorem Eb:(fK l M lp).MB=fun _=>false:=rfl
theorem AZ (i:Nat):(fK l M lp).any i=false:=rfl
theorem A0 (d:Nat):(fK l M lp).own (some d)=M d:=rfl
theorem G6:(b9 l M).P=Try.prog:=rfl
theorem G7:(b9 l M).F=wq l:=rfl
theorem Ec:(b9 l M).FP=fun _=>none:=rfl
theorem G8:(b9 l M).G=fun _=> .undef:=rfl
theorem Ed:(b9 l M).MB=fun _=>false:=rfl
theorem A2 (i:Nat):(b9 l M).any i=false:=rfl
theorem A3 (d:Nat):(b9 l M).own (some d)=M d:=rfl
theorem yi (d:Option Tmp):(ar l).own d=false:=by cases d<;>rfl
theorem dg:(ar l).P=Try.prog:=rfl
theorem Ee:(ar l).F=wq l:=rfl
theorem A4:(ar l).FP=fun _=>none:=rfl
theorem Ef:(ar l).G=fun _=> .undef:=rfl
theorem A5:(ar l).MB=fun _=>false:=rfl
theorem yj (i:Nat):(ar l).any i=false:=rfl
noncomputable def gK (l:List (Nat×(List V->Option V))) (any:Nat->Bool):Env:=br l (fun _=>false) [] (fun _=>false) any
theorem qy:(br l M lp MB any).plain=gK l any:=rfl
theorem qz:(fK l M lp).plain=ar l:=rfl
theorem ue:(b9 l M).plain=ar l:=rfl
theorem qA:(ar l).plain=ar l:=rfl
theorem Eg (d:Option Tmp):(gK l any).fzO d=false:=by cases d<;>rfl
theorem G9:(gK l any).P=Try.prog:=rfl
theorem Ha:(gK l any).F=wq l:=rfl
theorem Eh:(gK l any).FP=fun _=>none:=rfl
theorem Ei:(gK l any).FM=fun _=>none:=rfl
theorem Hc:(gK l any).G=fun _=> .undef:=rfl
theorem Ej:(gK l any).MB=fun _=>false:=rfl
theorem A6 (d:Option Tmp):(gK l any).own d=false:=by cases d<;>rfl
section
variable (st:St) (b:Nat->Option (List V)) (k s:Nat) (p u:V) (d:Option Nat) (cs:List V)
theorem He:wipe (fK l M lp) st=st:=rfl
theorem Hf:wipe (b9 l M) st=st:=rfl
theorem Hg:wipe (ar l) st=st:=rfl
theorem A7:aC (fK l M lp) k b=b:=rfl
theorem A8:aC (b9 l M) k b=b:=rfl
theorem A9:aC (ar l) k b=b:=rfl
theorem Ba:aC (gK l any) k b=b:=rfl
theorem Hh:(fK l M lp).kept s u=u.bare:=rfl
theorem Hi:(b9 l M).kept s u=u.bare:=rfl
theorem Hj:(ar l).kept s u=u.bare:=rfl
theorem Hk:(gK l any).kept s u=u.bare:=rfl
theorem Mj:(fK l M lp).okS s u=true:=rfl
theorem Ml:(b9 l M).okS s u=true:=rfl
theorem Mm:(ar l).okS s u=true:=rfl
theorem Mn:(gK l any).okS s u=true:=rfl
theorem Mo:(fK l M lp).okN d cs=true:=by cases d<;>rfl
theorem Mp:(b9 l M).okN d cs=true:=by cases d<;>rfl
theorem Mq:(ar l).okN d cs=true:=by cases d<;>rfl
theorem Mr:(gK l any).okN d cs=true:=by cases d<;>rfl
theorem Ms:(br l M lp MB any).okN (some s) cs=(!MB s||cs.all V.unm):=rfl
theorem Hl:(br l M lp MB any).okN none cs=true:=rfl
theorem Mt:(br l M lp MB any).okS s u=(!MB s||(u.isSl||u.cells.all V.unm)):=rfl
theorem Hm:(br l M lp MB any).kept s u=if MB s=true then u else u.bare:=rfl
theorem Ek (o:Nat):(br l M lp MB any).keepL (.ptr s o) u=if MB s=true then u else u.bare:=rfl
theorem Bb:(br l M lp MB any).keepL (.ip cs) u=u.bare:=rfl
theorem yk:aC (br l M lp MB any) k b s=if MB s=true then (b s).map (List.map (bK k)) else b s:=rfl
theorem Bc:vT (br l M lp MB any) b s=if MB s=true then (b s).map (List.map V.bare) else b s:=rfl
theorem El:wipe (br l M lp (fun _=>false) any) st=st:=rfl
theorem Em:(fK l M lp).keepL p u=u.bare:=by cases p<;>rfl
theorem Eo:(b9 l M).keepL p u=u.bare:=by cases p<;>rfl
theorem Ep:(ar l).keepL p u=u.bare:=by cases p<;>rfl
theorem Er:(gK l any).keepL p u=u.bare:=by cases p<;>rfl
end
end
def cm (f:FuncId) (F:List V->Option V):Prop:=Fun (ar []) f F
def qB:List (Nat×(List V->Option V))->Prop
 |[]=>True
 |p::l=>cm p.1 p.2∧qB l
def Gw (f:FuncId) (F:List V->Option (V×List (List V))):Prop:=FunP (ar []) f F
def yl:List (Nat×(List V->Option (V×List (List V))))->Prop
 |[]=>True
 |p::l=>Gw p.1 p.2∧yl l
theorem ic (l:List (Nat×(List V->Option V))) (M:Nat->Bool) (lp:List (Nat×(List V->Option (V×List (List V))))) (MB any:Nat->Bool) (h:qB l) (hp:yl lp):EnvOK (br l M lp MB any):=by
 refine⟨fun f F hF=>?_,fun f F hF=>?_,fun X w w' hX hj hb=>Glob.low hj hb.size ⟨hb.os,hb.tape,hb.output,hb.size,fun k hk=>hb.block k (To hk (Glob.high hj)) (fun hm=>absurd (hX k hm) (VA.2 hk))⟩,fun w hj=>Glob.high hj,(fun f lb=>rfl),fun f F hF=>by cases hF⟩
 . have key:∀l,qB l->wq l f=some F->cm f F:=by
    intro l
    induction l with
    |nil=>intro _ h;cases h
    | cons p l ih=>
      intro h hF;simp only[wq] at hF;split at hF
      . rename_i e;cases hF;exact e▸h.1
      . exact ih h.2 hF
   exact key l h hF
 . have key:∀l,yl l->ba l f=some F->Gw f F:=by
    intro l
    induction l with
    |nil=>intro _ h;cases h
    | cons p l ih=>
      intro h hF;simp only[ba] at hF;split at hF
      . rename_i e;cases hF;exact e▸h.1
      . exact ih h.2 hF
   exact key lp hp hF
theorem Es (l:List (Nat×(List V->Option V))) (M:Nat->Bool) (lp:List (Nat×(List V->Option (V×List (List V))))) (h:qB l) (hp:yl lp):EnvOK (fK l M lp):=ic l M lp _ _ h hp
theorem oO (l:List (Nat×(List V->Option V))) (M:Nat->Bool) (h:qB l):EnvOK (b9 l M):=Es l M [] h trivial
theorem aV (l:List (Nat×(List V->Option V))) (h:qB l):EnvOK (ar l):=oO l _ h
theorem lL (l:List (Nat×(List V->Option V))) (M:Nat->Bool) (lp:List (Nat×(List V->Option (V×List (List V))))) (MB any:Nat->Bool) (u:V):gx (br l M lp MB any) u=none:=by unfold gx;split<;>rfl
theorem Hn (l:List (Nat×(List V->Option V))) (M:Nat->Bool) (lp:List (Nat×(List V->Option (V×List (List V))))) (u:V):gx (fK l M lp) u=none:=lL _ _ _ _ _ u
theorem Ho (l:List (Nat×(List V->Option V))) (M:Nat->Bool) (u:V):gx (b9 l M) u=none:=lL _ _ _ _ _ u
theorem Hp (l:List (Nat×(List V->Option V))) (u:V):gx (ar l) u=none:=lL _ _ _ _ _ u
theorem Hq (l:List (Nat×(List V->Option V))) (any:Nat->Bool) (u:V):gx (gK l any) u=none:=lL _ _ _ _ _ u
noncomputable def cZ (G:Nat->V) (X:FuncId->List Value->Option (List V->Option (V×List (List V)))) (xk:Nat):Env:=⟨Try.prog,fun _=>none,G,Glob,fun _=>false,fun _=>none,dJ,fun _=>false,fun _=>false,X,xk,fun _=>none,fun _=>false,fun _=>false⟩
section
variable (G:Nat->V) (X:FuncId->List Value->Option (List V->Option (V×List (List V)))) (xk:Nat) (f:FuncId) (u:V) (d:Option Nat) (cs:List V) (st:St) (b:Nat->Option (List V)) (k s:Nat) (p:V)
theorem Et (d:Option Tmp):(cZ G X xk).fzO d=false:=by cases d<;>rfl
theorem Hr:(cZ G X xk).P=Try.prog:=rfl
theorem Hs:(cZ G X xk).F=fun _=>none:=rfl
theorem Eu:(cZ G X xk).FP=fun _=>none:=rfl
theorem Ev:(cZ G X xk).FM=fun _=>none:=rfl
theorem Ht:(cZ G X xk).G=G:=rfl
theorem Ew:(cZ G X xk).MB=fun _=>false:=rfl
theorem Bd (i:Nat):(cZ G X xk).any i=false:=rfl
theorem Be:(cZ G X xk).own d=false:=by cases d<;>rfl
theorem Hu:(cZ G X xk).X=X:=rfl
theorem Ex:(cZ G X xk).xk=xk:=rfl
theorem Ey (lb:Array Value):gx (cZ G X xk) (.x (.func (.func f) #[] lb))=X f lb.toList:=rfl
theorem Bf:gx (cZ G X xk) (.x (.func (.func f) #[] #[]))=X f []:=rfl
theorem Hv:wipe (cZ G X xk) st=st:=rfl
theorem Bg:aC (cZ G X xk) k b=b:=rfl
theorem Hw:(cZ G X xk).kept s u=u.bare:=rfl
theorem Mu:(cZ G X xk).okS s u=true:=rfl
theorem Mv:(cZ G X xk).okN d cs=true:=by cases d<;>rfl
theorem Ez:(cZ G X xk).keepL p u=u.bare:=by cases p<;>rfl
end
theorem wt (G:Nat->V) (X:FuncId->List Value->Option (List V->Option (V×List (List V)))) (xk:Nat) (h1:1000<=xk) (pm:Pm) (bk:Nat) (hb:pm.b (cZ G X xk).xk=bk) (h:∀f lb F,(cZ G X xk).X f lb=some F->FunX (cZ G X xk) bk f lb F):EnvX (cZ G X xk) pm:=
 ⟨(fun f F e=>by cases e),(fun f F e=>by cases e),fun X w w' hX hj hb=>Glob.low hj hb.size ⟨hb.os,hb.tape,hb.output,hb.size,fun k hk=>hb.block k (To hk (Glob.high hj)) (fun hm=>absurd (hX k hm) (VA.2 hk))⟩,(fun w hj=>Glob.high hj),(fun f lb F e=>⟨h1,by rw[hb];exact h f lb F e⟩),.inl (fun _=>rfl),fun f F hF=>by cases hF⟩
def Bh (f:FuncId) (F:List V->Option (List V×List V)):Prop:=FunM (ar []) f F
def EA:List (Nat×(List V->Option (List V×List V)))->Prop
 |[]=>True
 |p::l=>Bh p.1 p.2∧EA l
def Gx:List (Nat×(List V->Option (List V×List V)))->Nat->Option (List V->Option (List V×List V))
 |[],_=>none
 |(k,F)::l,i=>if k=i then some F else Gx l i
noncomputable def dZ (l:List (Nat×(List V->Option V))) (lp:List (Nat×(List V->Option (V×List (List V))))) (lm:List (Nat×(List V->Option (List V×List V)))) (lit any:Nat->Bool):Env:=⟨Try.prog,wq l,fun _=> .undef,Glob,lit,ba lp,dJ,fun _=>false,any,fun _ _=>none,0,Gx lm,lit,fun _=>false⟩
section
variable (l:List (Nat×(List V->Option V))) (lp:List (Nat×(List V->Option (V×List (List V))))) (lm:List (Nat×(List V->Option (List V×List V)))) (lit any:Nat->Bool) (u:V) (d:Option Nat) (cs:List V) (st:St) (b:Nat->Option (List V)) (k s:Nat) (p:V)
theorem EB (d:Option Tmp):(dZ l lp lm lit any).fzO d=false:=by cases d<;>rfl
theorem Hx:(dZ l lp lm lit any).P=Try.prog:=rfl
theorem Hy:(dZ l lp lm lit any).F=wq l:=rfl
theorem EC:(dZ l lp lm lit any).FP=ba lp:=rfl
theorem ED:(dZ l lp lm lit any).FM=Gx lm:=rfl
theorem Hz:(dZ l lp lm lit any).G=fun _=> .undef:=rfl
theorem EE:(dZ l lp lm lit any).MB=fun _=>false:=rfl
theorem Bi:(dZ l lp lm lit any).any=any:=rfl
theorem Bj (d:Nat):(dZ l lp lm lit any).own (some d)=lit d:=rfl
theorem ym:(dZ l lp lm lit any).own none=false:=rfl
theorem Bl (d:Nat):(dZ l lp lm lit any).litD (some d)=lit d:=rfl
theorem qC:(dZ l lp lm lit any).plain=gK l any:=rfl
theorem HA:gx (dZ l lp lm lit any) u=none:=by unfold gx;split<;>rfl
theorem HB:wipe (dZ l lp lm lit any) st=st:=rfl
theorem Bm:aC (dZ l lp lm lit any) k b=b:=rfl
theorem HC:(dZ l lp lm lit any).kept s u=u.bare:=rfl
theorem Mw:(dZ l lp lm lit any).okS s u=true:=rfl
theorem Mx:(dZ l lp lm lit any).okN d cs=true:=by cases d<;>rfl
theorem EF:(dZ l lp lm lit any).keepL p u=u.bare:=by cases p<;>rfl
end
theorem jt (l:List (Nat×(List V->Option V))) (lp:List (Nat×(List V->Option (V×List (List V))))) (lm:List (Nat×(List V->Option (List V×List V)))) (lit any:Nat->Bool) (h:qB l) (hp:yl lp) (hq:EA lm):EnvOK (dZ l lp lm lit any):=by
 have h0:=ic l (fun _=>false) lp (fun _=>false) any h hp;refine⟨h0.fn,h0.fnP,h0.keep,h0.high,h0.noX,fun f F hF=>?_⟩;have key:∀l,EA l->Gx l f=some F->Bh f F:=by
  intro l
  induction l with
  |nil=>intro _ h;cases h
  | cons p l ih=>
    intro h hF;simp only[Gx] at hF;split at hF
    . rename_i e;cases hF;exact e▸h.1
    . exact ih h.2 hF
 exact key lm hq hF
noncomputable def eM (l:List (Nat×(List V->Option V))) (lp:List (Nat×(List V->Option (V×List (List V))))) (lm:List (Nat×(List V->Option (List V×List V)))) (M lit fz any:Nat->Bool):Env:=⟨Try.prog,wq l,fun _=> .undef,Glob,M,ba lp,dJ,fun _=>false,any,fun _ _=>none,0,Gx lm,lit,fz⟩
section
variable (l:List (Nat×(List V->Option V))) (lp:List (Nat×(List V->Option (V×List (List V))))) (lm:List (Nat×(List V->Option (List V×List V)))) (M lit fz any:Nat->Bool) (u:V) (d:Option Nat) (cs:List V) (st:St) (b:Nat->Option (List V)) (k s:Nat) (p:V)
theorem HD:(eM l lp lm M lit fz any).P=Try.prog:=rfl
theorem HE:(eM l lp lm M lit fz any).F=wq l:=rfl
theorem EG:(eM l lp lm M lit fz any).FP=ba lp:=rfl
theorem EH:(eM l lp lm M lit fz any).FM=Gx lm:=rfl
theorem HF:(eM l lp lm M lit fz any).G=fun _=> .undef:=rfl
theorem EI:(eM l lp lm M lit fz any).MB=fun _=>false:=rfl
theorem Bn:(eM l lp lm M lit fz any).any=any:=rfl
theorem Bo (d:Nat):(eM l lp lm M lit fz any).own (some d)=M d:=rfl
theorem yn:(eM l lp lm M lit fz any).own none=false:=rfl
theorem Bp (d:Nat):(eM l lp lm M lit fz any).litD (some d)=lit d:=rfl
theorem EJ (d:Nat):(eM l lp lm M lit fz any).fzO (some d)=fz d:=rfl
theorem Bq:(eM l lp lm M lit fz any).fzO none=false:=rfl
theorem qD:(eM l lp lm M lit fz any).plain=gK l any:=rfl
theorem HG:gx (eM l lp lm M lit fz any) u=none:=by unfold gx;split<;>rfl
theorem HH:wipe (eM l lp lm M lit fz any) st=st:=rfl
theorem Br:aC (eM l lp lm M lit fz any) k b=b:=rfl
theorem HI:(eM l lp lm M lit fz any).kept s u=u.bare:=rfl
theorem My:(eM l lp lm M lit fz any).okS s u=true:=rfl
theorem Mz:(eM l lp lm M lit fz any).okN d cs=true:=by cases d<;>rfl
theorem EK:(eM l lp lm M lit fz any).keepL p u=u.bare:=by cases p<;>rfl
end
theorem wu (l:List (Nat×(List V->Option V))) (lp:List (Nat×(List V->Option (V×List (List V))))) (lm:List (Nat×(List V->Option (List V×List V)))) (M lit fz any:Nat->Bool) (h:qB l) (hp:yl lp) (hq:EA lm):EnvOK (eM l lp lm M lit fz any):=by have h0:=jt l lp lm lit any h hp hq;exact⟨h0.fn,h0.fnP,h0.keep,h0.high,h0.noX,h0.fnM⟩
theorem nE {m:Lim} {w:World}:∀{vs:List Value} {us:List V} {xs:List Value},RdL m w vs us->us.mapM V.one=some xs->vs=xs
 |[],[],xs,_,h=>by simp at h;exact h.symm
 | v ::vs,u::us,xs,hr,h=>by
   rw[UO] at h;cases u with
   | x u=>
     simp only[V.one,Vc,US,TZ] at h;cases hm:us.mapM V.one with
     |none=>rw[hm] at h;cases h
     |some r=>rw[hm] at h;cases h;rw[nE hr.2 hm,Rd.x_iff.1 hr.1]
   |_=>simp[V.one] at h
variable {m:Lim} {w:World}
theorem HJ {v x:Value} {u:V} (h:Rd m w v u) (hu:u.val=some x):v=x:=by
 cases u with
 |x u=>cases hu;exact Rd.x_iff.1 h
 |agg cs=>obtain⟨a,rfl,hr⟩:=Rd.agg_iff.1 h;simp only[V.val,SY] at hu;obtain⟨l,hl,rfl⟩:=hu;have:=nE hr hl;rw[<-this]
 |_=>simp[V.val] at hu
theorem wv {m:Lim} {w:World}:∀{vs:List Value} {us:List V} {xs:List Value},RdL m w vs us->us.map V.val=xs.map some->vs=xs
 |[],[],[],_,_=>rfl
 |[],[],_::_,_,h=>by simp at h
 |v::vs,u::us,[],_,h=>by simp at h
 |v::vs,u::us,x::xs,hr,h=>by simp only[Tv,Tr] at h;rw[HJ hr.1 h.1,wv hr.2 h.2]
variable {us:List V}
theorem ww {vs:Array Value} {xs:List Value} (hr:RdL m w vs.toList us) (h:us.map V.val=xs.map some):vs=xs.toArray:=by rw[<-wv hr h]
abbrev vl (k n:Int) (s:ByteArray):V:= .agg [.x (.int .i64 k),.x (.int .i64 n),.x (.string s)]
variable {s i:Nat} {t:Nat->V}
theorem bG {v:V} (hv:v.nm≠some s) (h:noPtrTo s t):noPtrTo s (ay t i v)=True:=by
 refine eq_true (fun j=>?_);rw[aB];split
 . exact hv
 . exact h j
theorem RG (b:Bool):(b==true)=b:=by cases b<;>rfl
theorem RH (b:Bool):(b==false)= !b:=by cases b<;>rfl
theorem MA (b:Bool):(true==b)=b:=by cases b<;>rfl
theorem MC (b:Bool):(false==b)= !b:=by cases b<;>rfl
section
variable {s i:Nat} {t:Nat->V}
theorem RI {v:Value} (h:noPtrTo s t):noPtrTo s (ay t i (.x v)):=by rw[bG (by simp) h];trivial
variable {v:List V}
theorem HK (h:noPtrTo s t):noPtrTo s (ay t i (.agg v)):=by rw[bG (by simp) h];trivial
theorem HL (h:noPtrTo s t):noPtrTo s (ay t i (.tup v)):=by rw[bG (by simp) h];trivial
variable {z:Nat}
theorem MD {a:Bool} {c:Option Nat} (h:noPtrTo s t):noPtrTo s (ay t i (.sl a z v c)):=by rw[bG (by simp) h];trivial
theorem ME (h:noPtrTo s t):noPtrTo s (ay t i (.ip v)):=by rw[bG (by simp) h];trivial
theorem Bt (h:noPtrTo s t):noPtrTo s (ay t i .undef):=by rw[bG (by simp) h];trivial
variable {s':Nat}
theorem HM {off:Nat} (h:noPtrTo s t) (hne: ¬s=s'):noPtrTo s (ay t i (.ptr s' off)):=by rw[bG (by simp[Ux hne]) h];trivial
theorem HN {l:Nat} (h:noPtrTo s t) (hne: ¬s=s'):noPtrTo s (ay t i (.row s' z l)):=by rw[bG (by simp[Ux hne]) h];trivial
end
variable {k:Nat}
theorem Bu (h:noPtrTo s t):noPtrTo s (strip k t):=by intro i;rw[jr];exact h i
theorem EM (h:noPtrTo s t):noPtrTo s (kill k t):=fun i=>oJ _ _ _ _ (h i)
theorem Bv (k:Nat) (t:Nat->V) (i:Nat):strip k t i=bK k (t i):=by unfold strip;exact Eq.refl _
theorem Bw (k:Nat) (v:Value):bK k (.x v)= .x v:=aQ _ _
theorem uf (k:Nat) (v:List V):bK k (.agg v)= .agg v:=aQ _ _
theorem ug (k:Nat) (v:List V):bK k (.tup v)= .tup v:=aQ _ _
theorem yp (k:Nat) (v:List V):bK k (.ip v)= .ip v:=aQ _ _
theorem uh (k s o:Nat):bK k (.ptr s o)= .ptr s o:=aQ _ _
theorem ui (k s z l:Nat):bK k (.row s z l)= .row s z l:=aQ _ _
theorem EN (k:Nat) (t:Nat->V) (i:Nat):kill k t i=dR k (t i):=by unfold kill;exact Eq.refl _
theorem EO (k:Nat) (v:Value):dR k (.x v)= .x v:=cz _ _
theorem yq (k:Nat) (v:List V):dR k (.agg v)= .agg v:=cz _ _
theorem yu (k:Nat) (v:List V):dR k (.tup v)= .tup v:=cz _ _
theorem Bx (k:Nat) (v:List V):dR k (.ip v)= .ip v:=cz _ _
theorem By (k:Nat) (nl:Bool) (sz:Nat) (es:List V) (t:Option Nat):dR k (.sl nl sz es t)= .sl nl sz es t:=cz _ _
theorem yw (k:Nat) (t:TypeId):dR k (.dyn t)= .dyn t:=cz _ _
theorem qE (k:Nat):dR k .undef= .undef:=cz _ _
theorem yx (k s o:Nat):dR k (.ptr s o)=if s=k then .undef else .ptr s o:=cz _ _
theorem yy (k s z l:Nat):dR k (.row s z l)=if s=k then .undef else .row s z l:=cz _ _
theorem Bz (k:Nat) (ks vs:List V):dR k (.fm ks vs)= .fm ks vs:=cz _ _
theorem yz (k:Nat) (ks vs:List V):bK k (.fm ks vs)= .fm ks vs:=aQ _ _
variable {vs:List V}
theorem MF {ks:List V} (h:noPtrTo s t):noPtrTo s (ay t i (.fm ks vs)):=by rw[bG (by simp) h];trivial
attribute [go_sem] Bz yz MF kK Ai IM
theorem uj (k:Nat) (t:TypeId):bK k (.dyn t)= .dyn t:=aQ _ _
theorem HO {d:TypeId} (h:noPtrTo s t):noPtrTo s (ay t i (.dyn d)):=by rw[bG (by simp) h];trivial
theorem oP (k:Nat):bK k .undef= .undef:=aQ _ _
theorem qF (k:Nat) (nl:Bool) (sz:Nat) (es:List V):bK k (.sl nl sz es none)= .sl nl sz es none:=aQ _ _
theorem qG (k s:Nat) (nl:Bool) (sz:Nat) (es:List V):bK k (.sl nl sz es (some s))= .sl nl sz es (if s=k then none else some s):=aQ _ _
theorem qH:noPtrTo s (fun _=> .undef)=True:=eq_true (fun _ h=>by cases h)
theorem EP:start []=⟨fun _=> .undef,fun _=>none⟩:=rfl
theorem EQ (u0:V):start [u0]=⟨ay (fun _=> .undef) 0 u0,fun _=>none⟩:=rfl
theorem ER (u0 u1:V):start [u0,u1]=⟨ay (ay (fun _=> .undef) 1 u1) 0 u0,fun _=>none⟩:=rfl
theorem ET (u0 u1 u2:V):start [u0,u1,u2]=⟨ay (ay (ay (fun _=> .undef) 2 u2) 1 u1) 0 u0,fun _=>none⟩:=rfl
theorem EU (u0 u1 u2 u3:V):start [u0,u1,u2,u3]=⟨ay (ay (ay (ay (fun _=> .undef) 3 u3) 2 u2) 1 u1) 0 u0,fun _=>none⟩:=rfl
theorem EV (u0 u1 u2 u3 u4:V):start [u0,u1,u2,u3,u4]=⟨ay (ay (ay (ay (ay (fun _=> .undef) 4 u4) 3 u3) 2 u2) 1 u1) 0 u0,fun _=>none⟩:=rfl
theorem EW (u0 u1 u2 u3 u4 u5:V):start [u0,u1,u2,u3,u4,u5]=⟨ay (ay (ay (ay (ay (ay (fun _=> .undef) 5 u5) 4 u4) 3 u3) 2 u2) 1 u1) 0 u0,fun _=>none⟩:=rfl
attribute [go_sem] AH tZ AI DX AJ xZ qo x7 AK DY qp AL x8 mS t8 gJ uc qs xO tI pV tJ tK pZ oF cg db dS aH ev dq EP EQ ER ET EU EV EW St.put aB tf tb td ot IT pA eJ jl ft cN np V.notPtr V.dat V.cell V.cells ji jN gI isA I0 ew oL gb RI HK HL MD ME Bt HM qH wq dg Ee Ef ce
attribute [go_sem] xE jg uj HO DA dh cL cx kI k9 dK cT s8 oo s9 DC nj xx Ag xy xz pu Aj Am wd wf Bv Bw uf ug yp uh oP qF qG Bu bytesOf
attribute [go_sem] ite_true ite_false true_implies and_true true_and and_self reduceCtorEq false_implies if_true if_false List.getElem?_toArray List.getElem?_cons_succ List.getElem?_cons_zero Option.bind_some Option.map_some List.map_cons List.map_nil List.all_cons List.all_nil Bool.and_self Bool.true_and Bool.and_true Bool.false_eq_true List.length_cons List.length_nil List.take_succ_cons List.take_zero List.drop_succ_cons List.drop_zero List.cons_append List.nil_append List.mapM_cons List.mapM_nil Option.pure_def Option.bind_eq_bind Option.isNone_none ne_eq not_true_eq_false not_false_eq_true or_self or_false false_or gt_iff_lt ge_iff_le Nat.lt_irrefl Nat.not_lt_zero Nat.le_refl beq_self_eq_true Bool.not_true Bool.not_false Bool.true_eq_false cond_true cond_false List.toList_toArray Nat.zero_le decide_true decide_false imp_self implies_true forall_const List.take_nil List.drop_nil and_false false_and Nat.zero_add Nat.add_zero Bool.true_or Bool.or_true Bool.false_or Bool.or_false Bool.and_false Bool.false_and true_or or_true BEq.rfl
attribute [go_sem 500] cO.eq_1
theorem yA (k:List Nat) (t:Nat->V) (i:Nat):fu k t i=bF k (t i):=by unfold fu;exact Eq.refl _
theorem BC (k:List Nat) (v:Value):bF k (.x v)= .x v:=bO _ _
theorem uk (k:List Nat) (v:List V):bF k (.agg v)= .agg v:=bO _ _
theorem ul (k:List Nat) (v:List V):bF k (.tup v)= .tup v:=bO _ _
theorem yB (k:List Nat) (v:List V):bF k (.ip v)= .ip v:=bO _ _
theorem yC (k:List Nat) (nl:Bool) (sz:Nat) (es:List V) (t:Option Nat):bF k (.sl nl sz es t)= .sl nl sz es t:=bO _ _
theorem yD (k:List Nat) (ks vs:List V):bF k (.fm ks vs)= .fm ks vs:=bO _ _
attribute [go_sem] yD
theorem um (k:List Nat) (t:TypeId):bF k (.dyn t)= .dyn t:=bO _ _
theorem oQ (k:List Nat):bF k .undef= .undef:=bO _ _
theorem un (k:List Nat) (s o:Nat):bF k (.ptr s o)= .ptr s o:=bO _ _
theorem uo (k:List Nat) (s z l:Nat):bF k (.row s z l)=if k.contains s=true then .undef else .row s z l:=bO _ _
theorem yE {k:List Nat} (h:noPtrTo s t):noPtrTo s (fu k t):=fun i=>by
 rcases eD k (t i) with⟨e,_⟩|e
 . show(bF k (t i)).nm≠_;rw[e];exact h i
 . show(bF k (t i)).nm≠_;rw[e];simp
theorem yF (us:List V):cY us=⟨fg 0 us,cH 0 us⟩:=rfl
attribute [go_sem] G3 G4 Ea G5 A0 qz Ec A4 ba callP An IW bi pI yA BC uk ul yB yC um oQ un uo yE yF fg cH js AN di kq dl ns
variable {s':Nat}
theorem MG {ks:List V} (h:noPtrTo s t) (hne: ¬s=s'):noPtrTo s (ay t i (.mp s' ks vs)):=by rw[bG (by simp[Ux hne]) h];trivial
theorem yG (k s:Nat) (ks vs:List V):bK k (.mp s ks vs)= .mp s ks vs:=aQ _ _
theorem qI (k s:Nat) (ks vs:List V):dR k (.mp s ks vs)=if s=k then .undef else .mp s ks vs:=cz _ _
theorem yH (k:List Nat) (s:Nat) (ks vs:List V):bF k (.mp s ks vs)= .mp s ks vs:=bO _ _
theorem EX (s:Nat) (ks vs:List V) (t:Nat->V) (i:Nat):mO s ks vs t i=cG s ks vs (t i):=by unfold mO;exact Eq.refl _
section
variable (s:Nat) (ks vs:List V)
theorem EY (v:Value):cG s ks vs (.x v)= .x v:=bY _ _ _ _
theorem yI (v:List V):cG s ks vs (.agg v)= .agg v:=bY _ _ _ _
theorem yJ (v:List V):cG s ks vs (.tup v)= .tup v:=bY _ _ _ _
theorem BD (v:List V):cG s ks vs (.ip v)= .ip v:=bY _ _ _ _
theorem BE (nl:Bool) (sz:Nat) (es:List V) (t:Option Nat):cG s ks vs (.sl nl sz es t)= .sl nl sz es t:=bY _ _ _ _
theorem BF (ks' vs':List V):cG s ks vs (.fm ks' vs')= .fm ks' vs':=bY _ _ _ _
attribute [go_sem] BF
theorem yK (t:TypeId):cG s ks vs (.dyn t)= .dyn t:=bY _ _ _ _
theorem qJ:cG s ks vs .undef= .undef:=bY _ _ _ _
theorem yL (k o:Nat):cG s ks vs (.ptr k o)= .ptr k o:=bY _ _ _ _
theorem yM (k z l:Nat):cG s ks vs (.row k z l)= .row k z l:=bY _ _ _ _
theorem BG (s':Nat) (ks' vs':List V):cG s ks vs (.mp s' ks' vs')=if s'=s then .mp s ks vs else .mp s' ks' vs':=bY _ _ _ _
end
theorem EZ {ks:List V} (h:noPtrTo s t):noPtrTo s (mO k ks vs t):=fun i=>by
 show(cG k ks vs (t i)).nm≠_;rcases dU k ks vs (t i) with e|⟨⟨ks',vs',e1⟩,e⟩
 . rw[e];exact h i
 . rw[e];have:=h i;rw[e1] at this;exact this
attribute [go_sem] kJ Ah MG EZ yG qI yH EX EY yI yJ BD BE yK qJ yL yM BG
def MH:Option (List V)->V
 |some cs=> .bx cs
 |none=> .undef
section
variable (b:Nat->Option (List V)) (st:St) (E:Env)
theorem BH (s:Nat):eK b (.ptr s 0)=MH (b s):=by show(match b s with|some cs=>V.bx cs|none=> .undef)=_;cases b s<;>rfl
theorem HR (v:Value):eK b (.x v)= .x v:=dh v
theorem qK (v:List V):eK b (.agg v)= .agg v:=cL v
theorem E0 (v:List V):eK b (.ip v)= .ip v:=kI v
theorem E1 (ks vs:List V):eK b (.fm ks vs)= .fm ks vs:=kK ks vs
attribute [go_sem] E1
theorem BI (t:TypeId):eK b (.dyn t)= .dyn t:=jg t
theorem up:eK b .undef= .undef:=dK
theorem E2 (s:Nat) (ks vs:List V):eK b (.mp s ks vs)= .mp 0 ks vs:=rfl
theorem E3 (s:Nat) (ks vs:List V):(V.mp s ks vs).datP=true:=rfl
theorem E4 (nl:Bool) (sz:Nat) (es:List V) (t:Option Nat):eK b (.sl nl sz es t)=tt nl sz es t:=rfl
def oR (sz:Nat) (es:List V):V:=tt es.isEmpty sz es (some 0)
theorem BJ (sz:Nat) (es:List V) (k:Nat):tt es.isEmpty sz es (some k)=oR sz es:=by unfold oR;cases es<;>rfl
theorem BK (sz:Nat) (es:List V) (t:Option Nat):tt true sz es t=oR 1 []:=rfl
theorem yN (sz:Nat) (es:List V):tt false sz es none= .sl false sz es none:=rfl
theorem yO (sz:Nat) (es:List V) (x:V) (k:Nat):tt false sz (es++[x]) (some k)=oR sz (es++[x]):=by unfold oR;cases es<;>rfl
theorem E5 (cs:List V):(V.bx cs).datP=true:=rfl
theorem HS (v:Value):(V.x v).datP=(V.x v).dat:=rfl
theorem BL (v:List V):(V.agg v).datP=true:=rfl
theorem BM (v:List V):(V.tup v).datP=false:=rfl
theorem E6 (v:List V):(V.ip v).datP=true:=rfl
theorem E7 (ks vs:List V):(V.fm ks vs).datP=true:=rfl
attribute [go_sem] E7
theorem BN (t:TypeId):(V.dyn t).datP=true:=rfl
theorem uq:V.undef.datP=false:=rfl
theorem E8 (nl:Bool) (sz:Nat) (es:List V):(V.sl nl sz es none).datP=true:=rfl
theorem BO (nl:Bool) (sz k:Nat) (es:List V):(V.sl nl sz es (some k)).datP=true:=rfl
theorem BP (sz:Nat) (es:List V):(oR sz es).datP=true:=by cases es<;>rfl
theorem ur (k sz:Nat) (es us:List V):di k (oR sz es::us) b=di (k+1) us b:=eG (by cases es<;>rfl)
theorem ut (k sz:Nat) (es us:List V) (t:Nat->V):dl k (oR sz es::us) t=dl (k+1) us t:=eF (by cases es<;>rfl)
theorem yP (nl:Bool) (sz:Nat) (es:List V) (t:Option Nat) (l:List V):bi (.sl nl sz es t::l)=bi l:=rfl
theorem BQ (d k sz:Nat) (nl:Bool) (es:List V):iA E st (some d) (.sl nl sz es (some k))=⟨ay (strip d st.t) d (.sl nl sz es (some d)),aC E d st.b⟩:=rfl
theorem E9 (r:V):iA E st none r=st:=by unfold iA;rfl
theorem HT (d:Nat) (v:Value):iA E st (some d) (.x v)=st.put (some d) (.x v):=by show st.put (some d) (V.x v).bare=_;rw[dh]
theorem qL (d:Nat) (v:List V):iA E st (some d) (.agg v)=st.put (some d) (.agg v):=by show st.put (some d) (V.agg v).bare=_;rw[cL]
theorem BR (d:Nat) (v:List V):iA E st (some d) (.tup v)=st.put (some d) (.tup v):=by show st.put (some d) (V.tup v).bare=_;rw[cx]
theorem Fa (d:Nat) (ks vs:List V):iA E st (some d) (.fm ks vs)=st.put (some d) (.fm ks vs):=by show st.put (some d) (V.fm ks vs).bare=_;rw[kK]
attribute [go_sem] Fa
theorem BS (d:Nat) (t:TypeId):iA E st (some d) (.dyn t)=st.put (some d) (.dyn t):=by show st.put (some d) (V.dyn t).bare=_;rw[jg]
theorem Fb (d:Nat) (v:List V):iA E st (some d) (.ip v)=st.put (some d) (.ip v):=by show st.put (some d) (V.ip v).bare=_;rw[kI]
theorem BT (d sz:Nat) (nl:Bool) (es:List V):iA E st (some d) (.sl nl sz es none)=st.put (some d) (.sl nl sz es none):=by show st.put (some d) (V.sl nl sz es none).bare=_;rw[cT]
theorem BU (nl:Bool) (sz k:Nat) (es:List V):GV (.sl nl sz es (some k))=some (.sl nl sz es (some 0)):=rfl
theorem qM (k sz:Nat) (es us:List V):cH k (oR sz es::us)=cH (k+1) us:=iX (by cases es<;>rfl)
end
attribute [go_sem] iV qM ur ut E2 E3 cA MH BH HR qK E0 BI up E4 BJ BK yN yO E5 HS BL BM E6 BN uq E8 BO BP yP aX stripL de BQ E9 HT qL BR BS Fb BT BU lF I1
attribute [go_sem] lL Hn Ho Hp Hq Ey Bf Hr Hs Eu Ht Ew Bd Be Hu Ex Hv Bg Hw Mu Mv Ez
attribute [go_sem] xX gH oI IZ DS DT
attribute [go_sem] G6 G7 G8 A3 ue qA yi DH HN EM EN EO yq yu Bx By yw qE yx yy ui la nk List.flatMap_cons List.flatMap_nil List.append_nil
attribute [go_sem] t6 ql iZ G0 DZ G1 D9 AX AY Eb AZ Ed A2 A5 yj qy G9 Ha Eh Hc Ej A6
attribute [go_sem] He Hf Hg A7 A8 A9 Ba Hh Hi Hj Hk Mj Ml Mm Mn Mo Mp Mq Mr Em Eo Ep Er xT tU jT xU oq Ms Hl Mt Hm Ek Bb yk Bc El V.unm V.isSl NB GL IJ IK GM Af
attribute [congr] qn tV qh ub oK qr x9 pX oE pY
theorem Fc:Int.toNat 0=0:=rfl
theorem Fd:Int.toNat 1=1:=rfl
theorem Fe:Int.toNat 2=2:=rfl
theorem Ff:Int.toNat 3=3:=rfl
theorem Fg:Int.toNat 4=4:=rfl
attribute [go_sem] Fc Fd Fe Ff Fg
theorem BV:wh none=true:=rfl
theorem yQ (k:IntKind) (n:Int):wh (some (.x (.int k n)))=true:=rfl
attribute [go_sem] eg D3 D4 D5 AS Eg Et EB EJ Bq HD HE EG EH HF EI Bn Bo yn Bp qD HG HH Br HI My Mz EK DK kL we qI kJ
attribute [go_sem] Gu oN BV yQ Option.map_none Ao Gx D6 D7 D8 AW Ei Ev Hx Hy EC ED Hz EE Bi Bj ym Bl AT AU AV DJ qC HA HB Bm HC Mw Mx EF
abbrev T3:=Int×Int×ByteArray
abbrev tv (r:T3):V:=vl r.1 r.2.1 r.2.2
attribute [go_sem] vl tv RG RH MA MC Bool.not_eq_true' Bool.not_eq_false' Bool.not_not
def bw:List (Nat×V)->Nat->V
 |[]=>fun _=> .undef
 |(i,v)::l=>ay (bw l) i v
def Ab:List (Nat×List V)->Nat->Option (List V)
 |[]=>fun _=>none
 |(i,cs)::l=>ay (Ab l) i (some cs)
def aq (ts:List (Nat×V)) (bs:List (Nat×List V)):St:=⟨bw ts,Ab bs⟩
def gz (st:St):List (Nat×V)->Prop
 |[]=>True
 |(i,v)::l=>st.t i=v∧gz st l
def gy (st:St):List (Nat×List V)->Prop
 |[]=>True
 |(i,v)::l=>st.b i=some v∧gy st l
variable {st:St}
theorem aL {ts:List (Nat×V)} {bs:List (Nat×List V)} (h:gz st ts) (k:gy st bs):Le (aq ts bs) st:=by
 refine⟨fun i=>?_,fun s cs hs=>?_⟩
 . show(bw ts i).le (st.t i)
   induction ts with
   |nil=>exact .inl rfl
   | cons p l ih=>
     simp only[bw,aB];split
     . rename_i e;subst e;exact .inr (.inl h.1.symm)
     . exact ih h.2
 . have hs:Ab bs s=some cs:=hs
   induction bs with
   |nil=>cases hs
   | cons p l ih=>
     simp only[Ab,aB] at hs;split at hs
     . rename_i e;cases hs;subst e;exact⟨_,k.1,eL _⟩
     . exact ih k.2 hs hs
def nF {X:Type} (T:X->List (Nat×V)) (B:X->List (Nat×List V)) (μ:X->Nat) (n:Nat) (st:St):Prop:=∃x',gz st (T x')∧gy st (B x')∧μ x'<n
def lM {X:Type} (T:X->List (Nat×V)) (B:X->List (Nat×List V)) (μ:X->Nat) (n:Nat) (K:Out->St->Prop):Out->St->Prop
 | .normal,st=>nF T B μ n st
 | .ret,st=>K .ret st
 | .exit id,st=>K (.exit id) st
section
variable {X:Type} (T:X->List (Nat×V)) (B:X->List (Nat×List V)) (μ:X->Nat) (n:Nat) (K:Out->St->Prop) (st:St)
theorem oS:lM T B μ n K .normal st=nF T B μ n st:=rfl
theorem yR:lM T B μ n K .ret st=K .ret st:=rfl
theorem uu (id:Nat):lM T B μ n K (.exit id) st=K (.exit id) st:=rfl
theorem qN {st':St} (h:st=st'):nF T B μ n st=nF T B μ n st':=by rw[h]
theorem qO {o o':Out} (h:o=o'):lM T B μ n K o st=lM T B μ n K o' st:=by rw[h]
end
variable {E:Env} {a:Code} {X:Type}
theorem bu {K:Out->St->Prop} (T:X->List (Nat×V)) (B:X->List (Nat×List V)) (μ:X->Nat) (x0:X) (h0:gz st (T x0)) (h0':gy st (B x0))
 (h:∀x,run E a (aq (T x) (B x)) (lM T B μ (μ x) K)):qk (run E a) st K:=by
 refine⟨X,fun x=>aq (T x) (B x),μ,x0,aL h0 h0',fun x=>?_⟩;have:=h x
 have e:∀o st',lM T B μ (μ x) K o st'->(match o with
  | .normal=>∃x',Le (aq (T x') (B x')) st'∧μ x'<μ x
  |o=>K o st'):=by
  intro o st' hk;cases o with
  |normal=>obtain⟨x',h1,h2,h3⟩:=hk;exact⟨x',aL h1 h2,h3⟩
  |ret=>exact hk
  |exit id=>exact hk
 exact qt e this
def i6:List (Nat×Nat×Nat×V)->Nat->List (Nat×V)
 |[],_=>[]
 |(need,forb,s,v)::r,L=>if L&&&need=need∧L&&&forb=0 then (s,v)::i6 r L else i6 r L
theorem BW (L:Nat):i6 [] L=[]:=rfl
theorem yS (need forb s L:Nat) (v:V) (r:List (Nat×Nat×Nat×V)):i6 ((need,forb,s,v)::r) L=if L&&&need=need∧L&&&forb=0 then (s,v)::i6 r L else i6 r L:=rfl
def HU (E:Env) (ops:List Oper) (ts:List (Nat×V)) (bs:List (Nat×List V)) (st:St):Option Oper->Prop
 |some o=>bg E ⟨ops⟩ [o] st fun st'=>gz st' ts∧gy st' bs
 |none=>False
def yT (E:Env) (ops:List Oper) (ents:List (Nat×Nat×Nat×V)) (bs:List (Nat×List V)):List (Nat×Nat×Nat)->Prop
 |[]=>True
 |(L,i,L')::r=>HU E ops (i6 ents L') bs (aq (i6 ents L) bs) ops[i]?∧yT E ops ents bs r
theorem BY (E:Env) (ops:List Oper) (ents:List (Nat×Nat×Nat×V)) (bs:List (Nat×List V)):yT E ops ents bs []=True:=rfl
theorem nG (E:Env) (ops:List Oper) (ents:List (Nat×Nat×Nat×V)) (bs:List (Nat×List V)) (L i L':Nat) (r:List (Nat×Nat×Nat)):yT E ops ents bs ((L,i,L')::r)=(HU E ops (i6 ents L') bs (aq (i6 ents L) bs) ops[i]?∧yT E ops ents bs r):=rfl
theorem nH (E:Env) (ops:List Oper) (ts:List (Nat×V)) (bs:List (Nat×List V)) (st:St) (o:Oper):HU E ops ts bs st (some o)=bg E ⟨ops⟩ [o] st fun st'=>gz st' ts∧gy st' bs:=rfl
theorem Fh {ops:List Oper} {K:St->Prop} (ents:List (Nat×Nat×Nat×V)) (bs:List (Nat×List V)) (ps:List (Nat×Nat×Nat)) (h:iF ops ps=true) (h0:gz st (i6 ents 0)∧gy st bs) (ht:yT E ops ents bs ps)
 (hk:K (aq (i6 ents (2^ops.length-1)) bs)):DW E ops st K:=by
 refine .inr ⟨fun L=>aq (i6 ents L) bs,ps,h,aL h0.1 h0.2,?_,hk⟩;clear h
 induction ps with
 |nil=>trivial
 | cons p r ih=>
   obtain⟨L,i,L'⟩:=p;rw[nG] at ht;refine⟨?_,ih ht.2⟩;have h1:=ht.1;cases ho:ops[i]? with
   |none=>rw[ho] at h1;exact h1.elim
   |some o=>rw[ho,nH] at h1;obtain⟨st',hs,hl,hb⟩:=cj _ _ h1;exact⟨st',hs,aL hl hb⟩
theorem BZ {K:Out->St->Prop} (i n tok:Nat) {n0:Nat} {k0:Option Nat} (h:st.t i= .sl true n0 [] k0)
 (hr:qk (run E a) ⟨ay st.t i (.sl true n [] (some tok)),st.b⟩ K):qk (run E a) st K:=by
 obtain⟨X,I,μ,x0,h0,hx⟩:=hr;refine⟨X,I,μ,x0,⟨fun j=>?_,h0.b⟩,hx⟩;have:=h0.t j;simp only[aB] at this;split at this
 . rename_i e;subst e;rw[h];rcases this with e|e|⟨n1,k1,n2,k2,e,_⟩
   . exact .inl e
   . exact .inr (.inr ⟨_,_,_,_,e,rfl⟩)
   . exact .inr (.inr ⟨_,_,_,_,e,rfl⟩)
 . exact this
variable {el n by':Nat}
theorem jV {z:List V} (h1:aY E.P el=some n) (hby:bv E.P el=some by') (hz:av E.P el=some z) (h4:n≠0) (h5:z.length=n)
 {es:List V} {v:V} (hc:v.cells.all V.cell=true) (hb:(es.length+1)*by'<=140737488355328) (hl:es.length+1<=9223372036854775807) (st:St) (d tok:Nat) (nl:Bool) (t':Option Nat):
 cO E st (some d) el (.sl es.isEmpty n es (some tok)) (.sl nl n [v] t')=some ⟨ay (strip tok (strip d st.t)) d (.sl false n (es++[v]) (some d)),aC E tok (aC E d st.b)⟩:=by
 unfold cO;simp only[h1,hby,hz];cases es with
 |nil=>simp only[List.isEmpty_nil,T1];rw[S4 ⟨h4,h5,.inl trivial,by simp only[TO,hc,VK,UZ],by simpa using hb,by simp⟩];rfl
 |cons e es=>simp only[List.isEmpty_cons];rw[S4 ⟨h4,h5,trivial,.inl trivial,by simp only[TO,hc,VK,UZ],hb,hl⟩]
variable {α:Type}
theorem uv (l:List α) (x:α):(l++[x]).isEmpty=false:=by cases l<;>rfl
attribute [go_sem] px py uv
attribute [go_sem] BW yS nH BY nG
attribute [go_sem] bw Ab aq gz gy Int.le_refl Int.lt_irrefl oS yR uu qo
attribute [congr] qO qN
theorem MI (x:Int):aw .i64 x=wrap64 x:=(fC _ _).trans (IntWalk.i64_left x)
theorem ak {x:Int} (h:bX x):aw .i64 x=x:=(MI x).trans (yh h)
theorem bp (h:i<9223372036854775807):aw .i64 ((i:Int)+1)=((i+1:Nat):Int):=by rw[ak (by unfold bX;omega)];omega
theorem uw (a:Nat):((a:Int)).toNat=a:=rfl
def gc (b:Int):Bool:=decide (97<=b)&&decide (b<=122)
def lO (b:Int):Bool:=decide (48<=b)&&decide (b<=57)
def gL:List V->Option V
 |[.x (.int .u8 b)]=>some (.x (.bool (gc b)))
 |_=>none
def jW:List V->Option V
 |[.x (.int .u8 b)]=>some (.x (.bool (lO b)))
 |_=>none
def B (l:List UInt8):ByteArray:=⟨⟨l⟩⟩
open Classical in
noncomputable def FE {α ρ:Type} (enc:α->List V) (G:α->Option ρ):List V->Option ρ:=fun us=>if h:∃a,enc a=us then G (Classical.choose h) else none
variable {ρ:Type}
theorem bJ {enc:α->List V} (inj:∀a b,enc a=enc b->a=b) (G:α->Option ρ) (a:α):FE enc G (enc a)=G a:=by unfold FE;have h:∃b,enc b=enc a:=⟨a,rfl⟩;rw[dif_pos h,inj _ _ (Tw h)]
theorem be {α ρ:Type} {enc:α->List V} {G:α->Option ρ} {r:ρ} (h:FE enc G us=some r):∃a,us=enc a∧G a=some r:=by
 unfold FE at h;split at h
 . rename_i hx;exact⟨_,(Tw hx).symm,h⟩
 . cases h
theorem bm {p:Prop} [Decidable p] {o:Option ρ} {r:ρ} (h:(if p then o else none)=some r):p∧o=some r:=by
 by_cases hp:p
 . rw[S4 hp] at h;exact⟨hp,h⟩
 . rw[S8 hp] at h;cases h
theorem Fi {f:FuncId} {enc:α->List V} {G:α->Option V} (μ:α->Nat) (hcall:∀args w,(callFunc f args).run (ar []).P w= .ok (.enter f args) w)
 (h:∀n,cm f (FE enc fun a=>if μ a<n then G a else none)->cm f (FE enc fun a=>if μ a<n+1 then G a else none)):cm f (FE enc G):=by
 have key:∀n,cm f (FE enc fun a=>if μ a<n then G a else none):=by
  intro n
  induction n with
  |zero=>refine⟨hcall,fun m w vs us r hF=>?_⟩;obtain⟨a,_,ha⟩:=be hF;rw[S8 (Vg _)] at ha;cases ha
  |succ n ih=>exact h n ih
 refine⟨hcall,fun m w vs us r hF=>?_⟩;have hx:∃a,enc a=us:=by obtain⟨a,ha,_⟩:=be hF;exact⟨a,ha.symm⟩
 refine(key (μ (Classical.choose hx)+1)).2 m w vs us r ?_;unfold FE at hF⊢;rw[dif_pos hx] at hF⊢;show(if μ (Classical.choose hx)<μ (Classical.choose hx)+1 then G (Classical.choose hx) else none)=some r;rw[S4 (Nat.lt_succ_self _)];exact hF
theorem ie {z:List V} (h1:aY E.P el=some n) (hby:bv E.P el=some by') (hz:av E.P el=some z) (h4:n≠0) (h5:z.length=n)
 {v:V} (hc:v.cells.all V.cell=true) {len:Nat} (hb:(len+1)*by'<=140737488355328) (hl:len+1<=9223372036854775807) (st:St) (d s:Nat) (nl:Bool) (t':Option Nat) (hMB:E.MB d=false:=by rfl):
 cO E st (some d) el (.row s n len) (.sl nl n [v] t')=match st.b s with
  |some cs=>some ⟨ay (kill s (kill d st.t)) d (.row d n (len+1)),ay (ay st.b s none) d (some (cs.take (len*n)++v.cells))⟩
  |none=>none:=by
 unfold cO;simp only[h1,hby,hz];cases st.b s with
 |none=>rfl
 |some cs=>simp only;rw[S4 ⟨h4,h5,trivial,.inl trivial,by simp only[TO,hc,VK,UZ],hb,hl,hMB⟩];simp
variable {A G:List V}
theorem Fj {x:V} {m:Nat} (h:A.length=m):(A++x::G)[m]?=some x:=by subst h;simp
theorem B0 {m:Nat} (h:A.length=m):(A++G).take m=A:=by subst h;simp
end Go.Proofs.Ytalkmhjanlljhaa

/- The run over plain data at this seat: what the calls lean on. -/
import Derived.Test.YtmfojhkjbkombaaGreatPfTy
import Derived.Test.YtmfojhkjbkombaaGreatGlob
import Derived.Test.YtmfojhkjbkombaaGreatArithP
import Derived.KernelRfl
namespace Go.Proofs.YtmfojhkjbkombaaGreat
set_option linter.unusedSimpArgs false
open Go Go.RowKit
def Ah:List (Nat×(List V->Option V))->Nat->Option (List V->Option V)
 |[],_=>none
 |(k,F)::l,i=>if k=i then some F else Ah l i
def bt:List (Nat×(List V->Option (V×List (List V))))->Nat->Option (List V->Option (V×List (List V)))
 |[],_=>none
 |(k,F)::l,i=>if k=i then some F else bt l i
noncomputable def aV (l:List (Nat×(List V->Option V))) (M:Nat->Bool) (lp:List (Nat×(List V->Option (V×List (List V))))) (MB any:Nat->Bool):Env:=⟨Tryz.prog,Ah l,fun _=> .undef,Glob,M,bt lp,lY,MB,any,fun _ _=>none,0,fun _=>none,fun _=>false,fun _=>false⟩
noncomputable def fE (l:List (Nat×(List V->Option V))) (M:Nat->Bool) (lp:List (Nat×(List V->Option (V×List (List V))))):Env:=aV l M lp (fun _=>false) (fun _=>false)
noncomputable def eY (l:List (Nat×(List V->Option V))) (M:Nat->Bool):Env:=fE l M []
noncomputable def ba (l:List (Nat×(List V->Option V))):Env:=eY l fun _=>false
section
variable (l:List (Nat×(List V->Option V))) (M:Nat->Bool) (lp:List (Nat×(List V->Option (V×List (List V))))) (MB any:Nat->Bool)
theorem jN:(aV l M lp MB any).P=Tryz.prog:=rfl
theorem Mw:(aV l M lp MB any).F=Ah l:=rfl
theorem Ja:(aV l M lp MB any).FP=bt lp:=rfl
theorem Jb (d:Option Tmp):(aV l M lp MB any).fzO d=false:=by cases d<;>rfl
theorem Jc (d:Option Tmp):(fE l M lp).fzO d=false:=by cases d<;>rfl
theorem Jd (d:Option Tmp):(eY l M).fzO d=false:=by cases d<;>rfl
theorem ET (d:Option Tmp):(ba l).fzO d=false:=by cases d<;>rfl
theorem EU (d:Option Tmp):(aV l M lp MB any).litD d=false:=by cases d<;>rfl
theorem EV (d:Option Tmp):(fE l M lp).litD d=false:=by cases d<;>rfl
theorem EW (d:Option Tmp):(eY l M).litD d=false:=by cases d<;>rfl
theorem Je:(aV l M lp MB any).FM=fun _=>none:=rfl
theorem Jf:(fE l M lp).FM=fun _=>none:=rfl
theorem Jg:(eY l M).FM=fun _=>none:=rfl
theorem EY:(ba l).FM=fun _=>none:=rfl
theorem Mx:(aV l M lp MB any).G=fun _=> .undef:=rfl
theorem Jh:(aV l M lp MB any).MB=MB:=rfl
theorem EZ:(aV l M lp MB any).any=any:=rfl
theorem E0 (d:Nat):(aV l M lp MB any).own (some d)=M d:=rfl
theorem My:(fE l M lp).P=Tryz.prog:=rfl
theorem Mz:(fE l M lp).F=Ah l:=rfl
theorem Ji:(fE l M lp).FP=bt lp:=rfl
theorem MA:(fE l M lp).G=fun _=> .undef:=rfl
theorem Jj:(fE l M lp).MB=fun _=>false:=rfl
theorem E1 (i:Nat):(fE l M lp).any i=false:=rfl
theorem E2 (d:Nat):(fE l M lp).own (some d)=M d:=rfl
theorem MC:(eY l M).P=Tryz.prog:=rfl
theorem MD:(eY l M).F=Ah l:=rfl
theorem Jk:(eY l M).FP=fun _=>none:=rfl
theorem ME:(eY l M).G=fun _=> .undef:=rfl
theorem Jl:(eY l M).MB=fun _=>false:=rfl
theorem E3 (i:Nat):(eY l M).any i=false:=rfl
theorem E4 (d:Nat):(eY l M).own (some d)=M d:=rfl
theorem BM (d:Option Tmp):(ba l).own d=false:=by cases d<;>rfl
theorem Ai:(ba l).P=Tryz.prog:=rfl
theorem Jm:(ba l).F=Ah l:=rfl
theorem E5:(ba l).FP=fun _=>none:=rfl
theorem Jn:(ba l).G=fun _=> .undef:=rfl
theorem E6:(ba l).MB=fun _=>false:=rfl
theorem BN (i:Nat):(ba l).any i=false:=rfl
noncomputable def fF (l:List (Nat×(List V->Option V))) (any:Nat->Bool):Env:=aV l (fun _=>false) [] (fun _=>false) any
theorem tn:(aV l M lp MB any).plain=fF l any:=rfl
theorem tp:(fE l M lp).plain=ba l:=rfl
theorem xm:(eY l M).plain=ba l:=rfl
theorem tq:(ba l).plain=ba l:=rfl
theorem Jo (d:Option Tmp):(fF l any).fzO d=false:=by cases d<;>rfl
theorem MF:(fF l any).P=Tryz.prog:=rfl
theorem MG:(fF l any).F=Ah l:=rfl
theorem Jp:(fF l any).FP=fun _=>none:=rfl
theorem Jq:(fF l any).FM=fun _=>none:=rfl
theorem MH:(fF l any).G=fun _=> .undef:=rfl
theorem Jr:(fF l any).MB=fun _=>false:=rfl
theorem E7 (d:Option Tmp):(fF l any).own d=false:=by cases d<;>rfl
section
variable (st:St) (b:Nat->Option (List V)) (k s:Nat) (p u:V) (d:Option Nat) (cs:List V)
theorem MI:wipe (fE l M lp) st=st:=rfl
theorem MJ:wipe (eY l M) st=st:=rfl
theorem MK:wipe (ba l) st=st:=rfl
theorem E8:aB (fE l M lp) k b=b:=rfl
theorem E9:aB (eY l M) k b=b:=rfl
theorem Fa:aB (ba l) k b=b:=rfl
theorem Fb:aB (fF l any) k b=b:=rfl
theorem ML:(fE l M lp).kept s u=u.bare:=rfl
theorem MM:(eY l M).kept s u=u.bare:=rfl
theorem MN:(ba l).kept s u=u.bare:=rfl
theorem MO:(fF l any).kept s u=u.bare:=rfl
theorem RP:(fE l M lp).okS s u=true:=rfl
theorem RQ:(eY l M).okS s u=true:=rfl
theorem RR:(ba l).okS s u=true:=rfl
theorem RT:(fF l any).okS s u=true:=rfl
theorem RU:(fE l M lp).okN d cs=true:=by cases d<;>rfl
theorem RV:(eY l M).okN d cs=true:=by cases d<;>rfl
theorem RW:(ba l).okN d cs=true:=by cases d<;>rfl
theorem RX:(fF l any).okN d cs=true:=by cases d<;>rfl
theorem RY:(aV l M lp MB any).okN (some s) cs=(!MB s||cs.all V.unm):=rfl
theorem MP:(aV l M lp MB any).okN none cs=true:=rfl
theorem RZ:(aV l M lp MB any).okS s u=(!MB s||(u.isSl||u.cells.all V.unm)):=rfl
theorem MQ:(aV l M lp MB any).kept s u=if MB s=true then u else u.bare:=rfl
theorem Js (o:Nat):(aV l M lp MB any).keepL (.ptr s o) u=if MB s=true then u else u.bare:=rfl
theorem Fc:(aV l M lp MB any).keepL (.ip cs) u=u.bare:=rfl
theorem BO:aB (aV l M lp MB any) k b s=if MB s=true then (b s).map (List.map (cd k)) else b s:=rfl
theorem Fd:zM (aV l M lp MB any) b s=if MB s=true then (b s).map (List.map V.bare) else b s:=rfl
theorem Jt:wipe (aV l M lp (fun _=>false) any) st=st:=rfl
theorem Ju:(fE l M lp).keepL p u=u.bare:=by cases p<;>rfl
theorem Jv:(eY l M).keepL p u=u.bare:=by cases p<;>rfl
theorem Jw:(ba l).keepL p u=u.bare:=by cases p<;>rfl
theorem Jy:(fF l any).keepL p u=u.bare:=by cases p<;>rfl
end
end
def cM (f:FuncId) (F:List V->Option V):Prop:=Fun (ba []) f F
def tt:List (Nat×(List V->Option V))->Prop
 |[]=>True
 |p::l=>cM p.1 p.2∧tt l
def Fe (f:FuncId) (F:List V->Option (V×List (List V))):Prop:=FunP (ba []) f F
def BP:List (Nat×(List V->Option (V×List (List V))))->Prop
 |[]=>True
 |p::l=>Fe p.1 p.2∧BP l
theorem fQ (l:List (Nat×(List V->Option V))) (M:Nat->Bool) (lp:List (Nat×(List V->Option (V×List (List V))))) (MB any:Nat->Bool) (h:tt l) (hp:BP lp):EnvOK (aV l M lp MB any):=by
 refine⟨fun f F hF=>?_,fun f F hF=>?_,fun X w w' hX hj hb=>Glob.low hj hb.size ⟨hb.os,hb.tape,hb.output,hb.size,fun k hk=>hb.block k (Zp hk (Glob.high hj)) (fun hm=>absurd (hX k hm) (aau.2 hk))⟩,fun w hj=>Glob.high hj,(fun f lb=>rfl),fun f F hF=>by cases hF⟩
 . have key:∀l,tt l->Ah l f=some F->cM f F:=by
    intro l
    induction l with
    |nil=>intro _ h;cases h
    | cons p l ih=>
      intro h hF;simp only[Ah] at hF;split at hF
      . rename_i e;cases hF;exact e▸h.1
      . exact ih h.2 hF
   exact key l h hF
 . have key:∀l,BP l->bt l f=some F->Fe f F:=by
    intro l
    induction l with
    |nil=>intro _ h;cases h
    | cons p l ih=>
      intro h hF;simp only[bt] at hF;split at hF
      . rename_i e;cases hF;exact e▸h.1
      . exact ih h.2 hF
   exact key lp hp hF
theorem Aj (l:List (Nat×(List V->Option V))) (M:Nat->Bool) (lp:List (Nat×(List V->Option (V×List (List V))))) (h:tt l) (hp:BP lp):EnvOK (fE l M lp):=fQ l M lp _ _ h hp
theorem Ak (l:List (Nat×(List V->Option V))) (M:Nat->Bool) (h:tt l):EnvOK (eY l M):=Aj l M [] h trivial
theorem bV (l:List (Nat×(List V->Option V))) (h:tt l):EnvOK (ba l):=Ak l _ h
theorem nv (l:List (Nat×(List V->Option V))) (M:Nat->Bool) (lp:List (Nat×(List V->Option (V×List (List V))))) (MB any:Nat->Bool) (u:V):iA (aV l M lp MB any) u=none:=by unfold iA;split<;>rfl
theorem MR (l:List (Nat×(List V->Option V))) (M:Nat->Bool) (lp:List (Nat×(List V->Option (V×List (List V))))) (u:V):iA (fE l M lp) u=none:=nv _ _ _ _ _ u
theorem MS (l:List (Nat×(List V->Option V))) (M:Nat->Bool) (u:V):iA (eY l M) u=none:=nv _ _ _ _ _ u
theorem MT (l:List (Nat×(List V->Option V))) (u:V):iA (ba l) u=none:=nv _ _ _ _ _ u
theorem MU (l:List (Nat×(List V->Option V))) (any:Nat->Bool) (u:V):iA (fF l any) u=none:=nv _ _ _ _ _ u
noncomputable def dx (G:Nat->V) (X:FuncId->List Value->Option (List V->Option (V×List (List V)))) (xk:Nat):Env:=⟨Tryz.prog,fun _=>none,G,Glob,fun _=>false,fun _=>none,lY,fun _=>false,fun _=>false,X,xk,fun _=>none,fun _=>false,fun _=>false⟩
section
variable (G:Nat->V) (X:FuncId->List Value->Option (List V->Option (V×List (List V)))) (xk:Nat) (f:FuncId) (u:V) (d:Option Nat) (cs:List V) (st:St) (b:Nat->Option (List V)) (k s:Nat) (p:V)
theorem Jz (d:Option Tmp):(dx G X xk).fzO d=false:=by cases d<;>rfl
theorem MV:(dx G X xk).P=Tryz.prog:=rfl
theorem MW:(dx G X xk).F=fun _=>none:=rfl
theorem JA:(dx G X xk).FP=fun _=>none:=rfl
theorem JB:(dx G X xk).FM=fun _=>none:=rfl
theorem MY:(dx G X xk).G=G:=rfl
theorem JC:(dx G X xk).MB=fun _=>false:=rfl
theorem Ff (i:Nat):(dx G X xk).any i=false:=rfl
theorem Fg:(dx G X xk).own d=false:=by cases d<;>rfl
theorem MZ:(dx G X xk).X=X:=rfl
theorem JD:(dx G X xk).xk=xk:=rfl
theorem JE (lb:Array Value):iA (dx G X xk) (.x (.func (.func f) #[] lb))=X f lb.toList:=rfl
theorem Fh:iA (dx G X xk) (.x (.func (.func f) #[] #[]))=X f []:=rfl
theorem M0:wipe (dx G X xk) st=st:=rfl
theorem Fi:aB (dx G X xk) k b=b:=rfl
theorem M1:(dx G X xk).kept s u=u.bare:=rfl
theorem R1:(dx G X xk).okS s u=true:=rfl
theorem R3:(dx G X xk).okN d cs=true:=by cases d<;>rfl
theorem JG:(dx G X xk).keepL p u=u.bare:=by cases p<;>rfl
end
theorem Al (G:Nat->V) (X:FuncId->List Value->Option (List V->Option (V×List (List V)))) (xk:Nat) (h1:1000<=xk) (pm:Pm) (bk:Nat) (hb:pm.b (dx G X xk).xk=bk) (h:∀f lb F,(dx G X xk).X f lb=some F->FunX (dx G X xk) bk f lb F):EnvX (dx G X xk) pm:=
 ⟨(fun f F e=>by cases e),(fun f F e=>by cases e),fun X w w' hX hj hb=>Glob.low hj hb.size ⟨hb.os,hb.tape,hb.output,hb.size,fun k hk=>hb.block k (Zp hk (Glob.high hj)) (fun hm=>absurd (hX k hm) (aau.2 hk))⟩,(fun w hj=>Glob.high hj),(fun f lb F e=>⟨h1,by rw[hb];exact h f lb F e⟩),.inl (fun _=>rfl),fun f F hF=>by cases hF⟩
def Fj (f:FuncId) (F:List V->Option (List V×List V)):Prop:=FunM (ba []) f F
def JH:List (Nat×(List V->Option (List V×List V)))->Prop
 |[]=>True
 |p::l=>Fj p.1 p.2∧JH l
def LY:List (Nat×(List V->Option (List V×List V)))->Nat->Option (List V->Option (List V×List V))
 |[],_=>none
 |(k,F)::l,i=>if k=i then some F else LY l i
noncomputable def bP (l:List (Nat×(List V->Option V))) (lp:List (Nat×(List V->Option (V×List (List V))))) (lm:List (Nat×(List V->Option (List V×List V)))) (lit any:Nat->Bool):Env:=⟨Tryz.prog,Ah l,fun _=> .undef,Glob,lit,bt lp,lY,fun _=>false,any,fun _ _=>none,0,LY lm,lit,fun _=>false⟩
section
variable (l:List (Nat×(List V->Option V))) (lp:List (Nat×(List V->Option (V×List (List V))))) (lm:List (Nat×(List V->Option (List V×List V)))) (lit any:Nat->Bool) (u:V) (d:Option Nat) (cs:List V) (st:St) (b:Nat->Option (List V)) (k s:Nat) (p:V)
theorem JI (d:Option Tmp):(bP l lp lm lit any).fzO d=false:=by cases d<;>rfl
theorem M2:(bP l lp lm lit any).P=Tryz.prog:=rfl
theorem M3:(bP l lp lm lit any).F=Ah l:=rfl
theorem JK:(bP l lp lm lit any).FP=bt lp:=rfl
theorem JM:(bP l lp lm lit any).FM=LY lm:=rfl
theorem M4:(bP l lp lm lit any).G=fun _=> .undef:=rfl
theorem JN:(bP l lp lm lit any).MB=fun _=>false:=rfl
theorem Fk:(bP l lp lm lit any).any=any:=rfl
theorem Fl (d:Nat):(bP l lp lm lit any).own (some d)=lit d:=rfl
theorem BQ:(bP l lp lm lit any).own none=false:=rfl
theorem Fm (d:Nat):(bP l lp lm lit any).litD (some d)=lit d:=rfl
theorem tu:(bP l lp lm lit any).plain=fF l any:=rfl
theorem M5:iA (bP l lp lm lit any) u=none:=by unfold iA;split<;>rfl
theorem M6:wipe (bP l lp lm lit any) st=st:=rfl
theorem Fn:aB (bP l lp lm lit any) k b=b:=rfl
theorem M7:(bP l lp lm lit any).kept s u=u.bare:=rfl
theorem R4:(bP l lp lm lit any).okS s u=true:=rfl
theorem R5:(bP l lp lm lit any).okN d cs=true:=by cases d<;>rfl
theorem JO:(bP l lp lm lit any).keepL p u=u.bare:=by cases p<;>rfl
end
theorem bw (l:List (Nat×(List V->Option V))) (lp:List (Nat×(List V->Option (V×List (List V))))) (lm:List (Nat×(List V->Option (List V×List V)))) (lit any:Nat->Bool) (h:tt l) (hp:BP lp) (hq:JH lm):EnvOK (bP l lp lm lit any):=by
 have h0:=fQ l (fun _=>false) lp (fun _=>false) any h hp;refine⟨h0.fn,h0.fnP,h0.keep,h0.high,h0.noX,fun f F hF=>?_⟩;have key:∀l,JH l->LY l f=some F->Fj f F:=by
  intro l
  induction l with
  |nil=>intro _ h;cases h
  | cons p l ih=>
    intro h hF;simp only[LY] at hF;split at hF
    . rename_i e;cases hF;exact e▸h.1
    . exact ih h.2 hF
 exact key lm hq hF
noncomputable def ft (l:List (Nat×(List V->Option V))) (lp:List (Nat×(List V->Option (V×List (List V))))) (lm:List (Nat×(List V->Option (List V×List V)))) (M lit fz any:Nat->Bool):Env:=⟨Tryz.prog,Ah l,fun _=> .undef,Glob,M,bt lp,lY,fun _=>false,any,fun _ _=>none,0,LY lm,lit,fz⟩
section
variable (l:List (Nat×(List V->Option V))) (lp:List (Nat×(List V->Option (V×List (List V))))) (lm:List (Nat×(List V->Option (List V×List V)))) (M lit fz any:Nat->Bool) (u:V) (d:Option Nat) (cs:List V) (st:St) (b:Nat->Option (List V)) (k s:Nat) (p:V)
theorem M8:(ft l lp lm M lit fz any).P=Tryz.prog:=rfl
theorem M9:(ft l lp lm M lit fz any).F=Ah l:=rfl
theorem JP:(ft l lp lm M lit fz any).FP=bt lp:=rfl
theorem JQ:(ft l lp lm M lit fz any).FM=LY lm:=rfl
theorem Na:(ft l lp lm M lit fz any).G=fun _=> .undef:=rfl
theorem JR:(ft l lp lm M lit fz any).MB=fun _=>false:=rfl
theorem Fo:(ft l lp lm M lit fz any).any=any:=rfl
theorem Fp (d:Nat):(ft l lp lm M lit fz any).own (some d)=M d:=rfl
theorem BR:(ft l lp lm M lit fz any).own none=false:=rfl
theorem Fq (d:Nat):(ft l lp lm M lit fz any).litD (some d)=lit d:=rfl
theorem JS (d:Nat):(ft l lp lm M lit fz any).fzO (some d)=fz d:=rfl
theorem Fs:(ft l lp lm M lit fz any).fzO none=false:=rfl
theorem tw:(ft l lp lm M lit fz any).plain=fF l any:=rfl
theorem Nb:iA (ft l lp lm M lit fz any) u=none:=by unfold iA;split<;>rfl
theorem Nc:wipe (ft l lp lm M lit fz any) st=st:=rfl
theorem Ft:aB (ft l lp lm M lit fz any) k b=b:=rfl
theorem Nf:(ft l lp lm M lit fz any).kept s u=u.bare:=rfl
theorem R6:(ft l lp lm M lit fz any).okS s u=true:=rfl
theorem R7:(ft l lp lm M lit fz any).okN d cs=true:=by cases d<;>rfl
theorem JT:(ft l lp lm M lit fz any).keepL p u=u.bare:=by cases p<;>rfl
end
theorem Am (l:List (Nat×(List V->Option V))) (lp:List (Nat×(List V->Option (V×List (List V))))) (lm:List (Nat×(List V->Option (List V×List V)))) (M lit fz any:Nat->Bool) (h:tt l) (hp:BP lp) (hq:JH lm):EnvOK (ft l lp lm M lit fz any):=by have h0:=bw l lp lm lit any h hp hq;exact⟨h0.fn,h0.fnP,h0.keep,h0.high,h0.noX,h0.fnM⟩
theorem pE {m:Lim} {w:World}:∀{vs:List Value} {us:List V} {xs:List Value},RdL m w vs us->us.mapM V.one=some xs->vs=xs
 |[],[],xs,_,h=>by simp at h;exact h.symm
 | v ::vs,u::us,xs,hr,h=>by
   rw[aaG] at h;cases u with
   | x u=>
     simp only[V.one,abr,aaY,Z0] at h;cases hm:us.mapM V.one with
     |none=>rw[hm] at h;cases h
     |some r=>rw[hm] at h;cases h;rw[pE hr.2 hm,Rd.x_iff.1 hr.1]
   |_=>simp[V.one] at h
variable {m:Lim} {w:World} {u:V}
theorem Ng {v x:Value} (h:Rd m w v u) (hu:u.val=some x):v=x:=by
 cases u with
 |x u=>cases hu;exact Rd.x_iff.1 h
 |agg cs=>obtain⟨a,rfl,hr⟩:=Rd.agg_iff.1 h;simp only[V.val,YE] at hu;obtain⟨l,hl,rfl⟩:=hu;have:=pE hr hl;rw[<-this]
 |_=>simp[V.val] at hu
theorem An {m:Lim} {w:World}:∀{vs:List Value} {us:List V} {xs:List Value},RdL m w vs us->us.map V.val=xs.map some->vs=xs
 |[],[],[],_,_=>rfl
 |[],[],_::_,_,h=>by simp at h
 |v::vs,u::us,[],_,h=>by simp at h
 |v::vs,u::us,x::xs,hr,h=>by simp only[Y0,Zb] at h;rw[Ng hr.1 h.1,An hr.2 h.2]
variable {us:List V}
theorem Ao {vs:Array Value} {xs:List Value} (hr:RdL m w vs.toList us) (h:us.map V.val=xs.map some):vs=xs.toArray:=by rw[<-An hr h]
abbrev vl (k n:Int) (s:ByteArray):V:= .agg [.x (.int .i64 k),.x (.int .i64 n),.x (.string s)]
variable {s:Nat} {t:Nat->V}
theorem bW {i:Nat} {v:V} (hv:v.nm≠some s) (h:noPtrTo s t):noPtrTo s (upd t i v)=True:=by
 refine eq_true (fun j=>?_);rw[aE];split
 . exact hv
 . exact h j
theorem Xl (b:Bool):(b==true)=b:=by cases b<;>rfl
theorem Xm (b:Bool):(b==false)= !b:=by cases b<;>rfl
theorem R8 (b:Bool):(true==b)=b:=by cases b<;>rfl
theorem R9 (b:Bool):(false==b)= !b:=by cases b<;>rfl
section
variable {s i:Nat} {t:Nat->V}
theorem Xn {v:Value} (h:noPtrTo s t):noPtrTo s (upd t i (.x v)):=by rw[bW A0j h];trivial
variable {v:List V}
theorem Nh (h:noPtrTo s t):noPtrTo s (upd t i (.agg v)):=by rw[bW A0j h];trivial
theorem Ni (h:noPtrTo s t):noPtrTo s (upd t i (.tup v)):=by rw[bW A0j h];trivial
variable {z:Nat}
theorem Sa {a:Bool} {c:Option Nat} (h:noPtrTo s t):noPtrTo s (upd t i (.sl a z v c)):=by rw[bW A0j h];trivial
theorem Sb (h:noPtrTo s t):noPtrTo s (upd t i (.ip v)):=by rw[bW A0j h];trivial
theorem Fu (h:noPtrTo s t):noPtrTo s (upd t i .undef):=by rw[bW A0j h];trivial
variable {s':Nat}
theorem Nj {off:Nat} (h:noPtrTo s t) (hne: ¬s=s'):noPtrTo s (upd t i (.ptr s' off)):=by rw[bW (by simp[ZY hne]) h];trivial
theorem Nk {l:Nat} (h:noPtrTo s t) (hne: ¬s=s'):noPtrTo s (upd t i (.row s' z l)):=by rw[bW (by simp[ZY hne]) h];trivial
end
variable {k:Nat}
theorem Fv (h:noPtrTo s t):noPtrTo s (strip k t):=by intro i;rw[kf];exact h i
theorem JU (h:noPtrTo s t):noPtrTo s (kill k t):=fun i=>qR _ _ _ _ (h i)
theorem Fw (k:Nat) (t:Nat->V) (i:Nat):strip k t i=cd k (t i):=by unfold strip;exact Eq.refl _
theorem Fy (k:Nat) (v:Value):cd k (.x v)= .x v:=aW _ _
theorem xp (k:Nat) (v:List V):cd k (.agg v)= .agg v:=aW _ _
theorem xq (k:Nat) (v:List V):cd k (.tup v)= .tup v:=aW _ _
theorem BS (k:Nat) (v:List V):cd k (.ip v)= .ip v:=aW _ _
theorem xr (k s o:Nat):cd k (.ptr s o)= .ptr s o:=aW _ _
theorem xt (k s z l:Nat):cd k (.row s z l)= .row s z l:=aW _ _
theorem JV (k:Nat) (t:Nat->V) (i:Nat):kill k t i=eB k (t i):=by unfold kill;exact Eq.refl _
theorem JW (k:Nat) (v:Value):eB k (.x v)= .x v:=cT _ _
theorem BT (k:Nat) (v:List V):eB k (.agg v)= .agg v:=cT _ _
theorem BU (k:Nat) (v:List V):eB k (.tup v)= .tup v:=cT _ _
theorem Fz (k:Nat) (v:List V):eB k (.ip v)= .ip v:=cT _ _
theorem FA (k:Nat) (nl:Bool) (sz:Nat) (es:List V) (t:Option Nat):eB k (.sl nl sz es t)= .sl nl sz es t:=cT _ _
theorem BV (k:Nat) (t:TypeId):eB k (.dyn t)= .dyn t:=cT _ _
theorem tx (k:Nat):eB k .undef= .undef:=cT _ _
theorem BW (k s o:Nat):eB k (.ptr s o)=if s=k then .undef else .ptr s o:=cT _ _
theorem BY (k s z l:Nat):eB k (.row s z l)=if s=k then .undef else .row s z l:=cT _ _
theorem FB (k:Nat) (ks vs:List V):eB k (.fm ks vs)= .fm ks vs:=cT _ _
theorem BZ (k:Nat) (ks vs:List V):cd k (.fm ks vs)= .fm ks vs:=aW _ _
variable {vs:List V}
theorem Sc {i:Nat} {ks:List V} (h:noPtrTo s t):noPtrTo s (upd t i (.fm ks vs)):=by rw[bW A0j h];trivial
attribute [go_sem] FB BZ Sc mm Ef OD
theorem xu (k:Nat) (t:TypeId):cd k (.dyn t)= .dyn t:=aW _ _
theorem Nl {i:Nat} {d:TypeId} (h:noPtrTo s t):noPtrTo s (upd t i (.dyn d)):=by rw[bW A0j h];trivial
theorem qW (k:Nat):cd k .undef= .undef:=aW _ _
theorem tz (k:Nat) (nl:Bool) (sz:Nat) (es:List V):cd k (.sl nl sz es none)= .sl nl sz es none:=aW _ _
theorem tB (k s:Nat) (nl:Bool) (sz:Nat) (es:List V):cd k (.sl nl sz es (some s))= .sl nl sz es (if s=k then none else some s):=aW _ _
theorem tC:noPtrTo s (fun _=> .undef)=True:=eq_true (fun _ h=>by cases h)
theorem JX:start []=⟨fun _=> .undef,fun _=>none⟩:=rfl
theorem JY (u0:V):start [u0]=⟨upd (fun _=> .undef) 0 u0,fun _=>none⟩:=rfl
theorem JZ (u0 u1:V):start [u0,u1]=⟨upd (upd (fun _=> .undef) 1 u1) 0 u0,fun _=>none⟩:=rfl
theorem J0 (u0 u1 u2:V):start [u0,u1,u2]=⟨upd (upd (upd (fun _=> .undef) 2 u2) 1 u1) 0 u0,fun _=>none⟩:=rfl
theorem J2 (u0 u1 u2 u3:V):start [u0,u1,u2,u3]=⟨upd (upd (upd (upd (fun _=> .undef) 3 u3) 2 u2) 1 u1) 0 u0,fun _=>none⟩:=rfl
theorem J3 (u0 u1 u2 u3 u4:V):start [u0,u1,u2,u3,u4]=⟨upd (upd (upd (upd (upd (fun _=> .undef) 4 u4) 3 u3) 2 u2) 1 u1) 0 u0,fun _=>none⟩:=rfl
theorem J4 (u0 u1 u2 u3 u4 u5:V):start [u0,u1,u2,u3,u4,u5]=⟨upd (upd (upd (upd (upd (upd (fun _=> .undef) 5 u5) 4 u4) 3 u3) 2 u2) 1 u1) 0 u0,fun _=>none⟩:=rfl
attribute [go_sem] EE xc EF I8 EG BG s8 BH EH I9 s9 EI BI oW xe iP xg tb Bv wM sN wN wO sQ qL bS dh eC aO ev dH JX JY JZ J0 J2 J3 J4 St.put aE wm wj wk D8 OJ sj fj j8 mP cU np V.notPtr V.dat V.cell V.cells j6 kL iM isA OQ dZ qT gX Xn Nh Ni Sa Sb Fu Nj tC Ah Ai Jm Jn cK
attribute [go_sem] Bj j3 xu Nl IJ de iE f9 jZ mK gK dP wg qA wh IP ph Bc Ed Bd Be sc Eg Ej zX zZ Fw Fy xp xq BS xr qW tz tB Fv fH
attribute [go_sem] ite_true ite_false true_implies and_true true_and and_self reduceCtorEq false_implies if_true if_false List.getElem?_toArray List.getElem?_cons_succ List.getElem?_cons_zero Option.bind_some Option.map_some List.map_cons List.map_nil List.all_cons List.all_nil Bool.and_self Bool.true_and Bool.and_true Bool.false_eq_true List.length_cons List.length_nil List.take_succ_cons List.take_zero List.drop_succ_cons List.drop_zero List.cons_append List.nil_append List.mapM_cons List.mapM_nil Option.pure_def Option.bind_eq_bind Option.isNone_none ne_eq not_true_eq_false not_false_eq_true or_self or_false false_or gt_iff_lt ge_iff_le Nat.lt_irrefl Nat.not_lt_zero Nat.le_refl beq_self_eq_true Bool.not_true Bool.not_false Bool.true_eq_false cond_true cond_false List.toList_toArray Nat.zero_le decide_true decide_false imp_self implies_true forall_const List.take_nil List.drop_nil and_false false_and Nat.zero_add Nat.add_zero Bool.true_or Bool.or_true Bool.false_or Bool.or_false Bool.and_false Bool.false_and true_or or_true BEq.rfl
attribute [go_sem 500] bq.eq_1
theorem B0 (k:List Nat) (t:Nat->V) (i:Nat):fX k t i=bU k (t i):=by unfold fX;exact Eq.refl _
theorem FC (k:List Nat) (v:Value):bU k (.x v)= .x v:=ci _ _
theorem xv (k:List Nat) (v:List V):bU k (.agg v)= .agg v:=ci _ _
theorem xw (k:List Nat) (v:List V):bU k (.tup v)= .tup v:=ci _ _
theorem B4 (k:List Nat) (v:List V):bU k (.ip v)= .ip v:=ci _ _
theorem B6 (k:List Nat) (nl:Bool) (sz:Nat) (es:List V) (t:Option Nat):bU k (.sl nl sz es t)= .sl nl sz es t:=ci _ _
theorem B7 (k:List Nat) (ks vs:List V):bU k (.fm ks vs)= .fm ks vs:=ci _ _
attribute [go_sem] B7
theorem xx (k:List Nat) (t:TypeId):bU k (.dyn t)= .dyn t:=ci _ _
theorem qX (k:List Nat):bU k .undef= .undef:=ci _ _
theorem xy (k:List Nat) (s o:Nat):bU k (.ptr s o)= .ptr s o:=ci _ _
theorem xz (k:List Nat) (s z l:Nat):bU k (.row s z l)=if k.contains s=true then .undef else .row s z l:=ci _ _
theorem B8 {k:List Nat} (h:noPtrTo s t):noPtrTo s (fX k t):=fun i=>by
 rcases fb k (t i) with⟨e,_⟩|e
 . show(bU k (t i)).nm≠_;rw[e];exact h i
 . show(bU k (t i)).nm≠_;rw[e];simp
theorem B9 (us:List V):c9 us=⟨fP 0 us,db 0 us⟩:=rfl
attribute [go_sem] My Mz Ji MA E2 tp Jk E5 bt callP Ek OM bA sC B0 FC xv xw B4 B6 xx qX xy xz B8 B9 fP db ki Ag dC kh dD pp
variable {s':Nat}
theorem Sd {i:Nat} {ks:List V} (h:noPtrTo s t) (hne: ¬s=s'):noPtrTo s (upd t i (.mp s' ks vs)):=by rw[bW (by simp[ZY hne]) h];trivial
theorem Ca (k s:Nat) (ks vs:List V):cd k (.mp s ks vs)= .mp s ks vs:=aW _ _
theorem tD (k s:Nat) (ks vs:List V):eB k (.mp s ks vs)=if s=k then .undef else .mp s ks vs:=cT _ _
theorem Cb (k:List Nat) (s:Nat) (ks vs:List V):bU k (.mp s ks vs)= .mp s ks vs:=ci _ _
theorem J5 (s:Nat) (ks vs:List V) (t:Nat->V) (i:Nat):oT s ks vs t i=da s ks vs (t i):=by unfold oT;exact Eq.refl _
section
variable (s:Nat) (ks vs:List V)
theorem J6 (v:Value):da s ks vs (.x v)= .x v:=cy _ _ _ _
theorem Cc (v:List V):da s ks vs (.agg v)= .agg v:=cy _ _ _ _
theorem Cd (v:List V):da s ks vs (.tup v)= .tup v:=cy _ _ _ _
theorem FD (v:List V):da s ks vs (.ip v)= .ip v:=cy _ _ _ _
theorem FF (nl:Bool) (sz:Nat) (es:List V) (t:Option Nat):da s ks vs (.sl nl sz es t)= .sl nl sz es t:=cy _ _ _ _
theorem FG (ks' vs':List V):da s ks vs (.fm ks' vs')= .fm ks' vs':=cy _ _ _ _
attribute [go_sem] FG
theorem Ce (t:TypeId):da s ks vs (.dyn t)= .dyn t:=cy _ _ _ _
theorem tE:da s ks vs .undef= .undef:=cy _ _ _ _
theorem Cf (k o:Nat):da s ks vs (.ptr k o)= .ptr k o:=cy _ _ _ _
theorem Cg (k z l:Nat):da s ks vs (.row k z l)= .row k z l:=cy _ _ _ _
theorem FH (s':Nat) (ks' vs':List V):da s ks vs (.mp s' ks' vs')=if s'=s then .mp s ks vs else .mp s' ks' vs':=cy _ _ _ _
end
theorem J7 {ks:List V} (h:noPtrTo s t):noPtrTo s (oT k ks vs t):=fun i=>by
 show(da k ks vs (t i)).nm≠_;rcases eE k ks vs (t i) with e|⟨⟨ks',vs',e1⟩,e⟩
 . rw[e];exact h i
 . rw[e];have:=h i;rw[e1] at this;exact this
attribute [go_sem] ml Ee Sd J7 Ca tD Cb J5 J6 Cc Cd FD FF Ce tE Cf Cg FH
def Se:Option (List V)->V
 |some cs=> .bx cs
 |none=> .undef
section
variable (b:Nat->Option (List V)) (st:St) (E:Env)
theorem FJ (s:Nat):fk b (.ptr s 0)=Se (b s):=by show(match b s with|some cs=>V.bx cs|none=> .undef)=_;cases b s<;>rfl
theorem Nm (v:Value):fk b (.x v)= .x v:=de v
theorem tF (v:List V):fk b (.agg v)= .agg v:=iE v
theorem J8 (v:List V):fk b (.ip v)= .ip v:=jZ v
theorem J9 (ks vs:List V):fk b (.fm ks vs)= .fm ks vs:=mm ks vs
attribute [go_sem] J9
theorem FK (t:TypeId):fk b (.dyn t)= .dyn t:=j3 t
theorem xA:fk b .undef= .undef:=gK
theorem Ka (s:Nat) (ks vs:List V):fk b (.mp s ks vs)= .mp 0 ks vs:=rfl
theorem Kb (s:Nat) (ks vs:List V):(V.mp s ks vs).datP=true:=rfl
theorem Kc (nl:Bool) (sz:Nat) (es:List V) (t:Option Nat):fk b (.sl nl sz es t)=wA nl sz es t:=rfl
def qY (sz:Nat) (es:List V):V:=wA es.isEmpty sz es (some 0)
theorem FL (sz:Nat) (es:List V) (k:Nat):wA es.isEmpty sz es (some k)=qY sz es:=by unfold qY;cases es<;>rfl
theorem FN (sz:Nat) (es:List V) (t:Option Nat):wA true sz es t=qY 1 []:=rfl
theorem Ch (sz:Nat) (es:List V):wA false sz es none= .sl false sz es none:=rfl
theorem Ci (sz:Nat) (es:List V) (x:V) (k:Nat):wA false sz (es++[x]) (some k)=qY sz (es++[x]):=by unfold qY;cases es<;>rfl
theorem Kd (cs:List V):(V.bx cs).datP=true:=rfl
theorem Nn (v:Value):(V.x v).datP=(V.x v).dat:=rfl
theorem FO (v:List V):(V.agg v).datP=true:=rfl
theorem FQ (v:List V):(V.tup v).datP=false:=rfl
theorem Ke (v:List V):(V.ip v).datP=true:=rfl
theorem Kf (ks vs:List V):(V.fm ks vs).datP=true:=rfl
attribute [go_sem] Kf
theorem FR (t:TypeId):(V.dyn t).datP=true:=rfl
theorem xB:V.undef.datP=false:=rfl
theorem Kg (nl:Bool) (sz:Nat) (es:List V):(V.sl nl sz es none).datP=true:=rfl
theorem FS (nl:Bool) (sz k:Nat) (es:List V):(V.sl nl sz es (some k)).datP=true:=rfl
theorem FT (sz:Nat) (es:List V):(qY sz es).datP=true:=by cases es<;>rfl
theorem xC (k sz:Nat) (es us:List V):dC k (qY sz es::us) b=dC (k+1) us b:=ff (by cases es<;>rfl)
theorem xD (k sz:Nat) (es us:List V) (t:Nat->V):dD k (qY sz es::us) t=dD (k+1) us t:=fe (by cases es<;>rfl)
theorem Cj (nl:Bool) (sz:Nat) (es:List V) (t:Option Nat) (l:List V):bA (.sl nl sz es t::l)=bA l:=rfl
theorem FU (d k sz:Nat) (nl:Bool) (es:List V):jq E st (some d) (.sl nl sz es (some k))=⟨upd (strip d st.t) d (.sl nl sz es (some d)),aB E d st.b⟩:=rfl
theorem Kh (r:V):jq E st none r=st:=by unfold jq;rfl
theorem No (d:Nat) (v:Value):jq E st (some d) (.x v)=st.put (some d) (.x v):=by show st.put (some d) (V.x v).bare=_;rw[de]
theorem tG (d:Nat) (v:List V):jq E st (some d) (.agg v)=st.put (some d) (.agg v):=by show st.put (some d) (V.agg v).bare=_;rw[iE]
theorem FV (d:Nat) (v:List V):jq E st (some d) (.tup v)=st.put (some d) (.tup v):=by show st.put (some d) (V.tup v).bare=_;rw[f9]
theorem Ki (d:Nat) (ks vs:List V):jq E st (some d) (.fm ks vs)=st.put (some d) (.fm ks vs):=by show st.put (some d) (V.fm ks vs).bare=_;rw[mm]
attribute [go_sem] Ki
theorem FW (d:Nat) (t:TypeId):jq E st (some d) (.dyn t)=st.put (some d) (.dyn t):=by show st.put (some d) (V.dyn t).bare=_;rw[j3]
theorem Kj (d:Nat) (v:List V):jq E st (some d) (.ip v)=st.put (some d) (.ip v):=by show st.put (some d) (V.ip v).bare=_;rw[jZ]
theorem FX (d sz:Nat) (nl:Bool) (es:List V):jq E st (some d) (.sl nl sz es none)=st.put (some d) (.sl nl sz es none):=by show st.put (some d) (V.sl nl sz es none).bare=_;rw[dP]
theorem FY (nl:Bool) (sz k:Nat) (es:List V):Mv (.sl nl sz es (some k))=some (.sl nl sz es (some 0)):=rfl
theorem tH (k sz:Nat) (es us:List V):db k (qY sz es::us)=db (k+1) us:=jJ (by cases es<;>rfl)
end
attribute [go_sem] jI tH xC xD Ka Kb cV Se FJ Nm tF J8 FK xA Kc FL FN Ch Ci Kd Nn FO FQ Ke FR xB Kg FS FT Cj bn stripL dz FU Kh No tG FV FW Kj FX FY nj OR
attribute [go_sem] nv MR MS MT MU JE Fh MV MW JA MY JC Ff Fg MZ JD M0 Fi M1 R1 R3 JG
attribute [go_sem] BE iL qQ OP I4 I5
attribute [go_sem] MC MD ME E4 xm tq BM IU Nk JU JV JW BT BU Fz FA BV tx BW BY xt mL pj List.flatMap_cons List.flatMap_nil List.append_nil
attribute [go_sem] xd s6 jN Mw Ja Mx Jh EZ E0 Jj E1 Jl E3 E6 BN tn MF MG Jp MH Jr E7
attribute [go_sem] MI MJ MK E8 E9 Fa Fb ML MM MN MO RP RQ RR RT RU RV RW RX Ju Jv Jw Jy BA wW kR BB qB RY MP RZ MQ Js Fc BO Fd Jt V.unm V.isSl TF Mm OB OC Mn Ec
attribute [congr] s7 wX sY xf qS ta BJ sO qK sP
theorem Kk:Int.toNat 0=0:=rfl
theorem Kl:Int.toNat 1=1:=rfl
theorem Km:Int.toNat 2=2:=rfl
theorem Ko:Int.toNat 3=3:=rfl
theorem Kp:Int.toNat 4=4:=rfl
attribute [go_sem] Kk Kl Km Ko Kp
theorem FZ:z8 none=true:=rfl
theorem Ck (k:IntKind) (n:Int):z8 (some (.x (.int k n)))=true:=rfl
attribute [go_sem] eT Jb Jc Jd ET Jo Jz JI JS Fs M8 M9 JP JQ Na JR Fo Fp BR Fq tw Nb Nc Ft Nf R6 R7 JT IW mn zY tD ml
attribute [go_sem] LX qV FZ Ck Option.map_none El LY Je Jf Jg EY Jq JB M2 M3 JK JM M4 JN Fk Fl BQ Fm EU EV EW IV tu M5 M6 Fn M7 R4 R5 JO
abbrev T3:=Int×Int×ByteArray
abbrev tv (r:T3):V:=vl r.1 r.2.1 r.2.2
attribute [go_sem] vl tv Xl Xm R8 R9 Bool.not_eq_true' Bool.not_eq_false' Bool.not_not
def cJ:List (Nat×V)->Nat->V
 |[]=>fun _=> .undef
 |(i,v)::l=>upd (cJ l) i v
def wa:List (Nat×List V)->Nat->Option (List V)
 |[]=>fun _=>none
 |(i,cs)::l=>upd (wa l) i (some cs)
def au (ts:List (Nat×V)) (bs:List (Nat×List V)):St:=⟨cJ ts,wa bs⟩
def fu (st:St):List (Nat×V)->Prop
 |[]=>True
 |(i,v)::l=>st.t i=v∧fu st l
def fR (st:St):List (Nat×List V)->Prop
 |[]=>True
 |(i,v)::l=>st.b i=some v∧fR st l
variable {st:St}
theorem aJ {ts:List (Nat×V)} {bs:List (Nat×List V)} (h:fu st ts) (k:fR st bs):Le (au ts bs) st:=by
 refine⟨fun i=>?_,fun s cs hs=>?_⟩
 . show(cJ ts i).le (st.t i)
   induction ts with
   |nil=>exact .inl rfl
   | cons p l ih=>
     simp only[cJ,aE];split
     . rename_i e;subst e;exact .inr (.inl h.1.symm)
     . exact ih h.2
 . have hs:wa bs s=some cs:=hs
   induction bs with
   |nil=>cases hs
   | cons p l ih=>
     simp only[wa,aE] at hs;split at hs
     . rename_i e;cases hs;subst e;exact⟨_,k.1,gh _⟩
     . exact ih k.2 hs hs
def pF {X:Type} (T:X->List (Nat×V)) (B:X->List (Nat×List V)) (μ:X->Nat) (n:Nat) (st:St):Prop:=∃x',fu st (T x')∧fR st (B x')∧μ x'<n
def nw {X:Type} (T:X->List (Nat×V)) (B:X->List (Nat×List V)) (μ:X->Nat) (n:Nat) (K:Out->St->Prop):Out->St->Prop
 | .normal,st=>pF T B μ n st
 | .ret,st=>K .ret st
 | .exit id,st=>K (.exit id) st
section
variable {X:Type} (T:X->List (Nat×V)) (B:X->List (Nat×List V)) (μ:X->Nat) (n:Nat) (K:Out->St->Prop) (st:St)
theorem qZ:nw T B μ n K .normal st=pF T B μ n st:=rfl
theorem Cl:nw T B μ n K .ret st=K .ret st:=rfl
theorem xE (id:Nat):nw T B μ n K (.exit id) st=K (.exit id) st:=rfl
theorem tI {st':St} (h:st=st'):pF T B μ n st=pF T B μ n st':=by rw[h]
theorem tJ {o o':Out} (h:o=o'):nw T B μ n K o st=nw T B μ n K o' st:=by rw[h]
end
variable {E:Env} {a:Code} {X:Type}
theorem bc {K:Out->St->Prop} (T:X->List (Nat×V)) (B:X->List (Nat×List V)) (μ:X->Nat) (x0:X) (h0:fu st (T x0)) (h0':fR st (B x0))
 (h:∀x,run E a (au (T x) (B x)) (nw T B μ (μ x) K)):kg (run E a) st K:=by
 refine⟨X,fun x=>au (T x) (B x),μ,x0,aJ h0 h0',fun x=>?_⟩;have:=h x
 have e:∀o st',nw T B μ (μ x) K o st'->(match o with
  | .normal=>∃x',Le (au (T x') (B x')) st'∧μ x'<μ x
  |o=>K o st'):=by
  intro o st' hk;cases o with
  |normal=>obtain⟨x',h1,h2,h3⟩:=hk;exact⟨x',aJ h1 h2,h3⟩
  |ret=>exact hk
  |exit id=>exact hk
 exact nh e this
def iQ:List (Nat×Nat×Nat×V)->Nat->List (Nat×V)
 |[],_=>[]
 |(need,forb,s,v)::r,L=>if L&&&need=need∧L&&&forb=0 then (s,v)::iQ r L else iQ r L
theorem F0 (L:Nat):iQ [] L=[]:=rfl
theorem Cm (need forb s L:Nat) (v:V) (r:List (Nat×Nat×Nat×V)):iQ ((need,forb,s,v)::r) L=if L&&&need=need∧L&&&forb=0 then (s,v)::iQ r L else iQ r L:=rfl
def Np (E:Env) (ops:List Oper) (ts:List (Nat×V)) (bs:List (Nat×List V)) (st:St):Option Oper->Prop
 |some o=>bB E ⟨ops⟩ [o] st fun st'=>fu st' ts∧fR st' bs
 |none=>False
def xF (E:Env) (ops:List Oper) (ents:List (Nat×Nat×Nat×V)) (bs:List (Nat×List V)):List (Nat×Nat×Nat)->Prop
 |[]=>True
 |(L,i,L')::r=>Np E ops (iQ ents L') bs (au (iQ ents L) bs) ops[i]?∧xF E ops ents bs r
theorem F1 (E:Env) (ops:List Oper) (ents:List (Nat×Nat×Nat×V)) (bs:List (Nat×List V)):xF E ops ents bs []=True:=rfl
theorem pG (E:Env) (ops:List Oper) (ents:List (Nat×Nat×Nat×V)) (bs:List (Nat×List V)) (L i L':Nat) (r:List (Nat×Nat×Nat)):xF E ops ents bs ((L,i,L')::r)=(Np E ops (iQ ents L') bs (au (iQ ents L) bs) ops[i]?∧xF E ops ents bs r):=rfl
theorem pH (E:Env) (ops:List Oper) (ts:List (Nat×V)) (bs:List (Nat×List V)) (st:St) (o:Oper):Np E ops ts bs st (some o)=bB E ⟨ops⟩ [o] st fun st'=>fu st' ts∧fR st' bs:=rfl
theorem Ap {ops:List Oper} {K:St->Prop} (ents:List (Nat×Nat×Nat×V)) (bs:List (Nat×List V)) (ps:List (Nat×Nat×Nat)) (h:iN ops ps=true) (h0:fu st (iQ ents 0)∧fR st bs) (ht:xF E ops ents bs ps)
 (hk:K (au (iQ ents (2^ops.length-1)) bs)):ED E ops st K:=by
 refine .inr ⟨fun L=>au (iQ ents L) bs,ps,h,aJ h0.1 h0.2,?_,hk⟩;clear h
 induction ps with
 |nil=>trivial
 | cons p r ih=>
   obtain⟨L,i,L'⟩:=p;rw[pG] at ht;refine⟨?_,ih ht.2⟩;have h1:=ht.1;cases ho:ops[i]? with
   |none=>rw[ho] at h1;exact h1.elim
   |some o=>rw[ho,pH] at h1;obtain⟨st',hs,hl,hb⟩:=cx _ _ h1;exact⟨st',hs,aJ hl hb⟩
theorem ny {K:Out->St->Prop} (i n tok:Nat) {n0:Nat} {k0:Option Nat} (h:st.t i= .sl true n0 [] k0)
 (hr:kg (run E a) ⟨upd st.t i (.sl true n [] (some tok)),st.b⟩ K):kg (run E a) st K:=by
 obtain⟨X,I,μ,x0,h0,hx⟩:=hr;refine⟨X,I,μ,x0,⟨fun j=>?_,h0.b⟩,hx⟩;have:=h0.t j;simp only[aE] at this;split at this
 . rename_i e;subst e;rw[h];rcases this with e|e|⟨n1,k1,n2,k2,e,_⟩
   . exact .inl e
   . exact .inr (.inr ⟨_,_,_,_,e,rfl⟩)
   . exact .inr (.inr ⟨_,_,_,_,e,rfl⟩)
 . exact this
variable {n:Nat}
theorem Nq {n0:Nat} {k k0:Option Nat} (h:u.le (.sl true n [] k)):u.le (.sl true n0 [] k0):=by
 rcases h with h|h|⟨n1,k1,n2,k2,h,_⟩
 . exact .inl h
 . exact .inr (.inr ⟨_,_,_,_,h,rfl⟩)
 . exact .inr (.inr ⟨_,_,_,_,h,rfl⟩)
theorem Cn {K:Out->St->Prop} (s n tok:Nat) (pre post:List V) {n0:Nat} {k0:Option Nat} (h:st.b s=some (pre++ .sl true n0 [] k0::post))
 (hr:kg (run E a) ⟨st.t,upd st.b s (some (pre++ .sl true n [] (some tok)::post))⟩ K):kg (run E a) st K:=by
 obtain⟨X,I,μ,x0,h0,hx⟩:=hr;refine⟨X,I,μ,x0,⟨h0.t,fun s' cs' hs'=>?_⟩,hx⟩;obtain⟨cs,h1,h2,h3⟩:=h0.b s' cs' hs';have h1:upd st.b s (some (pre++ .sl true n [] (some tok)::post)) s'=some cs:=h1;by_cases e:s'=s
 . subst e;rw[aj] at h1;cases h1;refine⟨_,h,by simpa using h2,fun i u' u hu' hu=>?_⟩;by_cases hi:i<pre.length
   . rw[YN hi] at hu;exact h3 i u' u hu' (by rw[YN hi];exact hu)
   . rw[Y7 A0b] at hu;cases hj:i-pre.length with
     |zero=>rw[hj] at hu;cases hu;exact Nq (h3 i u' (.sl true n [] (some tok)) hu' (by rw[Y7 A0b,hj];rfl))
     |succ j=>rw[hj] at hu;exact h3 i u' u hu' (by rw[Y7 A0b,hj];exact hu)
 . rw[ag _ _ e] at h1;exact⟨cs,h1,h2,h3⟩
variable {el by':Nat}
theorem cZ {z:List V} (h1:bm E.P el=some n) (hby:bT E.P el=some by') (hz:ay E.P el=some z) (h4:n≠0) (h5:z.length=n)
 {es:List V} {v:V} (hc:v.cells.all V.cell=true) (hb:(es.length+1)*by'<=140737488355328) (hl:es.length+1<=9223372036854775807) (st:St) (d tok:Nat) (nl:Bool) (t':Option Nat):
 bq E st (some d) el (.sl es.isEmpty n es (some tok)) (.sl nl n [v] t')=some ⟨upd (strip tok (strip d st.t)) d (.sl false n (es++[v]) (some d)),aB E tok (aB E d st.b)⟩:=by
 unfold bq;simp only[h1,hby,hz];cases es with
 |nil=>simp only[List.isEmpty_nil,aak];rw[YG ⟨h4,h5,.inl trivial,by simp only[ZB,hc,abB,aaq],by simpa using hb,A0j⟩];rfl
 |cons e es=>simp only[List.isEmpty_cons];rw[YG ⟨h4,h5,trivial,.inl trivial,by simp only[ZB,hc,abB,aaq],hb,hl⟩]
variable {α:Type}
theorem xG (l:List α) (x:α):(l++[x]).isEmpty=false:=by cases l<;>rfl
attribute [go_sem] se sg xG
attribute [go_sem] F0 Cm pH F1 pG
attribute [go_sem] cJ wa au fu fR Int.le_refl Int.lt_irrefl qZ Cl xE s8
attribute [congr] tJ tI
theorem Sf (x:Int):aw .i64 x=wrap64 x:=(ga _ _).trans (IntWalk.i64_left x)
theorem ak {x:Int} (h:inR x):aw .i64 x=x:=(Sf x).trans (BL h)
theorem aD {i:Nat} (h:i<9223372036854775807):aw .i64 ((i:Int)+1)=((i+1:Nat):Int):=by rw[ak A0h];omega
theorem xH (a:Nat):((a:Int)).toNat=a:=rfl
def gY (b:Int):Bool:=decide (97<=b)&&decide (b<=122)
def Nr (b:Int):Bool:=decide (65<=b)&&decide (b<=90)
def nz (b:Int):Bool:=decide (48<=b)&&decide (b<=57)
def iR:List V->Option V
 |[.x (.int .u8 b)]=>some (.x (.bool (gY b)))
 |_=>none
def kT:List V->Option V
 |[.x (.int .u8 b)]=>some (.x (.bool (nz b)))
 |_=>none
def B (l:List UInt8):ByteArray:=⟨⟨l⟩⟩
open Classical in
noncomputable def FE {α ρ:Type} (enc:α->List V) (G:α->Option ρ):List V->Option ρ:=fun us=>if h:∃a,enc a=us then G (Classical.choose h) else none
variable {ρ:Type}
theorem cq {enc:α->List V} (inj:∀a b,enc a=enc b->a=b) (G:α->Option ρ) (a:α):FE enc G (enc a)=G a:=by unfold FE;have h:∃b,enc b=enc a:=⟨a,rfl⟩;rw[dif_pos h,inj _ _ (Zn h)]
theorem bE {α ρ:Type} {enc:α->List V} {G:α->Option ρ} {r:ρ} (h:FE enc G us=some r):∃a,us=enc a∧G a=some r:=by
 unfold FE at h;split at h
 . rename_i hx;exact⟨_,(Zn hx).symm,h⟩
 . cases h
theorem bX {p:Prop} [Decidable p] {o:Option ρ} {r:ρ} (h:(if p then o else none)=some r):p∧o=some r:=by
 by_cases hp:p
 . rw[YG hp] at h;exact⟨hp,h⟩
 . rw[YL hp] at h;cases h
theorem Kq {f:FuncId} {enc:α->List V} {G:α->Option V} (μ:α->Nat) (hcall:∀args w,(callFunc f args).run (ba []).P w= .ok (.enter f args) w)
 (h:∀n,cM f (FE enc fun a=>if μ a<n then G a else none)->cM f (FE enc fun a=>if μ a<n+1 then G a else none)):cM f (FE enc G):=by
 have key:∀n,cM f (FE enc fun a=>if μ a<n then G a else none):=by
  intro n
  induction n with
  |zero=>refine⟨hcall,fun m w vs us r hF=>?_⟩;obtain⟨a,_,ha⟩:=bE hF;rw[YL (aaB _)] at ha;cases ha
  |succ n ih=>exact h n ih
 refine⟨hcall,fun m w vs us r hF=>?_⟩;have hx:∃a,enc a=us:=by obtain⟨a,ha,_⟩:=bE hF;exact⟨a,ha.symm⟩
 refine(key (μ (Classical.choose hx)+1)).2 m w vs us r ?_;unfold FE at hF⊢;rw[dif_pos hx] at hF⊢;show(if μ (Classical.choose hx)<μ (Classical.choose hx)+1 then G (Classical.choose hx) else none)=some r;rw[YG (Nat.lt_succ_self _)];exact hF
theorem Co {z:List V} (h1:bm E.P el=some n) (hby:bT E.P el=some by') (hz:ay E.P el=some z) (h4:n≠0) (h5:z.length=n)
 {v:V} (hc:v.cells.all V.cell=true) {len:Nat} (hb:(len+1)*by'<=140737488355328) (hl:len+1<=9223372036854775807) (st:St) (d s:Nat) (nl:Bool) (t':Option Nat) (hMB:E.MB d=false:=by rfl):
 bq E st (some d) el (.row s n len) (.sl nl n [v] t')=match st.b s with
  |some cs=>some ⟨upd (kill s (kill d st.t)) d (.row d n (len+1)),upd (upd st.b s none) d (some (cs.take (len*n)++v.cells))⟩
  |none=>none:=by
 unfold bq;simp only[h1,hby,hz];cases st.b s with
 |none=>rfl
 |some cs=>simp only;rw[YG ⟨h4,h5,trivial,.inl trivial,by simp only[ZB,hc,abB,aaq],hb,hl,hMB⟩];simp
end Go.Proofs.YtmfojhkjbkombaaGreat

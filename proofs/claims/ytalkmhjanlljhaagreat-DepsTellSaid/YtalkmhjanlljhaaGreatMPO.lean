/- The run over plain data at this seat: what the calls lean on. -/
import Derived.Test.YtalkmhjanlljhaaGreatPfTy
import Derived.Test.YtalkmhjanlljhaaGreatGlob
import Derived.Test.YtalkmhjanlljhaaGreatArithP
import Derived.KernelRfl
namespace Go.Proofs.YtalkmhjanlljhaaGreat
set_option linter.unusedSimpArgs false
open Go Go.RowKit
def yM:List (Nat×(List V->Option V))->Nat->Option (List V->Option V)
 |[],_=>none
 |(k,F)::l,i=>if k=i then some F else yM l i
def bo:List (Nat×(List V->Option (V×List (List V))))->Nat->Option (List V->Option (V×List (List V)))
 |[],_=>none
 |(k,F)::l,i=>if k=i then some F else bo l i
noncomputable def aP (l:List (Nat×(List V->Option V))) (M:Nat->Bool) (lp:List (Nat×(List V->Option (V×List (List V))))) (MB any:Nat->Bool):Env:=⟨Tryz.prog,yM l,fun _=> .undef,Glob,M,bo lp,eu,MB,any,fun _ _=>none,0,fun _=>none,fun _=>false,fun _=>false⟩
noncomputable def fo (l:List (Nat×(List V->Option V))) (M:Nat->Bool) (lp:List (Nat×(List V->Option (V×List (List V))))):Env:=aP l M lp (fun _=>false) (fun _=>false)
noncomputable def cG (l:List (Nat×(List V->Option V))) (M:Nat->Bool):Env:=fo l M []
noncomputable def au (l:List (Nat×(List V->Option V))):Env:=cG l fun _=>false
section
variable (l:List (Nat×(List V->Option V))) (M:Nat->Bool) (lp:List (Nat×(List V->Option (V×List (List V))))) (MB any:Nat->Bool)
theorem j9:(aP l M lp MB any).P=Tryz.prog:=rfl
theorem JK:(aP l M lp MB any).F=yM l:=rfl
theorem Gt:(aP l M lp MB any).FP=bo lp:=rfl
theorem Gu (d:Option Tmp):(aP l M lp MB any).fzO d=false:=by cases d<;>rfl
theorem Gv (d:Option Tmp):(fo l M lp).fzO d=false:=by cases d<;>rfl
theorem Gw (d:Option Tmp):(cG l M).fzO d=false:=by cases d<;>rfl
theorem Df (d:Option Tmp):(au l).fzO d=false:=by cases d<;>rfl
theorem Dg (d:Option Tmp):(aP l M lp MB any).litD d=false:=by cases d<;>rfl
theorem Dh (d:Option Tmp):(fo l M lp).litD d=false:=by cases d<;>rfl
theorem Di (d:Option Tmp):(cG l M).litD d=false:=by cases d<;>rfl
theorem Gx:(aP l M lp MB any).FM=fun _=>none:=rfl
theorem Gy:(fo l M lp).FM=fun _=>none:=rfl
theorem Gz:(cG l M).FM=fun _=>none:=rfl
theorem Dj:(au l).FM=fun _=>none:=rfl
theorem JM:(aP l M lp MB any).G=fun _=> .undef:=rfl
theorem GA:(aP l M lp MB any).MB=MB:=rfl
theorem Dk:(aP l M lp MB any).any=any:=rfl
theorem Dl (d:Nat):(aP l M lp MB any).own (some d)=M d:=rfl
theorem JN:(fo l M lp).P=Tryz.prog:=rfl
theorem JO:(fo l M lp).F=yM l:=rfl
theorem GB:(fo l M lp).FP=bo lp:=rfl
theorem JP:(fo l M lp).G=fun _=> .undef:=rfl
theorem GC:(fo l M lp).MB=fun _=>false:=rfl
theorem Dm (i:Nat):(fo l M lp).any i=false:=rfl
theorem Dn (d:Nat):(fo l M lp).own (some d)=M d:=rfl
theorem JQ:(cG l M).P=Tryz.prog:=rfl
theorem JR:(cG l M).F=yM l:=rfl
theorem GD:(cG l M).FP=fun _=>none:=rfl
theorem JS:(cG l M).G=fun _=> .undef:=rfl
theorem GE:(cG l M).MB=fun _=>false:=rfl
theorem Do (i:Nat):(cG l M).any i=false:=rfl
theorem Dp (d:Nat):(cG l M).own (some d)=M d:=rfl
theorem Aw (d:Option Tmp):(au l).own d=false:=by cases d<;>rfl
theorem dM:(au l).P=Tryz.prog:=rfl
theorem GF:(au l).F=yM l:=rfl
theorem Dq:(au l).FP=fun _=>none:=rfl
theorem GG:(au l).G=fun _=> .undef:=rfl
theorem Dr:(au l).MB=fun _=>false:=rfl
theorem Ay (i:Nat):(au l).any i=false:=rfl
noncomputable def iP (l:List (Nat×(List V->Option V))) (any:Nat->Bool):Env:=aP l (fun _=>false) [] (fun _=>false) any
theorem sM:(aP l M lp MB any).plain=iP l any:=rfl
theorem sN:(fo l M lp).plain=au l:=rfl
theorem wt:(cG l M).plain=au l:=rfl
theorem sO:(au l).plain=au l:=rfl
theorem GH (d:Option Tmp):(iP l any).fzO d=false:=by cases d<;>rfl
theorem JT:(iP l any).P=Tryz.prog:=rfl
theorem JU:(iP l any).F=yM l:=rfl
theorem GI:(iP l any).FP=fun _=>none:=rfl
theorem GJ:(iP l any).FM=fun _=>none:=rfl
theorem JV:(iP l any).G=fun _=> .undef:=rfl
theorem GK:(iP l any).MB=fun _=>false:=rfl
theorem Ds (d:Option Tmp):(iP l any).own d=false:=by cases d<;>rfl
section
variable (st:St) (b:Nat->Option (List V)) (k s:Nat) (p u:V) (d:Option Nat) (cs:List V)
theorem JW:wipe (fo l M lp) st=st:=rfl
theorem JX:wipe (cG l M) st=st:=rfl
theorem JY:wipe (au l) st=st:=rfl
theorem Dt:aB (fo l M lp) k b=b:=rfl
theorem Du:aB (cG l M) k b=b:=rfl
theorem Dv:aB (au l) k b=b:=rfl
theorem Dw:aB (iP l any) k b=b:=rfl
theorem JZ:(fo l M lp).kept s u=u.bare:=rfl
theorem J0:(cG l M).kept s u=u.bare:=rfl
theorem J2:(au l).kept s u=u.bare:=rfl
theorem J3:(iP l any).kept s u=u.bare:=rfl
theorem PJ:(fo l M lp).okS s u=true:=rfl
theorem PK:(cG l M).okS s u=true:=rfl
theorem PM:(au l).okS s u=true:=rfl
theorem PN:(iP l any).okS s u=true:=rfl
theorem PO:(fo l M lp).okN d cs=true:=by cases d<;>rfl
theorem PP:(cG l M).okN d cs=true:=by cases d<;>rfl
theorem PQ:(au l).okN d cs=true:=by cases d<;>rfl
theorem PS:(iP l any).okN d cs=true:=by cases d<;>rfl
theorem PT:(aP l M lp MB any).okN (some s) cs=(!MB s||cs.all V.unm):=rfl
theorem J4:(aP l M lp MB any).okN none cs=true:=rfl
theorem PU:(aP l M lp MB any).okS s u=(!MB s||(u.isSl||u.cells.all V.unm)):=rfl
theorem J5:(aP l M lp MB any).kept s u=if MB s=true then u else u.bare:=rfl
theorem GL (o:Nat):(aP l M lp MB any).keepL (.ptr s o) u=if MB s=true then u else u.bare:=rfl
theorem Dx:(aP l M lp MB any).keepL (.ip cs) u=u.bare:=rfl
theorem Az:aB (aP l M lp MB any) k b s=if MB s=true then (b s).map (List.map (cg k)) else b s:=rfl
theorem Dy:yk (aP l M lp MB any) b s=if MB s=true then (b s).map (List.map V.bare) else b s:=rfl
theorem GM:wipe (aP l M lp (fun _=>false) any) st=st:=rfl
theorem GN:(fo l M lp).keepL p u=u.bare:=by cases p<;>rfl
theorem GO:(cG l M).keepL p u=u.bare:=by cases p<;>rfl
theorem GP:(au l).keepL p u=u.bare:=by cases p<;>rfl
theorem GQ:(iP l any).keepL p u=u.bare:=by cases p<;>rfl
end
end
def bM (f:FuncId) (F:List V->Option V):Prop:=Fun (au []) f F
def sP:List (Nat×(List V->Option V))->Prop
 |[]=>True
 |p::l=>bM p.1 p.2∧sP l
def yN (f:FuncId) (F:List V->Option (V×List (List V))):Prop:=FunP (au []) f F
def AA:List (Nat×(List V->Option (V×List (List V))))->Prop
 |[]=>True
 |p::l=>yN p.1 p.2∧AA l
theorem eH (l:List (Nat×(List V->Option V))) (M:Nat->Bool) (lp:List (Nat×(List V->Option (V×List (List V))))) (MB any:Nat->Bool) (h:sP l) (hp:AA lp):EnvOK (aP l M lp MB any):=by
 refine⟨fun f F hF=>?_,fun f F hF=>?_,fun X w w' hX hj hb=>Glob.low hj hb.size ⟨hb.os,hb.tape,hb.output,hb.size,fun k hk=>hb.block k (VD hk (Glob.high hj)) (fun hm=>absurd (hX k hm) (XO.2 hk))⟩,fun w hj=>Glob.high hj,(fun f lb=>rfl),fun f F hF=>by cases hF⟩
 . have key:∀l,sP l->yM l f=some F->bM f F:=by
    intro l
    induction l with
    |nil=>intro _ h;cases h
    | cons p l ih=>
      intro h hF;simp only[yM] at hF;split at hF
      . rename_i e;cases hF;exact e▸h.1
      . exact ih h.2 hF
   exact key l h hF
 . have key:∀l,AA l->bo l f=some F->yN f F:=by
    intro l
    induction l with
    |nil=>intro _ h;cases h
    | cons p l ih=>
      intro h hF;simp only[bo] at hF;split at hF
      . rename_i e;cases hF;exact e▸h.1
      . exact ih h.2 hF
   exact key lp hp hF
theorem qG (l:List (Nat×(List V->Option V))) (M:Nat->Bool) (lp:List (Nat×(List V->Option (V×List (List V))))) (h:sP l) (hp:AA lp):EnvOK (fo l M lp):=eH l M lp _ _ h hp
theorem qH (l:List (Nat×(List V->Option V))) (M:Nat->Bool) (h:sP l):EnvOK (cG l M):=qG l M [] h trivial
theorem aM (l:List (Nat×(List V->Option V))) (h:sP l):EnvOK (au l):=qH l _ h
theorem nC (l:List (Nat×(List V->Option V))) (M:Nat->Bool) (lp:List (Nat×(List V->Option (V×List (List V))))) (MB any:Nat->Bool) (u:V):iD (aP l M lp MB any) u=none:=by unfold iD;split<;>rfl
theorem J6 (l:List (Nat×(List V->Option V))) (M:Nat->Bool) (lp:List (Nat×(List V->Option (V×List (List V))))) (u:V):iD (fo l M lp) u=none:=nC _ _ _ _ _ u
theorem J7 (l:List (Nat×(List V->Option V))) (M:Nat->Bool) (u:V):iD (cG l M) u=none:=nC _ _ _ _ _ u
theorem J8 (l:List (Nat×(List V->Option V))) (u:V):iD (au l) u=none:=nC _ _ _ _ _ u
theorem J9 (l:List (Nat×(List V->Option V))) (any:Nat->Bool) (u:V):iD (iP l any) u=none:=nC _ _ _ _ _ u
noncomputable def dB (G:Nat->V) (X:FuncId->List Value->Option (List V->Option (V×List (List V)))) (xk:Nat):Env:=⟨Tryz.prog,fun _=>none,G,Glob,fun _=>false,fun _=>none,eu,fun _=>false,fun _=>false,X,xk,fun _=>none,fun _=>false,fun _=>false⟩
section
variable (G:Nat->V) (X:FuncId->List Value->Option (List V->Option (V×List (List V)))) (xk:Nat) (f:FuncId) (u:V) (d:Option Nat) (cs:List V) (st:St) (b:Nat->Option (List V)) (k s:Nat) (p:V)
theorem GR (d:Option Tmp):(dB G X xk).fzO d=false:=by cases d<;>rfl
theorem Ka:(dB G X xk).P=Tryz.prog:=rfl
theorem Kb:(dB G X xk).F=fun _=>none:=rfl
theorem GS:(dB G X xk).FP=fun _=>none:=rfl
theorem GT:(dB G X xk).FM=fun _=>none:=rfl
theorem Kc:(dB G X xk).G=G:=rfl
theorem GU:(dB G X xk).MB=fun _=>false:=rfl
theorem Dz (i:Nat):(dB G X xk).any i=false:=rfl
theorem DA:(dB G X xk).own d=false:=by cases d<;>rfl
theorem Kd:(dB G X xk).X=X:=rfl
theorem GV:(dB G X xk).xk=xk:=rfl
theorem GW (lb:Array Value):iD (dB G X xk) (.x (.func (.func f) #[] lb))=X f lb.toList:=rfl
theorem DB:iD (dB G X xk) (.x (.func (.func f) #[] #[]))=X f []:=rfl
theorem Ke:wipe (dB G X xk) st=st:=rfl
theorem DC:aB (dB G X xk) k b=b:=rfl
theorem Kf:(dB G X xk).kept s u=u.bare:=rfl
theorem PV:(dB G X xk).okS s u=true:=rfl
theorem PW:(dB G X xk).okN d cs=true:=by cases d<;>rfl
theorem GX:(dB G X xk).keepL p u=u.bare:=by cases p<;>rfl
end
theorem yO (G:Nat->V) (X:FuncId->List Value->Option (List V->Option (V×List (List V)))) (xk:Nat) (h1:1000<=xk) (pm:Pm) (bk:Nat) (hb:pm.b (dB G X xk).xk=bk) (h:∀f lb F,(dB G X xk).X f lb=some F->FunX (dB G X xk) bk f lb F):EnvX (dB G X xk) pm:=
 ⟨(fun f F e=>by cases e),(fun f F e=>by cases e),fun X w w' hX hj hb=>Glob.low hj hb.size ⟨hb.os,hb.tape,hb.output,hb.size,fun k hk=>hb.block k (VD hk (Glob.high hj)) (fun hm=>absurd (hX k hm) (XO.2 hk))⟩,(fun w hj=>Glob.high hj),(fun f lb F e=>⟨h1,by rw[hb];exact h f lb F e⟩),.inl (fun _=>rfl),fun f F hF=>by cases hF⟩
def DD (f:FuncId) (F:List V->Option (List V×List V)):Prop:=FunM (au []) f F
def GY:List (Nat×(List V->Option (List V×List V)))->Prop
 |[]=>True
 |p::l=>DD p.1 p.2∧GY l
def Ja:List (Nat×(List V->Option (List V×List V)))->Nat->Option (List V->Option (List V×List V))
 |[],_=>none
 |(k,F)::l,i=>if k=i then some F else Ja l i
noncomputable def eQ (l:List (Nat×(List V->Option V))) (lp:List (Nat×(List V->Option (V×List (List V))))) (lm:List (Nat×(List V->Option (List V×List V)))) (lit any:Nat->Bool):Env:=⟨Tryz.prog,yM l,fun _=> .undef,Glob,lit,bo lp,eu,fun _=>false,any,fun _ _=>none,0,Ja lm,lit,fun _=>false⟩
section
variable (l:List (Nat×(List V->Option V))) (lp:List (Nat×(List V->Option (V×List (List V))))) (lm:List (Nat×(List V->Option (List V×List V)))) (lit any:Nat->Bool) (u:V) (d:Option Nat) (cs:List V) (st:St) (b:Nat->Option (List V)) (k s:Nat) (p:V)
theorem GZ (d:Option Tmp):(eQ l lp lm lit any).fzO d=false:=by cases d<;>rfl
theorem Kg:(eQ l lp lm lit any).P=Tryz.prog:=rfl
theorem Kh:(eQ l lp lm lit any).F=yM l:=rfl
theorem G0:(eQ l lp lm lit any).FP=bo lp:=rfl
theorem G1:(eQ l lp lm lit any).FM=Ja lm:=rfl
theorem Ki:(eQ l lp lm lit any).G=fun _=> .undef:=rfl
theorem G3:(eQ l lp lm lit any).MB=fun _=>false:=rfl
theorem DE:(eQ l lp lm lit any).any=any:=rfl
theorem DF (d:Nat):(eQ l lp lm lit any).own (some d)=lit d:=rfl
theorem AB:(eQ l lp lm lit any).own none=false:=rfl
theorem DG (d:Nat):(eQ l lp lm lit any).litD (some d)=lit d:=rfl
theorem sQ:(eQ l lp lm lit any).plain=iP l any:=rfl
theorem Kj:iD (eQ l lp lm lit any) u=none:=by unfold iD;split<;>rfl
theorem Kk:wipe (eQ l lp lm lit any) st=st:=rfl
theorem DH:aB (eQ l lp lm lit any) k b=b:=rfl
theorem Kl:(eQ l lp lm lit any).kept s u=u.bare:=rfl
theorem PX:(eQ l lp lm lit any).okS s u=true:=rfl
theorem PY:(eQ l lp lm lit any).okN d cs=true:=by cases d<;>rfl
theorem G4:(eQ l lp lm lit any).keepL p u=u.bare:=by cases p<;>rfl
end
theorem kO (l:List (Nat×(List V->Option V))) (lp:List (Nat×(List V->Option (V×List (List V))))) (lm:List (Nat×(List V->Option (List V×List V)))) (lit any:Nat->Bool) (h:sP l) (hp:AA lp) (hq:GY lm):EnvOK (eQ l lp lm lit any):=by
 have h0:=eH l (fun _=>false) lp (fun _=>false) any h hp;refine⟨h0.fn,h0.fnP,h0.keep,h0.high,h0.noX,fun f F hF=>?_⟩;have key:∀l,GY l->Ja l f=some F->DD f F:=by
  intro l
  induction l with
  |nil=>intro _ h;cases h
  | cons p l ih=>
    intro h hF;simp only[Ja] at hF;split at hF
    . rename_i e;cases hF;exact e▸h.1
    . exact ih h.2 hF
 exact key lm hq hF
noncomputable def fK (l:List (Nat×(List V->Option V))) (lp:List (Nat×(List V->Option (V×List (List V))))) (lm:List (Nat×(List V->Option (List V×List V)))) (M lit fz any:Nat->Bool):Env:=⟨Tryz.prog,yM l,fun _=> .undef,Glob,M,bo lp,eu,fun _=>false,any,fun _ _=>none,0,Ja lm,lit,fz⟩
section
variable (l:List (Nat×(List V->Option V))) (lp:List (Nat×(List V->Option (V×List (List V))))) (lm:List (Nat×(List V->Option (List V×List V)))) (M lit fz any:Nat->Bool) (u:V) (d:Option Nat) (cs:List V) (st:St) (b:Nat->Option (List V)) (k s:Nat) (p:V)
theorem Km:(fK l lp lm M lit fz any).P=Tryz.prog:=rfl
theorem Ko:(fK l lp lm M lit fz any).F=yM l:=rfl
theorem G5:(fK l lp lm M lit fz any).FP=bo lp:=rfl
theorem G6:(fK l lp lm M lit fz any).FM=Ja lm:=rfl
theorem Kp:(fK l lp lm M lit fz any).G=fun _=> .undef:=rfl
theorem G7:(fK l lp lm M lit fz any).MB=fun _=>false:=rfl
theorem DI:(fK l lp lm M lit fz any).any=any:=rfl
theorem DJ (d:Nat):(fK l lp lm M lit fz any).own (some d)=M d:=rfl
theorem AC:(fK l lp lm M lit fz any).own none=false:=rfl
theorem DK (d:Nat):(fK l lp lm M lit fz any).litD (some d)=lit d:=rfl
theorem G8 (d:Nat):(fK l lp lm M lit fz any).fzO (some d)=fz d:=rfl
theorem DL:(fK l lp lm M lit fz any).fzO none=false:=rfl
theorem sR:(fK l lp lm M lit fz any).plain=iP l any:=rfl
theorem Kq:iD (fK l lp lm M lit fz any) u=none:=by unfold iD;split<;>rfl
theorem Kr:wipe (fK l lp lm M lit fz any) st=st:=rfl
theorem DM:aB (fK l lp lm M lit fz any) k b=b:=rfl
theorem Ks:(fK l lp lm M lit fz any).kept s u=u.bare:=rfl
theorem PZ:(fK l lp lm M lit fz any).okS s u=true:=rfl
theorem P0:(fK l lp lm M lit fz any).okN d cs=true:=by cases d<;>rfl
theorem G9:(fK l lp lm M lit fz any).keepL p u=u.bare:=by cases p<;>rfl
end
theorem yP (l:List (Nat×(List V->Option V))) (lp:List (Nat×(List V->Option (V×List (List V))))) (lm:List (Nat×(List V->Option (List V×List V)))) (M lit fz any:Nat->Bool) (h:sP l) (hp:AA lp) (hq:GY lm):EnvOK (fK l lp lm M lit fz any):=by have h0:=kO l lp lm lit any h hp hq;exact⟨h0.fn,h0.fnP,h0.keep,h0.high,h0.noX,h0.fnM⟩
theorem pp {m:Lim} {w:World}:∀{vs:List Value} {us:List V} {xs:List Value},RdL m w vs us->us.mapM V.one=some xs->vs=xs
 |[],[],xs,_,h=>by simp at h;exact h.symm
 | v ::vs,u::us,xs,hr,h=>by
   rw[WX] at h;cases u with
   | x u=>
     simp only[V.one,Xu,Xa,Wg] at h;cases hm:us.mapM V.one with
     |none=>rw[hm] at h;cases h
     |some r=>rw[hm] at h;cases h;rw[pp hr.2 hm,Rd.x_iff.1 hr.1]
   |_=>simp[V.one] at h
variable {m:Lim} {w:World} {u:V}
theorem Kt {v x:Value} (h:Rd m w v u) (hu:u.val=some x):v=x:=by
 cases u with
 |x u=>cases hu;exact Rd.x_iff.1 h
 |agg cs=>obtain⟨a,rfl,hr⟩:=Rd.agg_iff.1 h;simp only[V.val,U9] at hu;obtain⟨l,hl,rfl⟩:=hu;have:=pp hr hl;rw[<-this]
 |_=>simp[V.val] at hu
theorem yQ {m:Lim} {w:World}:∀{vs:List Value} {us:List V} {xs:List Value},RdL m w vs us->us.map V.val=xs.map some->vs=xs
 |[],[],[],_,_=>rfl
 |[],[],_::_,_,h=>by simp at h
 |v::vs,u::us,[],_,h=>by simp at h
 |v::vs,u::us,x::xs,hr,h=>by simp only[VC,VE] at h;rw[Kt hr.1 h.1,yQ hr.2 h.2]
variable {us:List V}
theorem yR {vs:Array Value} {xs:List Value} (hr:RdL m w vs.toList us) (h:us.map V.val=xs.map some):vs=xs.toArray:=by rw[<-yQ hr h]
abbrev vl (k n:Int) (s:ByteArray):V:= .agg [.x (.int .i64 k),.x (.int .i64 n),.x (.string s)]
variable {s i:Nat} {t:Nat->V}
theorem bX {v:V} (hv:v.nm≠some s) (h:noPtrTo s t):noPtrTo s (aD t i v)=True:=by
 refine eq_true (fun j=>?_);rw[aH];split
 . exact hv
 . exact h j
theorem TW (b:Bool):(b==true)=b:=by cases b<;>rfl
theorem TY (b:Bool):(b==false)= !b:=by cases b<;>rfl
theorem P3 (b:Bool):(true==b)=b:=by cases b<;>rfl
theorem P4 (b:Bool):(false==b)= !b:=by cases b<;>rfl
section
variable {s i:Nat} {t:Nat->V}
theorem TZ {v:Value} (h:noPtrTo s t):noPtrTo s (aD t i (.x v)):=by rw[bX (by simp) h];trivial
variable {v:List V}
theorem Ku (h:noPtrTo s t):noPtrTo s (aD t i (.agg v)):=by rw[bX (by simp) h];trivial
theorem Kv (h:noPtrTo s t):noPtrTo s (aD t i (.tup v)):=by rw[bX (by simp) h];trivial
variable {z:Nat}
theorem P5 {a:Bool} {c:Option Nat} (h:noPtrTo s t):noPtrTo s (aD t i (.sl a z v c)):=by rw[bX (by simp) h];trivial
theorem P6 (h:noPtrTo s t):noPtrTo s (aD t i (.ip v)):=by rw[bX (by simp) h];trivial
theorem DN (h:noPtrTo s t):noPtrTo s (aD t i .undef):=by rw[bX (by simp) h];trivial
variable {s':Nat}
theorem Kw {off:Nat} (h:noPtrTo s t) (hne: ¬s=s'):noPtrTo s (aD t i (.ptr s' off)):=by rw[bX (by simp[WL hne]) h];trivial
theorem Kx {l:Nat} (h:noPtrTo s t) (hne: ¬s=s'):noPtrTo s (aD t i (.row s' z l)):=by rw[bX (by simp[WL hne]) h];trivial
end
variable {k:Nat}
theorem DO (h:noPtrTo s t):noPtrTo s (strip k t):=by intro i;rw[kF];exact h i
theorem Ha (h:noPtrTo s t):noPtrTo s (kill k t):=fun i=>qB _ _ _ _ (h i)
theorem DQ (k:Nat) (t:Nat->V) (i:Nat):strip k t i=cg k (t i):=by unfold strip;exact Eq.refl _
theorem DR (k:Nat) (v:Value):cg k (.x v)= .x v:=bc _ _
theorem wu (k:Nat) (v:List V):cg k (.agg v)= .agg v:=bc _ _
theorem wv (k:Nat) (v:List V):cg k (.tup v)= .tup v:=bc _ _
theorem AD (k:Nat) (v:List V):cg k (.ip v)= .ip v:=bc _ _
theorem ww (k s o:Nat):cg k (.ptr s o)= .ptr s o:=bc _ _
theorem wx (k s z l:Nat):cg k (.row s z l)= .row s z l:=bc _ _
theorem Hc (k:Nat) (t:Nat->V) (i:Nat):kill k t i=eJ k (t i):=by unfold kill;exact Eq.refl _
theorem He (k:Nat) (v:Value):eJ k (.x v)= .x v:=cV _ _
theorem AE (k:Nat) (v:List V):eJ k (.agg v)= .agg v:=cV _ _
theorem AF (k:Nat) (v:List V):eJ k (.tup v)= .tup v:=cV _ _
theorem DS (k:Nat) (v:List V):eJ k (.ip v)= .ip v:=cV _ _
theorem DT (k:Nat) (nl:Bool) (sz:Nat) (es:List V) (t:Option Nat):eJ k (.sl nl sz es t)= .sl nl sz es t:=cV _ _
theorem AG (k:Nat) (t:TypeId):eJ k (.dyn t)= .dyn t:=cV _ _
theorem sS (k:Nat):eJ k .undef= .undef:=cV _ _
theorem AH (k s o:Nat):eJ k (.ptr s o)=if s=k then .undef else .ptr s o:=cV _ _
theorem AI (k s z l:Nat):eJ k (.row s z l)=if s=k then .undef else .row s z l:=cV _ _
theorem DU (k:Nat) (ks vs:List V):eJ k (.fm ks vs)= .fm ks vs:=cV _ _
theorem AJ (k:Nat) (ks vs:List V):cg k (.fm ks vs)= .fm ks vs:=bc _ _
variable {vs:List V}
theorem P7 {ks:List V} (h:noPtrTo s t):noPtrTo s (aD t i (.fm ks vs)):=by rw[bX (by simp) h];trivial
attribute [go_sem] DU AJ P7 mA CE LN
theorem wy (k:Nat) (t:TypeId):cg k (.dyn t)= .dyn t:=bc _ _
theorem Ky {d:TypeId} (h:noPtrTo s t):noPtrTo s (aD t i (.dyn d)):=by rw[bX (by simp) h];trivial
theorem qI (k:Nat):cg k .undef= .undef:=bc _ _
theorem sT (k:Nat) (nl:Bool) (sz:Nat) (es:List V):cg k (.sl nl sz es none)= .sl nl sz es none:=bc _ _
theorem sU (k s:Nat) (nl:Bool) (sz:Nat) (es:List V):cg k (.sl nl sz es (some s))= .sl nl sz es (if s=k then none else some s):=bc _ _
theorem sV:noPtrTo s (fun _=> .undef)=True:=eq_true (fun _ h=>by cases h)
theorem Hf:start []=⟨fun _=> .undef,fun _=>none⟩:=rfl
theorem Hg (u0:V):start [u0]=⟨aD (fun _=> .undef) 0 u0,fun _=>none⟩:=rfl
theorem Hh (u0 u1:V):start [u0,u1]=⟨aD (aD (fun _=> .undef) 1 u1) 0 u0,fun _=>none⟩:=rfl
theorem Hi (u0 u1 u2:V):start [u0,u1,u2]=⟨aD (aD (aD (fun _=> .undef) 2 u2) 1 u1) 0 u0,fun _=>none⟩:=rfl
theorem Hj (u0 u1 u2 u3:V):start [u0,u1,u2,u3]=⟨aD (aD (aD (aD (fun _=> .undef) 3 u3) 2 u2) 1 u1) 0 u0,fun _=>none⟩:=rfl
theorem Hk (u0 u1 u2 u3 u4:V):start [u0,u1,u2,u3,u4]=⟨aD (aD (aD (aD (aD (fun _=> .undef) 4 u4) 3 u3) 2 u2) 1 u1) 0 u0,fun _=>none⟩:=rfl
theorem Hl (u0 u1 u2 u3 u4 u5:V):start [u0,u1,u2,u3,u4,u5]=⟨aD (aD (aD (aD (aD (aD (fun _=> .undef) 5 u5) 4 u4) 3 u3) 2 u2) 1 u1) 0 u0,fun _=>none⟩:=rfl
attribute [go_sem] C1 wf C2 Gr C4 Ap sB Aq C5 Gs sC C6 Ar oQ wh iN wm sF Ad vO sa vP vQ se qx cK dF eK aR ev dT Hf Hg Hh Hi Hj Hk Hl St.put aH vr vp vq qk LT rE fF kz gn dm np V.notPtr V.dat V.cell V.cells kw li iM isA L1 eY qD ig TZ Ku Kv P5 P6 DN Kw sV yM dM GF GG cI
attribute [go_sem] zW kr wy Ky F3 dP di cT my mU ey dc vh qh vm F6 o4 zP CC zQ zR ry CF CJ yA yC DQ DR wu wv AD ww qI sT sU DO bytesOf
attribute [go_sem] ite_true ite_false true_implies and_true true_and and_self reduceCtorEq false_implies if_true if_false List.getElem?_toArray List.getElem?_cons_succ List.getElem?_cons_zero Option.bind_some Option.map_some List.map_cons List.map_nil List.all_cons List.all_nil Bool.and_self Bool.true_and Bool.and_true Bool.false_eq_true List.length_cons List.length_nil List.take_succ_cons List.take_zero List.drop_succ_cons List.drop_zero List.cons_append List.nil_append List.mapM_cons List.mapM_nil Option.pure_def Option.bind_eq_bind Option.isNone_none ne_eq not_true_eq_false not_false_eq_true or_self or_false false_or gt_iff_lt ge_iff_le Nat.lt_irrefl Nat.not_lt_zero Nat.le_refl beq_self_eq_true Bool.not_true Bool.not_false Bool.true_eq_false cond_true cond_false List.toList_toArray Nat.zero_le decide_true decide_false imp_self implies_true forall_const List.take_nil List.drop_nil and_false false_and Nat.zero_add Nat.add_zero Bool.true_or Bool.or_true Bool.false_or Bool.or_false Bool.and_false Bool.false_and true_or or_true BEq.rfl
attribute [go_sem 500] bi.eq_1
theorem AK (k:List Nat) (t:Nat->V) (i:Nat):gp k t i=bW k (t i):=by unfold gp;exact Eq.refl _
theorem DV (k:List Nat) (v:Value):bW k (.x v)= .x v:=cq _ _
theorem wz (k:List Nat) (v:List V):bW k (.agg v)= .agg v:=cq _ _
theorem wA (k:List Nat) (v:List V):bW k (.tup v)= .tup v:=cq _ _
theorem AM (k:List Nat) (v:List V):bW k (.ip v)= .ip v:=cq _ _
theorem AN (k:List Nat) (nl:Bool) (sz:Nat) (es:List V) (t:Option Nat):bW k (.sl nl sz es t)= .sl nl sz es t:=cq _ _
theorem AO (k:List Nat) (ks vs:List V):bW k (.fm ks vs)= .fm ks vs:=cq _ _
attribute [go_sem] AO
theorem wB (k:List Nat) (t:TypeId):bW k (.dyn t)= .dyn t:=cq _ _
theorem qJ (k:List Nat):bW k .undef= .undef:=cq _ _
theorem wC (k:List Nat) (s o:Nat):bW k (.ptr s o)= .ptr s o:=cq _ _
theorem wD (k:List Nat) (s z l:Nat):bW k (.row s z l)=if k.contains s=true then .undef else .row s z l:=cq _ _
theorem AP {k:List Nat} (h:noPtrTo s t):noPtrTo s (gp k t):=fun i=>by
 rcases fu k (t i) with⟨e,_⟩|e
 . show(bW k (t i)).nm≠_;rw[e];exact h i
 . show(bW k (t i)).nm≠_;rw[e];simp
theorem AQ (us:List V):cQ us=⟨gc 0 us,dg 0 us⟩:=rfl
attribute [go_sem] JN JO GB JP Dn sN GD Dq bo callP CK LX bA rN AK DV wz wA AM AN wB qJ wC wD AP AQ gc dg kK yL dQ kJ dR o9
variable {s':Nat}
theorem P8 {ks:List V} (h:noPtrTo s t) (hne: ¬s=s'):noPtrTo s (aD t i (.mp s' ks vs)):=by rw[bX (by simp[WL hne]) h];trivial
theorem AR (k s:Nat) (ks vs:List V):cg k (.mp s ks vs)= .mp s ks vs:=bc _ _
theorem sW (k s:Nat) (ks vs:List V):eJ k (.mp s ks vs)=if s=k then .undef else .mp s ks vs:=cV _ _
theorem AS (k:List Nat) (s:Nat) (ks vs:List V):bW k (.mp s ks vs)= .mp s ks vs:=cq _ _
theorem Hm (s:Nat) (ks vs:List V) (t:Nat->V) (i:Nat):oM s ks vs t i=de s ks vs (t i):=by unfold oM;exact Eq.refl _
section
variable (s:Nat) (ks vs:List V)
theorem Hn (v:Value):de s ks vs (.x v)= .x v:=cE _ _ _ _
theorem AT (v:List V):de s ks vs (.agg v)= .agg v:=cE _ _ _ _
theorem AU (v:List V):de s ks vs (.tup v)= .tup v:=cE _ _ _ _
theorem DW (v:List V):de s ks vs (.ip v)= .ip v:=cE _ _ _ _
theorem DX (nl:Bool) (sz:Nat) (es:List V) (t:Option Nat):de s ks vs (.sl nl sz es t)= .sl nl sz es t:=cE _ _ _ _
theorem DY (ks' vs':List V):de s ks vs (.fm ks' vs')= .fm ks' vs':=cE _ _ _ _
attribute [go_sem] DY
theorem AV (t:TypeId):de s ks vs (.dyn t)= .dyn t:=cE _ _ _ _
theorem sX:de s ks vs .undef= .undef:=cE _ _ _ _
theorem AW (k o:Nat):de s ks vs (.ptr k o)= .ptr k o:=cE _ _ _ _
theorem AX (k z l:Nat):de s ks vs (.row k z l)= .row k z l:=cE _ _ _ _
theorem DZ (s':Nat) (ks' vs':List V):de s ks vs (.mp s' ks' vs')=if s'=s then .mp s ks vs else .mp s' ks' vs':=cE _ _ _ _
end
theorem Ho {ks:List V} (h:noPtrTo s t):noPtrTo s (oM k ks vs t):=fun i=>by
 show(de k ks vs (t i)).nm≠_;rcases eM k ks vs (t i) with e|⟨⟨ks',vs',e1⟩,e⟩
 . rw[e];exact h i
 . rw[e];have:=h i;rw[e1] at this;exact this
attribute [go_sem] mz CD P8 Ho AR sW AS Hm Hn AT AU DW DX AV sX AW AX DZ
def P9:Option (List V)->V
 |some cs=> .bx cs
 |none=> .undef
section
variable (b:Nat->Option (List V)) (st:St) (E:Env)
theorem D3 (s:Nat):fG b (.ptr s 0)=P9 (b s):=by show(match b s with|some cs=>V.bx cs|none=> .undef)=_;cases b s<;>rfl
theorem Kz (v:Value):fG b (.x v)= .x v:=dP v
theorem sY (v:List V):fG b (.agg v)= .agg v:=di v
theorem Hp (v:List V):fG b (.ip v)= .ip v:=my v
theorem Hq (ks vs:List V):fG b (.fm ks vs)= .fm ks vs:=mA ks vs
attribute [go_sem] Hq
theorem D4 (t:TypeId):fG b (.dyn t)= .dyn t:=kr t
theorem wE:fG b .undef= .undef:=ey
theorem Hr (s:Nat) (ks vs:List V):fG b (.mp s ks vs)= .mp 0 ks vs:=rfl
theorem Hs (s:Nat) (ks vs:List V):(V.mp s ks vs).datP=true:=rfl
theorem Ht (nl:Bool) (sz:Nat) (es:List V) (t:Option Nat):fG b (.sl nl sz es t)=vB nl sz es t:=rfl
def qK (sz:Nat) (es:List V):V:=vB es.isEmpty sz es (some 0)
theorem D5 (sz:Nat) (es:List V) (k:Nat):vB es.isEmpty sz es (some k)=qK sz es:=by unfold qK;cases es<;>rfl
theorem D6 (sz:Nat) (es:List V) (t:Option Nat):vB true sz es t=qK 1 []:=rfl
theorem AY (sz:Nat) (es:List V):vB false sz es none= .sl false sz es none:=rfl
theorem AZ (sz:Nat) (es:List V) (x:V) (k:Nat):vB false sz (es++[x]) (some k)=qK sz (es++[x]):=by unfold qK;cases es<;>rfl
theorem Hu (cs:List V):(V.bx cs).datP=true:=rfl
theorem KA (v:Value):(V.x v).datP=(V.x v).dat:=rfl
theorem D7 (v:List V):(V.agg v).datP=true:=rfl
theorem D8 (v:List V):(V.tup v).datP=false:=rfl
theorem Hv (v:List V):(V.ip v).datP=true:=rfl
theorem Hw (ks vs:List V):(V.fm ks vs).datP=true:=rfl
attribute [go_sem] Hw
theorem D9 (t:TypeId):(V.dyn t).datP=true:=rfl
theorem wF:V.undef.datP=false:=rfl
theorem Hx (nl:Bool) (sz:Nat) (es:List V):(V.sl nl sz es none).datP=true:=rfl
theorem Ea (nl:Bool) (sz k:Nat) (es:List V):(V.sl nl sz es (some k)).datP=true:=rfl
theorem Eb (sz:Nat) (es:List V):(qK sz es).datP=true:=by cases es<;>rfl
theorem wG (k sz:Nat) (es us:List V):dQ k (qK sz es::us) b=dQ (k+1) us b:=fy (by cases es<;>rfl)
theorem wH (k sz:Nat) (es us:List V) (t:Nat->V):dR k (qK sz es::us) t=dR (k+1) us t:=fw (by cases es<;>rfl)
theorem A0 (nl:Bool) (sz:Nat) (es:List V) (t:Option Nat) (l:List V):bA (.sl nl sz es t::l)=bA l:=rfl
theorem Ec (d k sz:Nat) (nl:Bool) (es:List V):jE E st (some d) (.sl nl sz es (some k))=⟨aD (strip d st.t) d (.sl nl sz es (some d)),aB E d st.b⟩:=rfl
theorem Hy (r:V):jE E st none r=st:=by unfold jE;rfl
theorem KB (d:Nat) (v:Value):jE E st (some d) (.x v)=st.put (some d) (.x v):=by show st.put (some d) (V.x v).bare=_;rw[dP]
theorem sZ (d:Nat) (v:List V):jE E st (some d) (.agg v)=st.put (some d) (.agg v):=by show st.put (some d) (V.agg v).bare=_;rw[di]
theorem Ed (d:Nat) (v:List V):jE E st (some d) (.tup v)=st.put (some d) (.tup v):=by show st.put (some d) (V.tup v).bare=_;rw[cT]
theorem Hz (d:Nat) (ks vs:List V):jE E st (some d) (.fm ks vs)=st.put (some d) (.fm ks vs):=by show st.put (some d) (V.fm ks vs).bare=_;rw[mA]
attribute [go_sem] Hz
theorem Ee (d:Nat) (t:TypeId):jE E st (some d) (.dyn t)=st.put (some d) (.dyn t):=by show st.put (some d) (V.dyn t).bare=_;rw[kr]
theorem HA (d:Nat) (v:List V):jE E st (some d) (.ip v)=st.put (some d) (.ip v):=by show st.put (some d) (V.ip v).bare=_;rw[my]
theorem Ef (d sz:Nat) (nl:Bool) (es:List V):jE E st (some d) (.sl nl sz es none)=st.put (some d) (.sl nl sz es none):=by show st.put (some d) (V.sl nl sz es none).bare=_;rw[dc]
theorem Eg (nl:Bool) (sz k:Nat) (es:List V):JE (.sl nl sz es (some k))=some (.sl nl sz es (some 0)):=rfl
theorem s6 (k sz:Nat) (es us:List V):dg k (qK sz es::us)=dg (k+1) us:=j5 (by cases es<;>rfl)
end
attribute [go_sem] j2 s6 wG wH Hr Hs cW P9 D3 Kz sY Hp D4 wE Ht D5 D6 AY AZ Hu KA D7 D8 Hv D9 wF Hx Ea Eb A0 bm stripL dK Ec Hy KB sZ Ed Ee HA Ef Eg mt I8
attribute [go_sem] nC J6 J7 J8 J9 GW DB Ka Kb GS Kc GU Dz DA Kd GV Ke DC Kf PV PW GX
attribute [go_sem] Am iL qA L0 Gm Gn
attribute [go_sem] JQ JR JS Dp wt sO Aw Gb Kx Ha Hc He AE AF DS DT AG sS AH AI wx mV o5 List.flatMap_cons List.flatMap_nil List.append_nil
attribute [go_sem] wg sw j9 JK Gt JM GA Dk Dl GC Dm GE Do Dr Ay sM JT JU GI JV GK Ds
attribute [go_sem] JW JX JY Dt Du Dv Dw JZ J0 J2 J3 PJ PK PM PN PO PP PQ PS GN GO GP GQ Ai v7 lx Aj qi PT J4 PU J5 GL Dx Az Dy GM V.unm V.isSl QR Jt LL LM Ju CB
attribute [congr] sA v8 su wj qC sE As sc qw sd
theorem HB:Int.toNat 0=0:=rfl
theorem HC:Int.toNat 1=1:=rfl
theorem HD:Int.toNat 2=2:=rfl
theorem HE:Int.toNat 3=3:=rfl
theorem HF:Int.toNat 4=4:=rfl
attribute [go_sem] HB HC HD HE HF
theorem Eh:yE none=true:=rfl
theorem A2 (k:IntKind) (n:Int):yE (some (.x (.int k n)))=true:=rfl
attribute [go_sem] fe Gu Gv Gw Df GH GR GZ G8 DL Km Ko G5 G6 Kp G7 DI DJ AC DK sR Kq Kr DM Ks PZ P0 G9 Ge mB yB sW mz
attribute [go_sem] I9 qF Eh A2 Option.map_none CL Ja Gx Gy Gz Dj GJ GT Kg Kh G0 G1 Ki G3 DE DF AB DG Dg Dh Di Gd sQ Kj Kk DH Kl PX PY G4
abbrev T3:=Int×Int×ByteArray
abbrev tv (r:T3):V:=vl r.1 r.2.1 r.2.2
attribute [go_sem] vl tv TW TY P3 P4 Bool.not_eq_true' Bool.not_eq_false' Bool.not_not
def bL:List (Nat×V)->Nat->V
 |[]=>fun _=> .undef
 |(i,v)::l=>aD (bL l) i v
def A3:List (Nat×List V)->Nat->Option (List V)
 |[]=>fun _=>none
 |(i,cs)::l=>aD (A3 l) i (some cs)
def aq (ts:List (Nat×V)) (bs:List (Nat×List V)):St:=⟨bL ts,A3 bs⟩
def gY (st:St):List (Nat×V)->Prop
 |[]=>True
 |(i,v)::l=>st.t i=v∧gY st l
def gE (st:St):List (Nat×List V)->Prop
 |[]=>True
 |(i,v)::l=>st.b i=some v∧gE st l
variable {st:St}
theorem aK {ts:List (Nat×V)} {bs:List (Nat×List V)} (h:gY st ts) (k:gE st bs):Le (aq ts bs) st:=by
 refine⟨fun i=>?_,fun s cs hs=>?_⟩
 . show(bL ts i).le (st.t i)
   induction ts with
   |nil=>exact .inl rfl
   | cons p l ih=>
     simp only[bL,aH];split
     . rename_i e;subst e;exact .inr (.inl h.1.symm)
     . exact ih h.2
 . have hs:A3 bs s=some cs:=hs
   induction bs with
   |nil=>cases hs
   | cons p l ih=>
     simp only[A3,aH] at hs;split at hs
     . rename_i e;cases hs;subst e;exact⟨_,k.1,fJ _⟩
     . exact ih k.2 hs hs
def pq {X:Type} (T:X->List (Nat×V)) (B:X->List (Nat×List V)) (μ:X->Nat) (n:Nat) (st:St):Prop:=∃x',gY st (T x')∧gE st (B x')∧μ x'<n
def nD {X:Type} (T:X->List (Nat×V)) (B:X->List (Nat×List V)) (μ:X->Nat) (n:Nat) (K:Out->St->Prop):Out->St->Prop
 | .normal,st=>pq T B μ n st
 | .ret,st=>K .ret st
 | .exit id,st=>K (.exit id) st
section
variable {X:Type} (T:X->List (Nat×V)) (B:X->List (Nat×List V)) (μ:X->Nat) (n:Nat) (K:Out->St->Prop) (st:St)
theorem qL:nD T B μ n K .normal st=pq T B μ n st:=rfl
theorem A4:nD T B μ n K .ret st=K .ret st:=rfl
theorem wI (id:Nat):nD T B μ n K (.exit id) st=K (.exit id) st:=rfl
theorem s8 {st':St} (h:st=st'):pq T B μ n st=pq T B μ n st':=by rw[h]
theorem s9 {o o':Out} (h:o=o'):nD T B μ n K o st=nD T B μ n K o' st:=by rw[h]
end
variable {E:Env} {a:Code} {X:Type}
theorem aI {K:Out->St->Prop} (T:X->List (Nat×V)) (B:X->List (Nat×List V)) (μ:X->Nat) (x0:X) (h0:gY st (T x0)) (h0':gE st (B x0))
 (h:∀x,run E a (aq (T x) (B x)) (nD T B μ (μ x) K)):kG (run E a) st K:=by
 refine⟨X,fun x=>aq (T x) (B x),μ,x0,aK h0 h0',fun x=>?_⟩;have:=h x
 have e:∀o st',nD T B μ (μ x) K o st'->(match o with
  | .normal=>∃x',Le (aq (T x') (B x')) st'∧μ x'<μ x
  |o=>K o st'):=by
  intro o st' hk;cases o with
  |normal=>obtain⟨x',h1,h2,h3⟩:=hk;exact⟨x',aK h1 h2,h3⟩
  |ret=>exact hk
  |exit id=>exact hk
 exact kI e this
def ii:List (Nat×Nat×Nat×V)->Nat->List (Nat×V)
 |[],_=>[]
 |(need,forb,s,v)::r,L=>if L&&&need=need∧L&&&forb=0 then (s,v)::ii r L else ii r L
theorem Ei (L:Nat):ii [] L=[]:=rfl
theorem A5 (need forb s L:Nat) (v:V) (r:List (Nat×Nat×Nat×V)):ii ((need,forb,s,v)::r) L=if L&&&need=need∧L&&&forb=0 then (s,v)::ii r L else ii r L:=rfl
def KC (E:Env) (ops:List Oper) (ts:List (Nat×V)) (bs:List (Nat×List V)) (st:St):Option Oper->Prop
 |some o=>br E ⟨ops⟩ [o] st fun st'=>gY st' ts∧gE st' bs
 |none=>False
def ta (E:Env) (ops:List Oper) (ents:List (Nat×Nat×Nat×V)) (bs:List (Nat×List V)):List (Nat×Nat×Nat)->Prop
 |[]=>True
 |(L,i,L')::r=>KC E ops (ii ents L') bs (aq (ii ents L) bs) ops[i]?∧ta E ops ents bs r
theorem Ej (E:Env) (ops:List Oper) (ents:List (Nat×Nat×Nat×V)) (bs:List (Nat×List V)):ta E ops ents bs []=True:=rfl
theorem pt (E:Env) (ops:List Oper) (ents:List (Nat×Nat×Nat×V)) (bs:List (Nat×List V)) (L i L':Nat) (r:List (Nat×Nat×Nat)):ta E ops ents bs ((L,i,L')::r)=(KC E ops (ii ents L') bs (aq (ii ents L) bs) ops[i]?∧ta E ops ents bs r):=rfl
theorem pu (E:Env) (ops:List Oper) (ts:List (Nat×V)) (bs:List (Nat×List V)) (st:St) (o:Oper):KC E ops ts bs st (some o)=br E ⟨ops⟩ [o] st fun st'=>gY st' ts∧gE st' bs:=rfl
theorem qM {ops:List Oper} {K:St->Prop} (ents:List (Nat×Nat×Nat×V)) (bs:List (Nat×List V)) (ps:List (Nat×Nat×Nat)) (h:iA ops ps=true) (h0:gY st (ii ents 0)∧gE st bs) (ht:ta E ops ents bs ps)
 (hk:K (aq (ii ents (2^ops.length-1)) bs)):An E ops st K:=by
 refine .inr ⟨fun L=>aq (ii ents L) bs,ps,h,aK h0.1 h0.2,?_,hk⟩;clear h
 induction ps with
 |nil=>trivial
 | cons p r ih=>
   obtain⟨L,i,L'⟩:=p;rw[pt] at ht;refine⟨?_,ih ht.2⟩;have h1:=ht.1;cases ho:ops[i]? with
   |none=>rw[ho] at h1;exact h1.elim
   |some o=>rw[ho,pu] at h1;obtain⟨st',hs,hl,hb⟩:=cD _ _ h1;exact⟨st',hs,aK hl hb⟩
theorem iQ {K:Out->St->Prop} (i n tok:Nat) {n0:Nat} {k0:Option Nat} (h:st.t i= .sl true n0 [] k0)
 (hr:kG (run E a) ⟨aD st.t i (.sl true n [] (some tok)),st.b⟩ K):kG (run E a) st K:=by
 obtain⟨X,I,μ,x0,h0,hx⟩:=hr;refine⟨X,I,μ,x0,⟨fun j=>?_,h0.b⟩,hx⟩;have:=h0.t j;simp only[aH] at this;split at this
 . rename_i e;subst e;rw[h];rcases this with e|e|⟨n1,k1,n2,k2,e,_⟩
   . exact .inl e
   . exact .inr (.inr ⟨_,_,_,_,e,rfl⟩)
   . exact .inr (.inr ⟨_,_,_,_,e,rfl⟩)
 . exact this
variable {n:Nat}
theorem KD {n0:Nat} {k k0:Option Nat} (h:u.le (.sl true n [] k)):u.le (.sl true n0 [] k0):=by
 rcases h with h|h|⟨n1,k1,n2,k2,h,_⟩
 . exact .inl h
 . exact .inr (.inr ⟨_,_,_,_,h,rfl⟩)
 . exact .inr (.inr ⟨_,_,_,_,h,rfl⟩)
theorem A6 {K:Out->St->Prop} (s n tok:Nat) (pre post:List V) {n0:Nat} {k0:Option Nat} (h:st.b s=some (pre++ .sl true n0 [] k0::post))
 (hr:kG (run E a) ⟨st.t,aD st.b s (some (pre++ .sl true n [] (some tok)::post))⟩ K):kG (run E a) st K:=by
 obtain⟨X,I,μ,x0,h0,hx⟩:=hr;refine⟨X,I,μ,x0,⟨h0.t,fun s' cs' hs'=>?_⟩,hx⟩;obtain⟨cs,h1,h2,h3⟩:=h0.b s' cs' hs';have h1:aD st.b s (some (pre++ .sl true n [] (some tok)::post)) s'=some cs:=h1;by_cases e:s'=s
 . subst e;rw[ai] at h1;cases h1;refine⟨_,h,by simpa using h2,fun i u' u hu' hu=>?_⟩;by_cases hi:i<pre.length
   . rw[Vg hi] at hu;exact h3 i u' u hu' (by rw[Vg hi];exact hu)
   . rw[Vs (by omega)] at hu;cases hj:i-pre.length with
     |zero=>rw[hj] at hu;cases hu;exact KD (h3 i u' (.sl true n [] (some tok)) hu' (by rw[Vs (by omega),hj];rfl))
     |succ j=>rw[hj] at hu;exact h3 i u' u hu' (by rw[Vs (by omega),hj];exact hu)
 . rw[ah _ _ e] at h1;exact⟨cs,h1,h2,h3⟩
variable {el by':Nat}
theorem cL {z:List V} (h1:bq E.P el=some n) (hby:bV E.P el=some by') (hz:ay E.P el=some z) (h4:n≠0) (h5:z.length=n)
 {es:List V} {v:V} (hc:v.cells.all V.cell=true) (hb:(es.length+1)*by'<=140737488355328) (hl:es.length+1<=9223372036854775807) (st:St) (d tok:Nat) (nl:Bool) (t':Option Nat):
 bi E st (some d) el (.sl es.isEmpty n es (some tok)) (.sl nl n [v] t')=some ⟨aD (strip tok (strip d st.t)) d (.sl false n (es++[v]) (some d)),aB E tok (aB E d st.b)⟩:=by
 unfold bi;simp only[h1,hby,hz];cases es with
 |nil=>simp only[List.isEmpty_nil,Wl];rw[Va ⟨h4,h5,.inl trivial,by simp only[VY,hc,X6,Xf],by simpa using hb,by simp⟩];rfl
 |cons e es=>simp only[List.isEmpty_cons];rw[Va ⟨h4,h5,trivial,.inl trivial,by simp only[VY,hc,X6,Xf],hb,hl⟩]
variable {α:Type}
theorem wJ (l:List α) (x:α):(l++[x]).isEmpty=false:=by cases l<;>rfl
attribute [go_sem] rB rC wJ
attribute [go_sem] Ei A5 pu Ej pt
attribute [go_sem] bL A3 aq gY gE Int.le_refl Int.lt_irrefl qL A4 wI sB
attribute [congr] s9 s8
theorem Qa (x:Int):ax .i64 x=wrap64 x:=(gw _ _).trans (IntWalk.i64_left x)
theorem ak {x:Int} (h:co x):ax .i64 x=x:=(Qa x).trans (Av h)
theorem aF (h:i<9223372036854775807):ax .i64 ((i:Int)+1)=((i+1:Nat):Int):=by rw[ak (by unfold co;omega)];omega
theorem wK (a:Nat):((a:Int)).toNat=a:=rfl
def eA (b:Int):Bool:=decide (97<=b)&&decide (b<=122)
def iR (b:Int):Bool:=decide (48<=b)&&decide (b<=57)
def dC:List V->Option V
 |[.x (.int .u8 b)]=>some (.x (.bool (eA b)))
 |_=>none
def eZ:List V->Option V
 |[.x (.int .u8 b)]=>some (.x (.bool (iR b)))
 |_=>none
def B (l:List UInt8):ByteArray:=⟨⟨l⟩⟩
open Classical in
noncomputable def FE {α ρ:Type} (enc:α->List V) (G:α->Option ρ):List V->Option ρ:=fun us=>if h:∃a,enc a=us then G (Classical.choose h) else none
variable {ρ:Type}
theorem bC {enc:α->List V} (inj:∀a b,enc a=enc b->a=b) (G:α->Option ρ) (a:α):FE enc G (enc a)=G a:=by unfold FE;have h:∃b,enc b=enc a:=⟨a,rfl⟩;rw[dif_pos h,inj _ _ (VH h)]
theorem aZ {α ρ:Type} {enc:α->List V} {G:α->Option ρ} {r:ρ} (h:FE enc G us=some r):∃a,us=enc a∧G a=some r:=by
 unfold FE at h;split at h
 . rename_i hx;exact⟨_,(VH hx).symm,h⟩
 . cases h
theorem bv {p:Prop} [Decidable p] {o:Option ρ} {r:ρ} (h:(if p then o else none)=some r):p∧o=some r:=by
 by_cases hp:p
 . rw[Va hp] at h;exact⟨hp,h⟩
 . rw[Vh hp] at h;cases h
theorem yS {f:FuncId} {enc:α->List V} {G:α->Option V} (μ:α->Nat) (hcall:∀args w,(callFunc f args).run (au []).P w= .ok (.enter f args) w)
 (h:∀n,bM f (FE enc fun a=>if μ a<n then G a else none)->bM f (FE enc fun a=>if μ a<n+1 then G a else none)):bM f (FE enc G):=by
 have key:∀n,bM f (FE enc fun a=>if μ a<n then G a else none):=by
  intro n
  induction n with
  |zero=>refine⟨hcall,fun m w vs us r hF=>?_⟩;obtain⟨a,_,ha⟩:=aZ hF;rw[Vh (Xi _)] at ha;cases ha
  |succ n ih=>exact h n ih
 refine⟨hcall,fun m w vs us r hF=>?_⟩;have hx:∃a,enc a=us:=by obtain⟨a,ha,_⟩:=aZ hF;exact⟨a,ha.symm⟩
 refine(key (μ (Classical.choose hx)+1)).2 m w vs us r ?_;unfold FE at hF⊢;rw[dif_pos hx] at hF⊢;show(if μ (Classical.choose hx)<μ (Classical.choose hx)+1 then G (Classical.choose hx) else none)=some r;rw[Va (Nat.lt_succ_self _)];exact hF
theorem jn {z:List V} (h1:bq E.P el=some n) (hby:bV E.P el=some by') (hz:ay E.P el=some z) (h4:n≠0) (h5:z.length=n)
 {v:V} (hc:v.cells.all V.cell=true) {len:Nat} (hb:(len+1)*by'<=140737488355328) (hl:len+1<=9223372036854775807) (st:St) (d s:Nat) (nl:Bool) (t':Option Nat) (hMB:E.MB d=false:=by rfl):
 bi E st (some d) el (.row s n len) (.sl nl n [v] t')=match st.b s with
  |some cs=>some ⟨aD (kill s (kill d st.t)) d (.row d n (len+1)),aD (aD st.b s none) d (some (cs.take (len*n)++v.cells))⟩
  |none=>none:=by
 unfold bi;simp only[h1,hby,hz];cases st.b s with
 |none=>rfl
 |some cs=>simp only;rw[Va ⟨h4,h5,trivial,.inl trivial,by simp only[VY,hc,X6,Xf],hb,hl,hMB⟩];simp
variable {A G:List V}
theorem HG {x:V} {m:Nat} (h:A.length=m):(A++x::G)[m]?=some x:=by subst h;simp
theorem Ek {m:Nat} (h:A.length=m):(A++G).take m=A:=by subst h;simp
end Go.Proofs.YtalkmhjanlljhaaGreat

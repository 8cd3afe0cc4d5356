/- The run over plain data at this seat: what the calls lean on. -/
import Derived.Test.YtmfojhkjbkombaaPfTy
import Derived.Test.YtmfojhkjbkombaaGlob
import Derived.Test.YtmfojhkjbkombaaArithP
import Derived.KernelRfl
namespace Go.Proofs.Ytmfojhkjbkombaa
set_option linter.unusedSimpArgs false
open Go Go.RowKit
def Az:List (Nat×(List V->Option V))->Nat->Option (List V->Option V)
 |[],_=>none
 |(k,F)::l,i=>if k=i then some F else Az l i
def bg:List (Nat×(List V->Option (V×List (List V))))->Nat->Option (List V->Option (V×List (List V)))
 |[],_=>none
 |(k,F)::l,i=>if k=i then some F else bg l i
noncomputable def bZ (l:List (Nat×(List V->Option V))) (M:Nat->Bool) (lp:List (Nat×(List V->Option (V×List (List V))))) (MB any:Nat->Bool):Env:=⟨Try.prog,Az l,fun _=> .undef,Glob,M,bg lp,fV,MB,any,fun _ _=>none,0,fun _=>none,fun _=>false,fun _=>false⟩
noncomputable def gB (l:List (Nat×(List V->Option V))) (M:Nat->Bool) (lp:List (Nat×(List V->Option (V×List (List V))))):Env:=bZ l M lp (fun _=>false) (fun _=>false)
noncomputable def cG (l:List (Nat×(List V->Option V))) (M:Nat->Bool):Env:=gB l M []
noncomputable def aF (l:List (Nat×(List V->Option V))):Env:=cG l fun _=>false
section
variable (l:List (Nat×(List V->Option V))) (M:Nat->Bool) (lp:List (Nat×(List V->Option (V×List (List V))))) (MB any:Nat->Bool)
theorem jT:(bZ l M lp MB any).P=Try.prog:=rfl
theorem MU:(bZ l M lp MB any).F=Az l:=rfl
theorem Js:(bZ l M lp MB any).FP=bg lp:=rfl
theorem Jt (d:Option Tmp):(bZ l M lp MB any).fzO d=false:=by cases d<;>rfl
theorem Ju (d:Option Tmp):(gB l M lp).fzO d=false:=by cases d<;>rfl
theorem Jv (d:Option Tmp):(cG l M).fzO d=false:=by cases d<;>rfl
theorem Fh (d:Option Tmp):(aF l).fzO d=false:=by cases d<;>rfl
theorem Fi (d:Option Tmp):(bZ l M lp MB any).litD d=false:=by cases d<;>rfl
theorem Fj (d:Option Tmp):(gB l M lp).litD d=false:=by cases d<;>rfl
theorem Fk (d:Option Tmp):(cG l M).litD d=false:=by cases d<;>rfl
theorem Jw:(bZ l M lp MB any).FM=fun _=>none:=rfl
theorem Jy:(gB l M lp).FM=fun _=>none:=rfl
theorem Jz:(cG l M).FM=fun _=>none:=rfl
theorem Fl:(aF l).FM=fun _=>none:=rfl
theorem MV:(bZ l M lp MB any).G=fun _=> .undef:=rfl
theorem JA:(bZ l M lp MB any).MB=MB:=rfl
theorem Fm:(bZ l M lp MB any).any=any:=rfl
theorem Fn (d:Nat):(bZ l M lp MB any).own (some d)=M d:=rfl
theorem MW:(gB l M lp).P=Try.prog:=rfl
theorem MY:(gB l M lp).F=Az l:=rfl
theorem JB:(gB l M lp).FP=bg lp:=rfl
theorem MZ:(gB l M lp).G=fun _=> .undef:=rfl
theorem JC:(gB l M lp).MB=fun _=>false:=rfl
theorem Fo (i:Nat):(gB l M lp).any i=false:=rfl
theorem Fp (d:Nat):(gB l M lp).own (some d)=M d:=rfl
theorem M0:(cG l M).P=Try.prog:=rfl
theorem M1:(cG l M).F=Az l:=rfl
theorem JD:(cG l M).FP=fun _=>none:=rfl
theorem M2:(cG l M).G=fun _=> .undef:=rfl
theorem JE:(cG l M).MB=fun _=>false:=rfl
theorem Fq (i:Nat):(cG l M).any i=false:=rfl
theorem Fs (d:Nat):(cG l M).own (some d)=M d:=rfl
theorem Cj (d:Option Tmp):(aF l).own d=false:=by cases d<;>rfl
theorem fW:(aF l).P=Try.prog:=rfl
theorem JG:(aF l).F=Az l:=rfl
theorem Ft:(aF l).FP=fun _=>none:=rfl
theorem JH:(aF l).G=fun _=> .undef:=rfl
theorem Fu:(aF l).MB=fun _=>false:=rfl
theorem Ck (i:Nat):(aF l).any i=false:=rfl
noncomputable def iC (l:List (Nat×(List V->Option V))) (any:Nat->Bool):Env:=bZ l (fun _=>false) [] (fun _=>false) any
theorem tE:(bZ l M lp MB any).plain=iC l any:=rfl
theorem tF:(gB l M lp).plain=aF l:=rfl
theorem xQ:(cG l M).plain=aF l:=rfl
theorem tG:(aF l).plain=aF l:=rfl
theorem JI (d:Option Tmp):(iC l any).fzO d=false:=by cases d<;>rfl
theorem M3:(iC l any).P=Try.prog:=rfl
theorem M4:(iC l any).F=Az l:=rfl
theorem JK:(iC l any).FP=fun _=>none:=rfl
theorem JM:(iC l any).FM=fun _=>none:=rfl
theorem M5:(iC l any).G=fun _=> .undef:=rfl
theorem JN:(iC l any).MB=fun _=>false:=rfl
theorem Fv (d:Option Tmp):(iC l any).own d=false:=by cases d<;>rfl
section
variable (st:St) (b:Nat->Option (List V)) (k s:Nat) (p u:V) (d:Option Nat) (cs:List V)
theorem M6:wipe (gB l M lp) st=st:=rfl
theorem M7:wipe (cG l M) st=st:=rfl
theorem M8:wipe (aF l) st=st:=rfl
theorem Fw:aC (gB l M lp) k b=b:=rfl
theorem Fy:aC (cG l M) k b=b:=rfl
theorem Fz:aC (aF l) k b=b:=rfl
theorem FA:aC (iC l any) k b=b:=rfl
theorem M9:(gB l M lp).kept s u=u.bare:=rfl
theorem Na:(cG l M).kept s u=u.bare:=rfl
theorem Nb:(aF l).kept s u=u.bare:=rfl
theorem Nc:(iC l any).kept s u=u.bare:=rfl
theorem Sm:(gB l M lp).okS s u=true:=rfl
theorem Sn:(cG l M).okS s u=true:=rfl
theorem So:(aF l).okS s u=true:=rfl
theorem Sp:(iC l any).okS s u=true:=rfl
theorem Sq:(gB l M lp).okN d cs=true:=by cases d<;>rfl
theorem Sr:(cG l M).okN d cs=true:=by cases d<;>rfl
theorem Ss:(aF l).okN d cs=true:=by cases d<;>rfl
theorem Su:(iC l any).okN d cs=true:=by cases d<;>rfl
theorem Sv:(bZ l M lp MB any).okN (some s) cs=(!MB s||cs.all V.unm):=rfl
theorem Nf:(bZ l M lp MB any).okN none cs=true:=rfl
theorem Sw:(bZ l M lp MB any).okS s u=(!MB s||(u.isSl||u.cells.all V.unm)):=rfl
theorem Ng:(bZ l M lp MB any).kept s u=if MB s=true then u else u.bare:=rfl
theorem JO (o:Nat):(bZ l M lp MB any).keepL (.ptr s o) u=if MB s=true then u else u.bare:=rfl
theorem FB:(bZ l M lp MB any).keepL (.ip cs) u=u.bare:=rfl
theorem Cl:aC (bZ l M lp MB any) k b s=if MB s=true then (b s).map (List.map (ca k)) else b s:=rfl
theorem FC:Aa (bZ l M lp MB any) b s=if MB s=true then (b s).map (List.map V.bare) else b s:=rfl
theorem JP:wipe (bZ l M lp (fun _=>false) any) st=st:=rfl
theorem JQ:(gB l M lp).keepL p u=u.bare:=by cases p<;>rfl
theorem JR:(cG l M).keepL p u=u.bare:=by cases p<;>rfl
theorem JS:(aF l).keepL p u=u.bare:=by cases p<;>rfl
theorem JT:(iC l any).keepL p u=u.bare:=by cases p<;>rfl
end
end
def dA (f:FuncId) (F:List V->Option V):Prop:=Fun (aF []) f F
def tH:List (Nat×(List V->Option V))->Prop
 |[]=>True
 |p::l=>dA p.1 p.2∧tH l
def Mf (f:FuncId) (F:List V->Option (V×List (List V))):Prop:=FunP (aF []) f F
def Cm:List (Nat×(List V->Option (V×List (List V))))->Prop
 |[]=>True
 |p::l=>Mf p.1 p.2∧Cm l
theorem kq (l:List (Nat×(List V->Option V))) (M:Nat->Bool) (lp:List (Nat×(List V->Option (V×List (List V))))) (MB any:Nat->Bool) (h:tH l) (hp:Cm lp):EnvOK (bZ l M lp MB any):=by
 refine⟨fun f F hF=>?_,fun f F hF=>?_,fun X w w' hX hj hb=>Glob.low hj hb.size ⟨hb.os,hb.tape,hb.output,hb.size,fun k hk=>hb.block k (Z3 hk (Glob.high hj)) (fun hm=>absurd (hX k hm) (abh.2 hk))⟩,fun w hj=>Glob.high hj,(fun f lb=>rfl),fun f F hF=>by cases hF⟩
 . have key:∀l,tH l->Az l f=some F->dA f F:=by
    intro l
    induction l with
    |nil=>intro _ h;cases h
    | cons p l ih=>
      intro h hF;simp only[Az] at hF;split at hF
      . rename_i e;cases hF;exact e▸h.1
      . exact ih h.2 hF
   exact key l h hF
 . have key:∀l,Cm l->bg l f=some F->Mf f F:=by
    intro l
    induction l with
    |nil=>intro _ h;cases h
    | cons p l ih=>
      intro h hF;simp only[bg] at hF;split at hF
      . rename_i e;cases hF;exact e▸h.1
      . exact ih h.2 hF
   exact key lp hp hF
theorem JU (l:List (Nat×(List V->Option V))) (M:Nat->Bool) (lp:List (Nat×(List V->Option (V×List (List V))))) (h:tH l) (hp:Cm lp):EnvOK (gB l M lp):=kq l M lp _ _ h hp
theorem qZ (l:List (Nat×(List V->Option V))) (M:Nat->Bool) (h:tH l):EnvOK (cG l M):=JU l M [] h trivial
theorem bO (l:List (Nat×(List V->Option V))) (h:tH l):EnvOK (aF l):=qZ l _ h
theorem nA (l:List (Nat×(List V->Option V))) (M:Nat->Bool) (lp:List (Nat×(List V->Option (V×List (List V))))) (MB any:Nat->Bool) (u:V):iB (bZ l M lp MB any) u=none:=by unfold iB;split<;>rfl
theorem Nh (l:List (Nat×(List V->Option V))) (M:Nat->Bool) (lp:List (Nat×(List V->Option (V×List (List V))))) (u:V):iB (gB l M lp) u=none:=nA _ _ _ _ _ u
theorem Ni (l:List (Nat×(List V->Option V))) (M:Nat->Bool) (u:V):iB (cG l M) u=none:=nA _ _ _ _ _ u
theorem Nj (l:List (Nat×(List V->Option V))) (u:V):iB (aF l) u=none:=nA _ _ _ _ _ u
theorem Nk (l:List (Nat×(List V->Option V))) (any:Nat->Bool) (u:V):iB (iC l any) u=none:=nA _ _ _ _ _ u
noncomputable def dy (G:Nat->V) (X:FuncId->List Value->Option (List V->Option (V×List (List V)))) (xk:Nat):Env:=⟨Try.prog,fun _=>none,G,Glob,fun _=>false,fun _=>none,fV,fun _=>false,fun _=>false,X,xk,fun _=>none,fun _=>false,fun _=>false⟩
section
variable (G:Nat->V) (X:FuncId->List Value->Option (List V->Option (V×List (List V)))) (xk:Nat) (f:FuncId) (u:V) (d:Option Nat) (cs:List V) (st:St) (b:Nat->Option (List V)) (k s:Nat) (p:V)
theorem JV (d:Option Tmp):(dy G X xk).fzO d=false:=by cases d<;>rfl
theorem Nl:(dy G X xk).P=Try.prog:=rfl
theorem Nm:(dy G X xk).F=fun _=>none:=rfl
theorem JW:(dy G X xk).FP=fun _=>none:=rfl
theorem JX:(dy G X xk).FM=fun _=>none:=rfl
theorem Nn:(dy G X xk).G=G:=rfl
theorem JY:(dy G X xk).MB=fun _=>false:=rfl
theorem FD (i:Nat):(dy G X xk).any i=false:=rfl
theorem FF:(dy G X xk).own d=false:=by cases d<;>rfl
theorem No:(dy G X xk).X=X:=rfl
theorem JZ:(dy G X xk).xk=xk:=rfl
theorem J0 (lb:Array Value):iB (dy G X xk) (.x (.func (.func f) #[] lb))=X f lb.toList:=rfl
theorem FG:iB (dy G X xk) (.x (.func (.func f) #[] #[]))=X f []:=rfl
theorem Np:wipe (dy G X xk) st=st:=rfl
theorem FH:aC (dy G X xk) k b=b:=rfl
theorem Nq:(dy G X xk).kept s u=u.bare:=rfl
theorem Sx:(dy G X xk).okS s u=true:=rfl
theorem Sy:(dy G X xk).okN d cs=true:=by cases d<;>rfl
theorem J2:(dy G X xk).keepL p u=u.bare:=by cases p<;>rfl
end
theorem AA (G:Nat->V) (X:FuncId->List Value->Option (List V->Option (V×List (List V)))) (xk:Nat) (h1:1000<=xk) (pm:Pm) (bk:Nat) (hb:pm.b (dy G X xk).xk=bk) (h:∀f lb F,(dy G X xk).X f lb=some F->FunX (dy G X xk) bk f lb F):EnvX (dy G X xk) pm:=
 ⟨(fun f F e=>by cases e),(fun f F e=>by cases e),fun X w w' hX hj hb=>Glob.low hj hb.size ⟨hb.os,hb.tape,hb.output,hb.size,fun k hk=>hb.block k (Z3 hk (Glob.high hj)) (fun hm=>absurd (hX k hm) (abh.2 hk))⟩,(fun w hj=>Glob.high hj),(fun f lb F e=>⟨h1,by rw[hb];exact h f lb F e⟩),.inl (fun _=>rfl),fun f F hF=>by cases hF⟩
def FJ (f:FuncId) (F:List V->Option (List V×List V)):Prop:=FunM (aF []) f F
def J3:List (Nat×(List V->Option (List V×List V)))->Prop
 |[]=>True
 |p::l=>FJ p.1 p.2∧J3 l
def Mg:List (Nat×(List V->Option (List V×List V)))->Nat->Option (List V->Option (List V×List V))
 |[],_=>none
 |(k,F)::l,i=>if k=i then some F else Mg l i
noncomputable def bz (l:List (Nat×(List V->Option V))) (lp:List (Nat×(List V->Option (V×List (List V))))) (lm:List (Nat×(List V->Option (List V×List V)))) (lit any:Nat->Bool):Env:=⟨Try.prog,Az l,fun _=> .undef,Glob,lit,bg lp,fV,fun _=>false,any,fun _ _=>none,0,Mg lm,lit,fun _=>false⟩
section
variable (l:List (Nat×(List V->Option V))) (lp:List (Nat×(List V->Option (V×List (List V))))) (lm:List (Nat×(List V->Option (List V×List V)))) (lit any:Nat->Bool) (u:V) (d:Option Nat) (cs:List V) (st:St) (b:Nat->Option (List V)) (k s:Nat) (p:V)
theorem J4 (d:Option Tmp):(bz l lp lm lit any).fzO d=false:=by cases d<;>rfl
theorem Nr:(bz l lp lm lit any).P=Try.prog:=rfl
theorem Ns:(bz l lp lm lit any).F=Az l:=rfl
theorem J5:(bz l lp lm lit any).FP=bg lp:=rfl
theorem J6:(bz l lp lm lit any).FM=Mg lm:=rfl
theorem Nt:(bz l lp lm lit any).G=fun _=> .undef:=rfl
theorem J7:(bz l lp lm lit any).MB=fun _=>false:=rfl
theorem FK:(bz l lp lm lit any).any=any:=rfl
theorem FL (d:Nat):(bz l lp lm lit any).own (some d)=lit d:=rfl
theorem Cn:(bz l lp lm lit any).own none=false:=rfl
theorem FN (d:Nat):(bz l lp lm lit any).litD (some d)=lit d:=rfl
theorem tI:(bz l lp lm lit any).plain=iC l any:=rfl
theorem Nu:iB (bz l lp lm lit any) u=none:=by unfold iB;split<;>rfl
theorem Nv:wipe (bz l lp lm lit any) st=st:=rfl
theorem FO:aC (bz l lp lm lit any) k b=b:=rfl
theorem Nw:(bz l lp lm lit any).kept s u=u.bare:=rfl
theorem Sz:(bz l lp lm lit any).okS s u=true:=rfl
theorem SA:(bz l lp lm lit any).okN d cs=true:=by cases d<;>rfl
theorem J8:(bz l lp lm lit any).keepL p u=u.bare:=by cases p<;>rfl
end
theorem bi (l:List (Nat×(List V->Option V))) (lp:List (Nat×(List V->Option (V×List (List V))))) (lm:List (Nat×(List V->Option (List V×List V)))) (lit any:Nat->Bool) (h:tH l) (hp:Cm lp) (hq:J3 lm):EnvOK (bz l lp lm lit any):=by
 have h0:=kq l (fun _=>false) lp (fun _=>false) any h hp;refine⟨h0.fn,h0.fnP,h0.keep,h0.high,h0.noX,fun f F hF=>?_⟩;have key:∀l,J3 l->Mg l f=some F->FJ f F:=by
  intro l
  induction l with
  |nil=>intro _ h;cases h
  | cons p l ih=>
    intro h hF;simp only[Mg] at hF;split at hF
    . rename_i e;cases hF;exact e▸h.1
    . exact ih h.2 hF
 exact key lm hq hF
noncomputable def fu (l:List (Nat×(List V->Option V))) (lp:List (Nat×(List V->Option (V×List (List V))))) (lm:List (Nat×(List V->Option (List V×List V)))) (M lit fz any:Nat->Bool):Env:=⟨Try.prog,Az l,fun _=> .undef,Glob,M,bg lp,fV,fun _=>false,any,fun _ _=>none,0,Mg lm,lit,fz⟩
section
variable (l:List (Nat×(List V->Option V))) (lp:List (Nat×(List V->Option (V×List (List V))))) (lm:List (Nat×(List V->Option (List V×List V)))) (M lit fz any:Nat->Bool) (u:V) (d:Option Nat) (cs:List V) (st:St) (b:Nat->Option (List V)) (k s:Nat) (p:V)
theorem Nx:(fu l lp lm M lit fz any).P=Try.prog:=rfl
theorem Ny:(fu l lp lm M lit fz any).F=Az l:=rfl
theorem J9:(fu l lp lm M lit fz any).FP=bg lp:=rfl
theorem Ka:(fu l lp lm M lit fz any).FM=Mg lm:=rfl
theorem Nz:(fu l lp lm M lit fz any).G=fun _=> .undef:=rfl
theorem Kb:(fu l lp lm M lit fz any).MB=fun _=>false:=rfl
theorem FQ:(fu l lp lm M lit fz any).any=any:=rfl
theorem FR (d:Nat):(fu l lp lm M lit fz any).own (some d)=M d:=rfl
theorem Co:(fu l lp lm M lit fz any).own none=false:=rfl
theorem FS (d:Nat):(fu l lp lm M lit fz any).litD (some d)=lit d:=rfl
theorem Kc (d:Nat):(fu l lp lm M lit fz any).fzO (some d)=fz d:=rfl
theorem FT:(fu l lp lm M lit fz any).fzO none=false:=rfl
theorem tJ:(fu l lp lm M lit fz any).plain=iC l any:=rfl
theorem NA:iB (fu l lp lm M lit fz any) u=none:=by unfold iB;split<;>rfl
theorem NB:wipe (fu l lp lm M lit fz any) st=st:=rfl
theorem FU:aC (fu l lp lm M lit fz any) k b=b:=rfl
theorem NC:(fu l lp lm M lit fz any).kept s u=u.bare:=rfl
theorem SB:(fu l lp lm M lit fz any).okS s u=true:=rfl
theorem SD:(fu l lp lm M lit fz any).okN d cs=true:=by cases d<;>rfl
theorem Kd:(fu l lp lm M lit fz any).keepL p u=u.bare:=by cases p<;>rfl
end
theorem AB (l:List (Nat×(List V->Option V))) (lp:List (Nat×(List V->Option (V×List (List V))))) (lm:List (Nat×(List V->Option (List V×List V)))) (M lit fz any:Nat->Bool) (h:tH l) (hp:Cm lp) (hq:J3 lm):EnvOK (fu l lp lm M lit fz any):=by have h0:=bi l lp lm lit any h hp hq;exact⟨h0.fn,h0.fnP,h0.keep,h0.high,h0.noX,h0.fnM⟩
theorem pP {m:Lim} {w:World}:∀{vs:List Value} {us:List V} {xs:List Value},RdL m w vs us->us.mapM V.one=some xs->vs=xs
 |[],[],xs,_,h=>by simp at h;exact h.symm
 | v ::vs,u::us,xs,hr,h=>by
   rw[abq] at h;cases u with
   | x u=>
     simp only[V.one,abU,abt,aaH] at h;cases hm:us.mapM V.one with
     |none=>rw[hm] at h;cases h
     |some r=>rw[hm] at h;cases h;rw[pP hr.2 hm,Rd.x_iff.1 hr.1]
   |_=>simp[V.one] at h
variable {m:Lim} {w:World}
theorem ND {v x:Value} {u:V} (h:Rd m w v u) (hu:u.val=some x):v=x:=by
 cases u with
 |x u=>cases hu;exact Rd.x_iff.1 h
 |agg cs=>obtain⟨a,rfl,hr⟩:=Rd.agg_iff.1 h;simp only[V.val,Zu] at hu;obtain⟨l,hl,rfl⟩:=hu;have:=pP hr hl;rw[<-this]
 |_=>simp[V.val] at hu
theorem AC {m:Lim} {w:World}:∀{vs:List Value} {us:List V} {xs:List Value},RdL m w vs us->us.map V.val=xs.map some->vs=xs
 |[],[],[],_,_=>rfl
 |[],[],_::_,_,h=>by simp at h
 |v::vs,u::us,[],_,h=>by simp at h
 |v::vs,u::us,x::xs,hr,h=>by simp only[ZN,Z2] at h;rw[ND hr.1 h.1,AC hr.2 h.2]
variable {us:List V}
theorem AD {vs:Array Value} {xs:List Value} (hr:RdL m w vs.toList us) (h:us.map V.val=xs.map some):vs=xs.toArray:=by rw[<-AC hr h]
abbrev vl (k n:Int) (s:ByteArray):V:= .agg [.x (.int .i64 k),.x (.int .i64 n),.x (.string s)]
variable {s:Nat} {t:Nat->V}
theorem bU {i:Nat} {v:V} (hv:v.nm≠some s) (h:noPtrTo s t):noPtrTo s (upd t i v)=True:=by
 refine eq_true (fun j=>?_);rw[aB];split
 . exact hv
 . exact h j
theorem Yd (b:Bool):(b==true)=b:=by cases b<;>rfl
theorem Ye (b:Bool):(b==false)= !b:=by cases b<;>rfl
theorem SE (b:Bool):(true==b)=b:=by cases b<;>rfl
theorem SF (b:Bool):(false==b)= !b:=by cases b<;>rfl
section
variable {s i:Nat} {t:Nat->V}
theorem Yf {v:Value} (h:noPtrTo s t):noPtrTo s (upd t i (.x v)):=by rw[bU A0l h];trivial
variable {v:List V}
theorem NE (h:noPtrTo s t):noPtrTo s (upd t i (.agg v)):=by rw[bU A0l h];trivial
theorem NF (h:noPtrTo s t):noPtrTo s (upd t i (.tup v)):=by rw[bU A0l h];trivial
variable {z:Nat}
theorem SG {a:Bool} {c:Option Nat} (h:noPtrTo s t):noPtrTo s (upd t i (.sl a z v c)):=by rw[bU A0l h];trivial
theorem SH (h:noPtrTo s t):noPtrTo s (upd t i (.ip v)):=by rw[bU A0l h];trivial
theorem FV (h:noPtrTo s t):noPtrTo s (upd t i .undef):=by rw[bU A0l h];trivial
variable {s':Nat}
theorem NG {off:Nat} (h:noPtrTo s t) (hne: ¬s=s'):noPtrTo s (upd t i (.ptr s' off)):=by rw[bU (by simp[aaJ hne]) h];trivial
theorem NH {l:Nat} (h:noPtrTo s t) (hne: ¬s=s'):noPtrTo s (upd t i (.row s' z l)):=by rw[bU (by simp[aaJ hne]) h];trivial
end
variable {k:Nat}
theorem FW (h:noPtrTo s t):noPtrTo s (strip k t):=by intro i;rw[km];exact h i
theorem Ke (h:noPtrTo s t):noPtrTo s (kill k t):=fun i=>qU _ _ _ _ (h i)
theorem FX (k:Nat) (t:Nat->V) (i:Nat):strip k t i=ca k (t i):=by unfold strip;exact Eq.refl _
theorem FY (k:Nat) (v:Value):ca k (.x v)= .x v:=aU _ _
theorem xR (k:Nat) (v:List V):ca k (.agg v)= .agg v:=aU _ _
theorem xS (k:Nat) (v:List V):ca k (.tup v)= .tup v:=aU _ _
theorem Cp (k:Nat) (v:List V):ca k (.ip v)= .ip v:=aU _ _
theorem xT (k s o:Nat):ca k (.ptr s o)= .ptr s o:=aU _ _
theorem xU (k s z l:Nat):ca k (.row s z l)= .row s z l:=aU _ _
theorem Kf (k:Nat) (t:Nat->V) (i:Nat):kill k t i=eo k (t i):=by unfold kill;exact Eq.refl _
theorem Kg (k:Nat) (v:Value):eo k (.x v)= .x v:=cR _ _
theorem Cq (k:Nat) (v:List V):eo k (.agg v)= .agg v:=cR _ _
theorem Cr (k:Nat) (v:List V):eo k (.tup v)= .tup v:=cR _ _
theorem FZ (k:Nat) (v:List V):eo k (.ip v)= .ip v:=cR _ _
theorem F0 (k:Nat) (nl:Bool) (sz:Nat) (es:List V) (t:Option Nat):eo k (.sl nl sz es t)= .sl nl sz es t:=cR _ _
theorem Ct (k:Nat) (t:TypeId):eo k (.dyn t)= .dyn t:=cR _ _
theorem tK (k:Nat):eo k .undef= .undef:=cR _ _
theorem Cu (k s o:Nat):eo k (.ptr s o)=if s=k then .undef else .ptr s o:=cR _ _
theorem Cv (k s z l:Nat):eo k (.row s z l)=if s=k then .undef else .row s z l:=cR _ _
theorem F1 (k:Nat) (ks vs:List V):eo k (.fm ks vs)= .fm ks vs:=cR _ _
theorem Cw (k:Nat) (ks vs:List V):ca k (.fm ks vs)= .fm ks vs:=aU _ _
variable {vs:List V}
theorem SI {i:Nat} {ks:List V} (h:noPtrTo s t):noPtrTo s (upd t i (.fm ks vs)):=by rw[bU A0l h];trivial
attribute [go_sem] F1 Cw SI mC EI O6
theorem xV (k:Nat) (t:TypeId):ca k (.dyn t)= .dyn t:=aU _ _
theorem NI {i:Nat} {d:TypeId} (h:noPtrTo s t):noPtrTo s (upd t i (.dyn d)):=by rw[bU A0l h];trivial
theorem rb (k:Nat):ca k .undef= .undef:=aU _ _
theorem tL (k:Nat) (nl:Bool) (sz:Nat) (es:List V):ca k (.sl nl sz es none)= .sl nl sz es none:=aU _ _
theorem tM (k s:Nat) (nl:Bool) (sz:Nat) (es:List V):ca k (.sl nl sz es (some s))= .sl nl sz es (if s=k then none else some s):=aU _ _
theorem tO:noPtrTo s (fun _=> .undef)=True:=eq_true (fun _ h=>by cases h)
theorem Kh:start []=⟨fun _=> .undef,fun _=>none⟩:=rfl
theorem Ki (u0:V):start [u0]=⟨upd (fun _=> .undef) 0 u0,fun _=>none⟩:=rfl
theorem Kj (u0 u1:V):start [u0,u1]=⟨upd (upd (fun _=> .undef) 1 u1) 0 u0,fun _=>none⟩:=rfl
theorem Kk (u0 u1 u2:V):start [u0,u1,u2]=⟨upd (upd (upd (fun _=> .undef) 2 u2) 1 u1) 0 u0,fun _=>none⟩:=rfl
theorem Kl (u0 u1 u2 u3:V):start [u0,u1,u2,u3]=⟨upd (upd (upd (upd (fun _=> .undef) 3 u3) 2 u2) 1 u1) 0 u0,fun _=>none⟩:=rfl
theorem Km (u0 u1 u2 u3 u4:V):start [u0,u1,u2,u3,u4]=⟨upd (upd (upd (upd (upd (fun _=> .undef) 4 u4) 3 u3) 2 u2) 1 u1) 0 u0,fun _=>none⟩:=rfl
theorem Ko (u0 u1 u2 u3 u4 u5:V):start [u0,u1,u2,u3,u4,u5]=⟨upd (upd (upd (upd (upd (upd (fun _=> .undef) 5 u5) 4 u4) 3 u3) 2 u2) 1 u1) 0 u0,fun _=>none⟩:=rfl
attribute [go_sem] E7 xK E8 Jq E9 Ca tt Cb Fa Jr tu Fb Cc o7 xM iP xO tx BU xv sY xw xx s8 qO bK dg ep aI ev dK Kh Ki Kj Kk Kl Km Ko St.put aB wT wR wS su Pf sE fl kf gc cD np V.notPtr V.dat V.cell V.cells kd kP iN isA Po dW qW g9 Yf NE NF SG SH FV NG tO Az fW JG JH cE
attribute [go_sem] BK j9 xV NI I4 cM dc dM j8 mQ dZ dq wO qE wP I7 px BD EG BE BF sw EJ EN Al An FX FY xR xS Cp xT rb tL tM FW fL
attribute [go_sem] ite_true ite_false true_implies and_true true_and and_self reduceCtorEq false_implies if_true if_false List.getElem?_toArray List.getElem?_cons_succ List.getElem?_cons_zero Option.bind_some Option.map_some List.map_cons List.map_nil List.all_cons List.all_nil Bool.and_self Bool.true_and Bool.and_true Bool.false_eq_true List.length_cons List.length_nil List.take_succ_cons List.take_zero List.drop_succ_cons List.drop_zero List.cons_append List.nil_append List.mapM_cons List.mapM_nil Option.pure_def Option.bind_eq_bind Option.isNone_none ne_eq not_true_eq_false not_false_eq_true or_self or_false false_or gt_iff_lt ge_iff_le Nat.lt_irrefl Nat.not_lt_zero Nat.le_refl beq_self_eq_true Bool.not_true Bool.not_false Bool.true_eq_false cond_true cond_false List.toList_toArray Nat.zero_le decide_true decide_false imp_self implies_true forall_const List.take_nil List.drop_nil and_false false_and Nat.zero_add Nat.add_zero Bool.true_or Bool.or_true Bool.false_or Bool.or_false Bool.and_false Bool.false_and true_or or_true BEq.rfl
attribute [go_sem 500] cS.eq_1
theorem Cx (k:List Nat) (t:Nat->V) (i:Nat):ge k t i=bT k (t i):=by unfold ge;exact Eq.refl _
theorem F2 (k:List Nat) (v:Value):bT k (.x v)= .x v:=cg _ _
theorem xW (k:List Nat) (v:List V):bT k (.agg v)= .agg v:=cg _ _
theorem xX (k:List Nat) (v:List V):bT k (.tup v)= .tup v:=cg _ _
theorem Cy (k:List Nat) (v:List V):bT k (.ip v)= .ip v:=cg _ _
theorem Cz (k:List Nat) (nl:Bool) (sz:Nat) (es:List V) (t:Option Nat):bT k (.sl nl sz es t)= .sl nl sz es t:=cg _ _
theorem CB (k:List Nat) (ks vs:List V):bT k (.fm ks vs)= .fm ks vs:=cg _ _
attribute [go_sem] CB
theorem xY (k:List Nat) (t:TypeId):bT k (.dyn t)= .dyn t:=cg _ _
theorem re (k:List Nat):bT k .undef= .undef:=cg _ _
theorem xZ (k:List Nat) (s o:Nat):bT k (.ptr s o)= .ptr s o:=cg _ _
theorem x5 (k:List Nat) (s z l:Nat):bT k (.row s z l)=if k.contains s=true then .undef else .row s z l:=cg _ _
theorem CC {k:List Nat} (h:noPtrTo s t):noPtrTo s (ge k t):=fun i=>by
 rcases fa k (t i) with⟨e,_⟩|e
 . show(bT k (t i)).nm≠_;rw[e];exact h i
 . show(bT k (t i)).nm≠_;rw[e];simp
theorem CD (us:List V):dx us=⟨fU 0 us,db 0 us⟩:=rfl
attribute [go_sem] MW MY JB MZ Fp tF JD Ft bg callP EO Pi bp sN Cx F2 xW xX Cy Cz xY re xZ x5 CC CD fU db ko Fc dG mf dH pC
variable {s':Nat}
theorem SJ {i:Nat} {ks:List V} (h:noPtrTo s t) (hne: ¬s=s'):noPtrTo s (upd t i (.mp s' ks vs)):=by rw[bU (by simp[aaJ hne]) h];trivial
theorem CE (k s:Nat) (ks vs:List V):ca k (.mp s ks vs)= .mp s ks vs:=aU _ _
theorem tP (k s:Nat) (ks vs:List V):eo k (.mp s ks vs)=if s=k then .undef else .mp s ks vs:=cR _ _
theorem CF (k:List Nat) (s:Nat) (ks vs:List V):bT k (.mp s ks vs)= .mp s ks vs:=cg _ _
theorem Kp (s:Nat) (ks vs:List V) (t:Nat->V) (i:Nat):o4 s ks vs t i=da s ks vs (t i):=by unfold o4;exact Eq.refl _
section
variable (s:Nat) (ks vs:List V)
theorem Kq (v:Value):da s ks vs (.x v)= .x v:=cx _ _ _ _
theorem CG (v:List V):da s ks vs (.agg v)= .agg v:=cx _ _ _ _
theorem CH (v:List V):da s ks vs (.tup v)= .tup v:=cx _ _ _ _
theorem F3 (v:List V):da s ks vs (.ip v)= .ip v:=cx _ _ _ _
theorem F4 (nl:Bool) (sz:Nat) (es:List V) (t:Option Nat):da s ks vs (.sl nl sz es t)= .sl nl sz es t:=cx _ _ _ _
theorem F5 (ks' vs':List V):da s ks vs (.fm ks' vs')= .fm ks' vs':=cx _ _ _ _
attribute [go_sem] F5
theorem CJ (t:TypeId):da s ks vs (.dyn t)= .dyn t:=cx _ _ _ _
theorem tQ:da s ks vs .undef= .undef:=cx _ _ _ _
theorem CK (k o:Nat):da s ks vs (.ptr k o)= .ptr k o:=cx _ _ _ _
theorem CL (k z l:Nat):da s ks vs (.row k z l)= .row k z l:=cx _ _ _ _
theorem F6 (s':Nat) (ks' vs':List V):da s ks vs (.mp s' ks' vs')=if s'=s then .mp s ks vs else .mp s' ks' vs':=cx _ _ _ _
end
theorem Kr {ks:List V} (h:noPtrTo s t):noPtrTo s (o4 k ks vs t):=fun i=>by
 show(da k ks vs (t i)).nm≠_;rcases ew k ks vs (t i) with e|⟨⟨ks',vs',e1⟩,e⟩
 . rw[e];exact h i
 . rw[e];have:=h i;rw[e1] at this;exact this
attribute [go_sem] mB EH SJ Kr CE tP CF Kp Kq CG CH F3 F4 CJ tQ CK CL F6
def SK:Option (List V)->V
 |some cs=> .bx cs
 |none=> .undef
section
variable (b:Nat->Option (List V)) (st:St) (E:Env)
theorem F7 (s:Nat):fo b (.ptr s 0)=SK (b s):=by show(match b s with|some cs=>V.bx cs|none=> .undef)=_;cases b s<;>rfl
theorem NJ (v:Value):fo b (.x v)= .x v:=cM v
theorem tR (v:List V):fo b (.agg v)= .agg v:=dc v
theorem Ks (v:List V):fo b (.ip v)= .ip v:=j8 v
theorem Kt (ks vs:List V):fo b (.fm ks vs)= .fm ks vs:=mC ks vs
attribute [go_sem] Kt
theorem F8 (t:TypeId):fo b (.dyn t)= .dyn t:=j9 t
theorem x6:fo b .undef= .undef:=dZ
theorem Ku (s:Nat) (ks vs:List V):fo b (.mp s ks vs)= .mp 0 ks vs:=rfl
theorem Kv (s:Nat) (ks vs:List V):(V.mp s ks vs).datP=true:=rfl
theorem Kw (nl:Bool) (sz:Nat) (es:List V) (t:Option Nat):fo b (.sl nl sz es t)=xd nl sz es t:=rfl
def rf (sz:Nat) (es:List V):V:=xd es.isEmpty sz es (some 0)
theorem F9 (sz:Nat) (es:List V) (k:Nat):xd es.isEmpty sz es (some k)=rf sz es:=by unfold rf;cases es<;>rfl
theorem Ga (sz:Nat) (es:List V) (t:Option Nat):xd true sz es t=rf 1 []:=rfl
theorem CM (sz:Nat) (es:List V):xd false sz es none= .sl false sz es none:=rfl
theorem CN (sz:Nat) (es:List V) (x:V) (k:Nat):xd false sz (es++[x]) (some k)=rf sz (es++[x]):=by unfold rf;cases es<;>rfl
theorem Kx (cs:List V):(V.bx cs).datP=true:=rfl
theorem NK (v:Value):(V.x v).datP=(V.x v).dat:=rfl
theorem Gb (v:List V):(V.agg v).datP=true:=rfl
theorem Gc (v:List V):(V.tup v).datP=false:=rfl
theorem Ky (v:List V):(V.ip v).datP=true:=rfl
theorem Kz (ks vs:List V):(V.fm ks vs).datP=true:=rfl
attribute [go_sem] Kz
theorem Gd (t:TypeId):(V.dyn t).datP=true:=rfl
theorem x7:V.undef.datP=false:=rfl
theorem KA (nl:Bool) (sz:Nat) (es:List V):(V.sl nl sz es none).datP=true:=rfl
theorem Ge (nl:Bool) (sz k:Nat) (es:List V):(V.sl nl sz es (some k)).datP=true:=rfl
theorem Gf (sz:Nat) (es:List V):(rf sz es).datP=true:=by cases es<;>rfl
theorem x9 (k sz:Nat) (es us:List V):dG k (rf sz es::us) b=dG (k+1) us b:=fe (by cases es<;>rfl)
theorem yb (k sz:Nat) (es us:List V) (t:Nat->V):dH k (rf sz es::us) t=dH (k+1) us t:=fc (by cases es<;>rfl)
theorem CO (nl:Bool) (sz:Nat) (es:List V) (t:Option Nat) (l:List V):bp (.sl nl sz es t::l)=bp l:=rfl
theorem Gg (d k sz:Nat) (nl:Bool) (es:List V):jw E st (some d) (.sl nl sz es (some k))=⟨upd (strip d st.t) d (.sl nl sz es (some d)),aC E d st.b⟩:=rfl
theorem KB (r:V):jw E st none r=st:=by unfold jw;rfl
theorem NL (d:Nat) (v:Value):jw E st (some d) (.x v)=st.put (some d) (.x v):=by show st.put (some d) (V.x v).bare=_;rw[cM]
theorem tS (d:Nat) (v:List V):jw E st (some d) (.agg v)=st.put (some d) (.agg v):=by show st.put (some d) (V.agg v).bare=_;rw[dc]
theorem Gh (d:Nat) (v:List V):jw E st (some d) (.tup v)=st.put (some d) (.tup v):=by show st.put (some d) (V.tup v).bare=_;rw[dM]
theorem KC (d:Nat) (ks vs:List V):jw E st (some d) (.fm ks vs)=st.put (some d) (.fm ks vs):=by show st.put (some d) (V.fm ks vs).bare=_;rw[mC]
attribute [go_sem] KC
theorem Gi (d:Nat) (t:TypeId):jw E st (some d) (.dyn t)=st.put (some d) (.dyn t):=by show st.put (some d) (V.dyn t).bare=_;rw[j9]
theorem KD (d:Nat) (v:List V):jw E st (some d) (.ip v)=st.put (some d) (.ip v):=by show st.put (some d) (V.ip v).bare=_;rw[j8]
theorem Gj (d sz:Nat) (nl:Bool) (es:List V):jw E st (some d) (.sl nl sz es none)=st.put (some d) (.sl nl sz es none):=by show st.put (some d) (V.sl nl sz es none).bare=_;rw[dq]
theorem Gk (nl:Bool) (sz k:Nat) (es:List V):MQ (.sl nl sz es (some k))=some (.sl nl sz es (some 0)):=rfl
theorem tT (k sz:Nat) (es us:List V):db k (rf sz es::us)=db (k+1) us:=jR (by cases es<;>rfl)
end
attribute [go_sem] jQ tT x9 yb Ku Kv cT SK F7 NJ tR Ks F8 x6 Kw F9 Ga CM CN Kx NK Gb Gc Ky Gd x7 KA Ge Gf CO bc stripL dE Gg KB NL tS Gh Gi KD Gj Gk nt Pp
attribute [go_sem] nA Nh Ni Nj Nk J0 FG Nl Nm JW Nn JY FD FF No JZ Np FH Nq Sx Sy J2
attribute [go_sem] B8 iM qT Pn Jl Jm
attribute [go_sem] M0 M1 M2 Fs xQ tG Cj Jc NH Ke Kf Kg Cq Cr FZ F0 Ct tK Cu Cv xU mR py List.flatMap_cons List.flatMap_nil List.append_nil
attribute [go_sem] xL tp jT MU Js MV JA Fm Fn JC Fo JE Fq Fu Ck tE M3 M4 JK M5 JN Fv
attribute [go_sem] M6 M7 M8 Fw Fy Fz FA M9 Na Nb Nc Sm Sn So Sp Sq Sr Ss Su JQ JR JS JT B0 xF kW B4 qF Sv Nf Sw Ng JO FB Cl FC JP V.unm V.isSl Ub MH OZ O0 MI EF
attribute [congr] tq xG ti xN qV tw Cd sZ qN s6
theorem KE:Int.toNat 0=0:=rfl
theorem KF:Int.toNat 1=1:=rfl
theorem KG:Int.toNat 2=2:=rfl
theorem KH:Int.toNat 3=3:=rfl
theorem KJ:Int.toNat 4=4:=rfl
attribute [go_sem] KE KF KG KH KJ
theorem Gl:Aq none=true:=rfl
theorem CP (k:IntKind) (n:Int):Aq (some (.x (.int k n)))=true:=rfl
attribute [go_sem] eO Jt Ju Jv Fh JI JV J4 Kc FT Nx Ny J9 Ka Nz Kb FQ FR Co FS tJ NA NB FU NC SB SD Kd Je mD Am tP mB
attribute [go_sem] Md qY Gl CP Option.map_none EP Mg Jw Jy Jz Fl JM JX Nr Ns J5 J6 Nt J7 FK FL Cn FN Fi Fj Fk Jd tI Nu Nv FO Nw Sz SA J8
abbrev T3:=Int×Int×ByteArray
abbrev tv (r:T3):V:=vl r.1 r.2.1 r.2.2
attribute [go_sem] vl tv Yd Ye SE SF Bool.not_eq_true' Bool.not_eq_false' Bool.not_not
def bM:List (Nat×V)->Nat->V
 |[]=>fun _=> .undef
 |(i,v)::l=>upd (bM l) i v
def tU:List (Nat×List V)->Nat->Option (List V)
 |[]=>fun _=>none
 |(i,cs)::l=>upd (tU l) i (some cs)
def am (ts:List (Nat×V)) (bs:List (Nat×List V)):St:=⟨bM ts,tU bs⟩
def fH (st:St):List (Nat×V)->Prop
 |[]=>True
 |(i,v)::l=>st.t i=v∧fH st l
def fX (st:St):List (Nat×List V)->Prop
 |[]=>True
 |(i,v)::l=>st.b i=some v∧fX st l
variable {st:St}
theorem aG {ts:List (Nat×V)} {bs:List (Nat×List V)} (h:fH st ts) (k:fX st bs):Le (am ts bs) st:=by
 refine⟨fun i=>?_,fun s cs hs=>?_⟩
 . show(bM ts i).le (st.t i)
   induction ts with
   |nil=>exact .inl rfl
   | cons p l ih=>
     simp only[bM,aB];split
     . rename_i e;subst e;exact .inr (.inl h.1.symm)
     . exact ih h.2
 . have hs:tU bs s=some cs:=hs
   induction bs with
   |nil=>cases hs
   | cons p l ih=>
     simp only[tU,aB] at hs;split at hs
     . rename_i e;cases hs;subst e;exact⟨_,k.1,fp _⟩
     . exact ih k.2 hs hs
def pQ {X:Type} (T:X->List (Nat×V)) (B:X->List (Nat×List V)) (μ:X->Nat) (n:Nat) (st:St):Prop:=∃x',fH st (T x')∧fX st (B x')∧μ x'<n
def nB {X:Type} (T:X->List (Nat×V)) (B:X->List (Nat×List V)) (μ:X->Nat) (n:Nat) (K:Out->St->Prop):Out->St->Prop
 | .normal,st=>pQ T B μ n st
 | .ret,st=>K .ret st
 | .exit id,st=>K (.exit id) st
section
variable {X:Type} (T:X->List (Nat×V)) (B:X->List (Nat×List V)) (μ:X->Nat) (n:Nat) (K:Out->St->Prop) (st:St)
theorem rh:nB T B μ n K .normal st=pQ T B μ n st:=rfl
theorem CQ:nB T B μ n K .ret st=K .ret st:=rfl
theorem yd (id:Nat):nB T B μ n K (.exit id) st=K (.exit id) st:=rfl
theorem tV {st':St} (h:st=st'):pQ T B μ n st=pQ T B μ n st':=by rw[h]
theorem tW {o o':Out} (h:o=o'):nB T B μ n K o st=nB T B μ n K o' st:=by rw[h]
end
variable {E:Env} {a:Code} {X:Type}
theorem dt {K:Out->St->Prop} (T:X->List (Nat×V)) (B:X->List (Nat×List V)) (μ:X->Nat) (x0:X) (h0:fH st (T x0)) (h0':fX st (B x0))
 (h:∀x,run E a (am (T x) (B x)) (nB T B μ (μ x) K)):tn (run E a) st K:=by
 refine⟨X,fun x=>am (T x) (B x),μ,x0,aG h0 h0',fun x=>?_⟩;have:=h x
 have e:∀o st',nB T B μ (μ x) K o st'->(match o with
  | .normal=>∃x',Le (am (T x') (B x')) st'∧μ x'<μ x
  |o=>K o st'):=by
  intro o st' hk;cases o with
  |normal=>obtain⟨x',h1,h2,h3⟩:=hk;exact⟨x',aG h1 h2,h3⟩
  |ret=>exact hk
  |exit id=>exact hk
 exact tz e this
def jU:List (Nat×Nat×Nat×V)->Nat->List (Nat×V)
 |[],_=>[]
 |(need,forb,s,v)::r,L=>if L&&&need=need∧L&&&forb=0 then (s,v)::jU r L else jU r L
theorem Gm (L:Nat):jU [] L=[]:=rfl
theorem CR (need forb s L:Nat) (v:V) (r:List (Nat×Nat×Nat×V)):jU ((need,forb,s,v)::r) L=if L&&&need=need∧L&&&forb=0 then (s,v)::jU r L else jU r L:=rfl
def NM (E:Env) (ops:List Oper) (ts:List (Nat×V)) (bs:List (Nat×List V)) (st:St):Option Oper->Prop
 |some o=>bw E ⟨ops⟩ [o] st fun st'=>fH st' ts∧fX st' bs
 |none=>False
def CS (E:Env) (ops:List Oper) (ents:List (Nat×Nat×Nat×V)) (bs:List (Nat×List V)):List (Nat×Nat×Nat)->Prop
 |[]=>True
 |(L,i,L')::r=>NM E ops (jU ents L') bs (am (jU ents L) bs) ops[i]?∧CS E ops ents bs r
theorem Gn (E:Env) (ops:List Oper) (ents:List (Nat×Nat×Nat×V)) (bs:List (Nat×List V)):CS E ops ents bs []=True:=rfl
theorem pR (E:Env) (ops:List Oper) (ents:List (Nat×Nat×Nat×V)) (bs:List (Nat×List V)) (L i L':Nat) (r:List (Nat×Nat×Nat)):CS E ops ents bs ((L,i,L')::r)=(NM E ops (jU ents L') bs (am (jU ents L) bs) ops[i]?∧CS E ops ents bs r):=rfl
theorem pS (E:Env) (ops:List Oper) (ts:List (Nat×V)) (bs:List (Nat×List V)) (st:St) (o:Oper):NM E ops ts bs st (some o)=bw E ⟨ops⟩ [o] st fun st'=>fH st' ts∧fX st' bs:=rfl
theorem KK {ops:List Oper} {K:St->Prop} (ents:List (Nat×Nat×Nat×V)) (bs:List (Nat×List V)) (ps:List (Nat×Nat×Nat)) (h:jD ops ps=true) (h0:fH st (jU ents 0)∧fX st bs) (ht:CS E ops ents bs ps)
 (hk:K (am (jU ents (2^ops.length-1)) bs)):Jp E ops st K:=by
 refine .inr ⟨fun L=>am (jU ents L) bs,ps,h,aG h0.1 h0.2,?_,hk⟩;clear h
 induction ps with
 |nil=>trivial
 | cons p r ih=>
   obtain⟨L,i,L'⟩:=p;rw[pR] at ht;refine⟨?_,ih ht.2⟩;have h1:=ht.1;cases ho:ops[i]? with
   |none=>rw[ho] at h1;exact h1.elim
   |some o=>rw[ho,pS] at h1;obtain⟨st',hs,hl,hb⟩:=cF _ _ h1;exact⟨st',hs,aG hl hb⟩
theorem Gp {K:Out->St->Prop} (i n tok:Nat) {n0:Nat} {k0:Option Nat} (h:st.t i= .sl true n0 [] k0)
 (hr:tn (run E a) ⟨upd st.t i (.sl true n [] (some tok)),st.b⟩ K):tn (run E a) st K:=by
 obtain⟨X,I,μ,x0,h0,hx⟩:=hr;refine⟨X,I,μ,x0,⟨fun j=>?_,h0.b⟩,hx⟩;have:=h0.t j;simp only[aB] at this;split at this
 . rename_i e;subst e;rw[h];rcases this with e|e|⟨n1,k1,n2,k2,e,_⟩
   . exact .inl e
   . exact .inr (.inr ⟨_,_,_,_,e,rfl⟩)
   . exact .inr (.inr ⟨_,_,_,_,e,rfl⟩)
 . exact this
variable {el n by':Nat}
theorem ff {z:List V} (h1:aY E.P el=some n) (hby:bN E.P el=some by') (hz:az E.P el=some z) (h4:n≠0) (h5:z.length=n)
 {es:List V} {v:V} (hc:v.cells.all V.cell=true) (hb:(es.length+1)*by'<=140737488355328) (hl:es.length+1<=9223372036854775807) (st:St) (d tok:Nat) (nl:Bool) (t':Option Nat):
 cS E st (some d) el (.sl es.isEmpty n es (some tok)) (.sl nl n [v] t')=some ⟨upd (strip tok (strip d st.t)) d (.sl false n (es++[v]) (some d)),aC E tok (aC E d st.b)⟩:=by
 unfold cS;simp only[h1,hby,hz];cases es with
 |nil=>simp only[List.isEmpty_nil,aaB];rw[Zp ⟨h4,h5,.inl trivial,by simp only[aap,hc,acn,abe],by simpa using hb,A0l⟩];rfl
 |cons e es=>simp only[List.isEmpty_cons];rw[Zp ⟨h4,h5,trivial,.inl trivial,by simp only[aap,hc,acn,abe],hb,hl⟩]
variable {α:Type}
theorem ye (l:List α) (x:α):(l++[x]).isEmpty=false:=by cases l<;>rfl
attribute [go_sem] sB sC ye
attribute [go_sem] Gm CR pS Gn pR
attribute [go_sem] bM tU am fH fX Int.le_refl Int.lt_irrefl rh CQ yd tt
attribute [congr] tW tV
theorem SL (x:Int):aw .i64 x=wrap64 x:=(gt _ _).trans (IntWalk.i64_left x)
theorem aj {x:Int} (h:inR x):aw .i64 x=x:=(SL x).trans (Ci h)
theorem aQ {i:Nat} (h:i<9223372036854775807):aw .i64 ((i:Int)+1)=((i+1:Nat):Int):=by rw[aj A0j];omega
theorem yf (a:Nat):((a:Int)).toNat=a:=rfl
def ia (b:Int):Bool:=decide (97<=b)&&decide (b<=122)
def NN (b:Int):Bool:=decide (65<=b)&&decide (b<=90)
def nC (b:Int):Bool:=decide (48<=b)&&decide (b<=57)
def iQ:List V->Option V
 |[.x (.int .u8 b)]=>some (.x (.bool (ia b)))
 |_=>none
def kY:List V->Option V
 |[.x (.int .u8 b)]=>some (.x (.bool (nC b)))
 |_=>none
def B (l:List UInt8):ByteArray:=⟨⟨l⟩⟩
open Classical in
noncomputable def FE {α ρ:Type} (enc:α->List V) (G:α->Option ρ):List V->Option ρ:=fun us=>if h:∃a,enc a=us then G (Classical.choose h) else none
variable {ρ:Type}
theorem cL {enc:α->List V} (inj:∀a b,enc a=enc b->a=b) (G:α->Option ρ) (a:α):FE enc G (enc a)=G a:=by unfold FE;have h:∃b,enc b=enc a:=⟨a,rfl⟩;rw[dif_pos h,inj _ _ (aab h)]
theorem bL {α ρ:Type} {enc:α->List V} {G:α->Option ρ} {r:ρ} (h:FE enc G us=some r):∃a,us=enc a∧G a=some r:=by
 unfold FE at h;split at h
 . rename_i hx;exact⟨_,(aab hx).symm,h⟩
 . cases h
theorem bP {p:Prop} [Decidable p] {o:Option ρ} {r:ρ} (h:(if p then o else none)=some r):p∧o=some r:=by
 by_cases hp:p
 . rw[Zp hp] at h;exact⟨hp,h⟩
 . rw[Zs hp] at h;cases h
theorem kZ {z:List V} (h1:aY E.P el=some n) (hby:bN E.P el=some by') (hz:az E.P el=some z) (h4:n≠0) (h5:z.length=n)
 {v:V} (hc:v.cells.all V.cell=true) {len:Nat} (hb:(len+1)*by'<=140737488355328) (hl:len+1<=9223372036854775807) (st:St) (d s:Nat) (nl:Bool) (t':Option Nat) (hMB:E.MB d=false:=by rfl):
 cS E st (some d) el (.row s n len) (.sl nl n [v] t')=match st.b s with
  |some cs=>some ⟨upd (kill s (kill d st.t)) d (.row d n (len+1)),upd (upd st.b s none) d (some (cs.take (len*n)++v.cells))⟩
  |none=>none:=by
 unfold cS;simp only[h1,hby,hz];cases st.b s with
 |none=>rfl
 |some cs=>simp only;rw[Zp ⟨h4,h5,trivial,.inl trivial,by simp only[aap,hc,acn,abe],hb,hl,hMB⟩];simp
variable {A G:List V}
theorem KL {x:V} {m:Nat} (h:A.length=m):(A++x::G)[m]?=some x:=by subst h;simp
theorem Gq {m:Nat} (h:A.length=m):(A++G).take m=A:=by subst h;simp
end Go.Proofs.Ytmfojhkjbkombaa

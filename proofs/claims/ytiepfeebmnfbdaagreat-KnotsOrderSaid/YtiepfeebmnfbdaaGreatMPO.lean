/- MPO -/
import Derived.Test.YtiepfeebmnfbdaaGreatPfTy
import Derived.Test.YtiepfeebmnfbdaaGreatGlob
import Derived.Test.YtiepfeebmnfbdaaGreatArithP
namespace Go.Proofs.YtiepfeebmnfbdaaGreat
noncomputable section
open Tryz
set_option linter.unusedSimpArgs false
open Go Go.RowKit
def DA:List (Nat×(U->Option V))->Nat->Option (U->Option V)
 |[],_=>none
 |(k,F)::l,i=>if k=i then some F else DA l i
def bC:List (Nat×(U->Option (V×List U)))->Nat->Option (U->Option (V×List U))
 |[],_=>none
 |(k,F)::l,i=>if k=i then some F else bC l i
def aY(l:List (Nat×(U->Option V)))(M:Nat->Bool)(lp:List (Nat×(U->Option (V×List U))))(MB any:Nat->Bool):Env:=⟨prog,DA l,fun _=> .undef,Glob,M,bC lp,iq,MB,any,fun _ _=>none,0,fun _=>none,fun _=>false,fun _=>false⟩
def gZ(l:List (Nat×(U->Option V)))(M:Nat->Bool)(lp:List (Nat×(U->Option (V×List U)))):Env:=aY l M lp (fun _=>false) (fun _=>false)
def dv(l:List (Nat×(U->Option V)))(M:Nat->Bool):Env:=gZ l M []
def aI(l:List (Nat×(U->Option V))):Env:=dv l fun _=>false
section
variable(l:List (Nat×(U->Option V)))(M:Nat->Bool)(lp:List (Nat×(U->Option (V×List U))))(MB any:Nat->Bool)
theorem lU:(aY l M lp MB any).P=prog:=rfl
theorem Rn:(aY l M lp MB any).F=DA l:=rfl
theorem Nm:(aY l M lp MB any).FP=bC lp:=rfl
theorem Nn(d:Option Tmp):(aY l M lp MB any).fzO d=false:=by cases d<;>rfl
theorem No(d:Option Tmp):(gZ l M lp).fzO d=false:=by cases d<;>rfl
theorem Np(d:Option Tmp):(dv l M).fzO d=false:=by cases d<;>rfl
theorem II(d:Option Tmp):(aI l).fzO d=false:=by cases d<;>rfl
theorem IM(d:Option Tmp):(dv l M).litD d=false:=by cases d<;>rfl
theorem Nq:(aY l M lp MB any).FM=fun _=>none:=rfl
theorem Ns:(dv l M).FM=fun _=>none:=rfl
theorem IN:(aI l).FM=fun _=>none:=rfl
theorem Ro:(aY l M lp MB any).G=fun _=> .undef:=rfl
theorem Nt:(aY l M lp MB any).MB=MB:=rfl
theorem IP:(aY l M lp MB any).any=any:=rfl
theorem IQ(d:Nat):(aY l M lp MB any).own (some d)=M d:=rfl
theorem Rp:(gZ l M lp).P=prog:=rfl
theorem Rr:(gZ l M lp).G=fun _=> .undef:=rfl
theorem Nv:(gZ l M lp).MB=fun _=>false:=rfl
theorem IS(d:Nat):(gZ l M lp).own (some d)=M d:=rfl
theorem Rt:(dv l M).P=prog:=rfl
theorem Ru:(dv l M).F=DA l:=rfl
theorem Nw:(dv l M).FP=fun _=>none:=rfl
theorem Rv:(dv l M).G=fun _=> .undef:=rfl
theorem Nx:(dv l M).MB=fun _=>false:=rfl
theorem IT(i:Nat):(dv l M).any i=false:=rfl
theorem IU(d:Nat):(dv l M).own (some d)=M d:=rfl
theorem Fn(d:Option Tmp):(aI l).own d=false:=by cases d<;>rfl
theorem ir:(aI l).P=prog:=rfl
theorem Ny:(aI l).F=DA l:=rfl
theorem IV:(aI l).FP=fun _=>none:=rfl
theorem Nz:(aI l).G=fun _=> .undef:=rfl
theorem IW:(aI l).MB=fun _=>false:=rfl
theorem Fo(i:Nat):(aI l).any i=false:=rfl
def jQ(l:List (Nat×(U->Option V)))(any:Nat->Bool):Env:=aY l (fun _=>false) [] (fun _=>false) any
theorem wD:(aY l M lp MB any).plain=jQ l any:=rfl
theorem wF:(aI l).plain=aI l:=rfl
theorem NA(d:Option Tmp):(jQ l any).fzO d=false:=by cases d<;>rfl
theorem Rw:(jQ l any).P=prog:=rfl
theorem Ry:(jQ l any).F=DA l:=rfl
theorem NB:(jQ l any).FP=fun _=>none:=rfl
theorem NC:(jQ l any).FM=fun _=>none:=rfl
theorem Rz:(jQ l any).G=fun _=> .undef:=rfl
theorem ND:(jQ l any).MB=fun _=>false:=rfl
theorem IX(d:Option Tmp):(jQ l any).own d=false:=by cases d<;>rfl
section
variable(st:St)(b:Nat->Option U)(k s:Nat)(p u:V)(d:Option Nat)(cs:U)
theorem RD:wipe (aI l) st=st:=rfl
theorem IY:aG (gZ l M lp) k b=b:=rfl
theorem IZ:aG (dv l M) k b=b:=rfl
theorem I0:aG (aI l) k b=b:=rfl
theorem I1:aG (jQ l any) k b=b:=rfl
theorem RG:(dv l M).kept s u=u.bare:=rfl
theorem RH:(aI l).kept s u=u.bare:=rfl
theorem Xx:(dv l M).okS s u=true:=rfl
theorem Xy:(aI l).okS s u=true:=rfl
theorem XB:(dv l M).okN d cs=true:=by cases d<;>rfl
theorem XC:(aI l).okN d cs=true:=by cases d<;>rfl
theorem XE:(aY l M lp MB any).okN (some s) cs=(!MB s||cs.all V.unm):=rfl
theorem XF:(aY l M lp MB any).okS s u=(!MB s||(u.isSl||u.cells.all V.unm)):=rfl
theorem RK:(aY l M lp MB any).kept s u=if MB s=true then u else u.bare:=rfl
theorem NE(o:Nat):(aY l M lp MB any).keepL (.ptr s o) u=if MB s=true then u else u.bare:=rfl
theorem I2:(aY l M lp MB any).keepL (.ip cs) u=u.bare:=rfl
theorem Fp:aG (aY l M lp MB any) k b s=if MB s=true then (b s).map (List.map (cK k)) else b s:=rfl
theorem NF:wipe (aY l M lp (fun _=>false) any) st=st:=rfl
theorem NG:(gZ l M lp).keepL p u=u.bare:=by cases p<;>rfl
theorem NH:(dv l M).keepL p u=u.bare:=by cases p<;>rfl
theorem NI:(aI l).keepL p u=u.bare:=by cases p<;>rfl
theorem NJ:(jQ l any).keepL p u=u.bare:=by cases p<;>rfl
end
end
def cg(f:FuncId)(F:U->Option V):Prop:=Fun (aI []) f F
def wG:List (Nat×(U->Option V))->Prop
 |[]=>True
 |p::l=>cg p.1 p.2∧wG l
def I4(f:FuncId)(F:U->Option (V×List U)):Prop:=FunP (aI []) f F
def Fq:List (Nat×(U->Option (V×List U)))->Prop
 |[]=>True
 |p::l=>I4 p.1 p.2∧Fq l
theorem ge(l:List (Nat×(U->Option V)))(M:Nat->Bool)(lp:List (Nat×(U->Option (V×List U))))(MB any:Nat->Bool)(h:wG l)(hp:Fq lp):EnvOK (aY l M lp MB any):=by
 refine⟨fun f F hF=>?_,fun f F hF=>?_,fun X w w' hX hj hb=>Glob.low hj hb.size ⟨hb.os,hb.tape,hb.output,hb.size,fun k hk=>hb.block k (ad1 hk (Glob.high hj)) (fun hm=>absurd (hX k hm) (afg.2 hk))⟩,fun w hj=>Glob.high hj,(fun f lb=>rfl),fun f F hF=>by cases hF⟩
 . have key:∀l,wG l->DA l f=some F->cg f F:=by
    intro l
    induction l with
    |nil=>intro _ h;cases h
    | cons p l ih=>
      intro h hF;simp only[DA] at hF;split at hF
      . rename_i e;cases hF;exact e▸h.1
      . exact ih h.2 hF
   exact key l h hF
 . have key:∀l,Fq l->bC l f=some F->I4 f F:=by
    intro l
    induction l with
    |nil=>intro _ h;cases h
    | cons p l ih=>
      intro h hF;simp only[bC] at hF;split at hF
      . rename_i e;cases hF;exact e▸h.1
      . exact ih h.2 hF
   exact key lp hp hF
theorem DB(l:List (Nat×(U->Option V)))(M:Nat->Bool)(lp:List (Nat×(U->Option (V×List U))))(h:wG l)(hp:Fq lp):EnvOK (gZ l M lp):=ge l M lp _ _ h hp
theorem ug(l:List (Nat×(U->Option V)))(M:Nat->Bool)(h:wG l):EnvOK (dv l M):=DB l M [] h trivial
theorem aU(l:List (Nat×(U->Option V)))(h:wG l):EnvOK (aI l):=ug l _ h
theorem pI(l:List (Nat×(U->Option V)))(M:Nat->Bool)(lp:List (Nat×(U->Option (V×List U))))(MB any:Nat->Bool)(u:V):jP (aY l M lp MB any) u=none:=by unfold jP;split<;>rfl
theorem RM(l:List (Nat×(U->Option V)))(M:Nat->Bool)(u:V):jP (dv l M) u=none:=pI _ _ _ _ _ u
theorem RN(l:List (Nat×(U->Option V)))(u:V):jP (aI l) u=none:=pI _ _ _ _ _ u
theorem RO(l:List (Nat×(U->Option V)))(any:Nat->Bool)(u:V):jP (jQ l any) u=none:=pI _ _ _ _ _ u
def eB(G:Nat->V)(X:FuncId->List Value->Option (U->Option (V×List U)))(xk:Nat):Env:=⟨prog,fun _=>none,G,Glob,fun _=>false,fun _=>none,iq,fun _=>false,fun _=>false,X,xk,fun _=>none,fun _=>false,fun _=>false⟩
section
variable(G:Nat->V)(X:FuncId->List Value->Option (U->Option (V×List U)))(xk:Nat)(f:FuncId)(u:V)(d:Option Nat)(cs:U)(st:St)(b:Nat->Option U)(k s:Nat)(p:V)
theorem NK(d:Option Tmp):(eB G X xk).fzO d=false:=by cases d<;>rfl
theorem RP:(eB G X xk).P=prog:=rfl
theorem NN:(eB G X xk).MB=fun _=>false:=rfl
theorem NO:(eB G X xk).xk=xk:=rfl
theorem NP(lb:Array Value):jP (eB G X xk) (.x (.func (.func f) #[] lb))=X f lb.toList:=rfl
theorem RX:(eB G X xk).kept s u=u.bare:=rfl
theorem XG:(eB G X xk).okS s u=true:=rfl
theorem XH:(eB G X xk).okN d cs=true:=by cases d<;>rfl
theorem NQ:(eB G X xk).keepL p u=u.bare:=by cases p<;>rfl
end
theorem DC(G:Nat->V)(X:FuncId->List Value->Option (U->Option (V×List U)))(xk:Nat)(h1:1000<=xk)(pm:Pm)(bk:Nat)(hb:pm.b (eB G X xk).xk=bk)(h:∀f lb F,(eB G X xk).X f lb=some F->FunX (eB G X xk) bk f lb F):EnvX (eB G X xk) pm:=
 ⟨(fun f F e=>by cases e),(fun f F e=>by cases e),fun X w w' hX hj hb=>Glob.low hj hb.size ⟨hb.os,hb.tape,hb.output,hb.size,fun k hk=>hb.block k (ad1 hk (Glob.high hj)) (fun hm=>absurd (hX k hm) (afg.2 hk))⟩,(fun w hj=>Glob.high hj),(fun f lb F e=>⟨h1,by rw[hb];exact h f lb F e⟩),.inl (fun _=>rfl),fun f F hF=>by cases hF⟩
def I9(f:FuncId)(F:U->Option (U×U)):Prop:=FunM (aI []) f F
def NR:List (Nat×(U->Option (U×U)))->Prop
 |[]=>True
 |p::l=>I9 p.1 p.2∧NR l
def QC:List (Nat×(U->Option (U×U)))->Nat->Option (U->Option (U×U))
 |[],_=>none
 |(k,F)::l,i=>if k=i then some F else QC l i
def bV(l:List (Nat×(U->Option V)))(lp:List (Nat×(U->Option (V×List U))))(lm:List (Nat×(U->Option (U×U))))(lit any:Nat->Bool):Env:=⟨prog,DA l,fun _=> .undef,Glob,lit,bC lp,iq,fun _=>false,any,fun _ _=>none,0,QC lm,lit,fun _=>false⟩
section
variable(l:List (Nat×(U->Option V)))(lp:List (Nat×(U->Option (V×List U))))(lm:List (Nat×(U->Option (U×U))))(lit any:Nat->Bool)(u:V)(d:Option Nat)(cs:U)(st:St)(b:Nat->Option U)(k s:Nat)(p:V)
theorem NS(d:Option Tmp):(bV l lp lm lit any).fzO d=false:=by cases d<;>rfl
theorem RY:(bV l lp lm lit any).P=prog:=rfl
theorem RZ:(bV l lp lm lit any).F=DA l:=rfl
theorem NT:(bV l lp lm lit any).FP=bC lp:=rfl
theorem NU:(bV l lp lm lit any).FM=QC lm:=rfl
theorem R1:(bV l lp lm lit any).G=fun _=> .undef:=rfl
theorem NV:(bV l lp lm lit any).MB=fun _=>false:=rfl
theorem Ja:(bV l lp lm lit any).any=any:=rfl
theorem Jb(d:Nat):(bV l lp lm lit any).own (some d)=lit d:=rfl
theorem Jc(d:Nat):(bV l lp lm lit any).litD (some d)=lit d:=rfl
theorem wH:(bV l lp lm lit any).plain=jQ l any:=rfl
theorem R3:jP (bV l lp lm lit any) u=none:=by unfold jP;split<;>rfl
theorem R4:wipe (bV l lp lm lit any) st=st:=rfl
theorem Jd:aG (bV l lp lm lit any) k b=b:=rfl
theorem R5:(bV l lp lm lit any).kept s u=u.bare:=rfl
theorem XI:(bV l lp lm lit any).okS s u=true:=rfl
theorem XJ:(bV l lp lm lit any).okN d cs=true:=by cases d<;>rfl
theorem NW:(bV l lp lm lit any).keepL p u=u.bare:=by cases p<;>rfl
end
theorem bF(l:List (Nat×(U->Option V)))(lp:List (Nat×(U->Option (V×List U))))(lm:List (Nat×(U->Option (U×U))))(lit any:Nat->Bool)(h:wG l)(hp:Fq lp)(hq:NR lm):EnvOK (bV l lp lm lit any):=by
 have h0:=ge l (fun _=>false) lp (fun _=>false) any h hp;refine⟨h0.fn,h0.fnP,h0.keep,h0.high,h0.noX,fun f F hF=>?_⟩;have key:∀l,NR l->QC l f=some F->I9 f F:=by
  intro l
  induction l with
  |nil=>intro _ h;cases h
  | cons p l ih=>
    intro h hF;simp only[QC] at hF;split at hF
    . rename_i e;cases hF;exact e▸h.1
    . exact ih h.2 hF
 exact key lm hq hF
def gK(l:List (Nat×(U->Option V)))(lp:List (Nat×(U->Option (V×List U))))(lm:List (Nat×(U->Option (U×U))))(M lit fz any:Nat->Bool):Env:=⟨prog,DA l,fun _=> .undef,Glob,M,bC lp,iq,fun _=>false,any,fun _ _=>none,0,QC lm,lit,fz⟩
section
variable(l:List (Nat×(U->Option V)))(lp:List (Nat×(U->Option (V×List U))))(lm:List (Nat×(U->Option (U×U))))(M lit fz any:Nat->Bool)(u:V)(d:Option Nat)(cs:U)(st:St)(b:Nat->Option U)(k s:Nat)(p:V)
theorem R6:(gK l lp lm M lit fz any).P=prog:=rfl
theorem R7:(gK l lp lm M lit fz any).F=DA l:=rfl
theorem NX:(gK l lp lm M lit fz any).FP=bC lp:=rfl
theorem NY:(gK l lp lm M lit fz any).FM=QC lm:=rfl
theorem R8:(gK l lp lm M lit fz any).G=fun _=> .undef:=rfl
theorem NZ:(gK l lp lm M lit fz any).MB=fun _=>false:=rfl
theorem Jf(d:Nat):(gK l lp lm M lit fz any).own (some d)=M d:=rfl
theorem N0(d:Nat):(gK l lp lm M lit fz any).fzO (some d)=fz d:=rfl
theorem Jh:(gK l lp lm M lit fz any).fzO none=false:=rfl
theorem R9:jP (gK l lp lm M lit fz any) u=none:=by unfold jP;split<;>rfl
theorem Sb:(gK l lp lm M lit fz any).kept s u=u.bare:=rfl
theorem XK:(gK l lp lm M lit fz any).okS s u=true:=rfl
theorem XL:(gK l lp lm M lit fz any).okN d cs=true:=by cases d<;>rfl
theorem N2:(gK l lp lm M lit fz any).keepL p u=u.bare:=by cases p<;>rfl
end
theorem DD(l:List (Nat×(U->Option V)))(lp:List (Nat×(U->Option (V×List U))))(lm:List (Nat×(U->Option (U×U))))(M lit fz any:Nat->Bool)(h:wG l)(hp:Fq lp)(hq:NR lm):EnvOK (gK l lp lm M lit fz any):=by have h0:=bF l lp lm lit any h hp hq;exact⟨h0.fn,h0.fnP,h0.keep,h0.high,h0.noX,h0.fnM⟩
theorem sD{m:Lim}{w:World}:∀{vs:List Value} {us:U} {xs:List Value},RdL m w vs us->us.mapM V.one=some xs->vs=xs
 |[],[],xs,_,h=>by simp at h;exact h.symm
 | v ::vs,u::us,xs,hr,h=>by
   rw[afk] at h;cases u with
   | x u=>
     simp only[V.one,afY,afB,aeL] at h;cases hm:us.mapM V.one with
     |none=>rw[hm] at h;cases h
     |some r=>rw[hm] at h;cases h;rw[sD hr.2 hm,Rd.x_iff.1 hr.1]
   |_=>simp[V.one] at h
variable{m:Lim}{w:World}{u:V}
theorem Sc{v x:Value}(h:Rd m w v u)(hu:u.val=some x):v=x:=by
 cases u with
 |x u=>cases hu;exact Rd.x_iff.1 h
 |agg cs=>obtain⟨a,rfl,hr⟩:=Rd.agg_iff.1 h;simp only[V.val,adn] at hu;obtain⟨l,hl,rfl⟩:=hu;have:=sD hr hl;rw[<-this]
 |_=>simp[V.val] at hu
theorem DE{m:Lim}{w:World}:∀{vs:List Value} {us:U} {xs:List Value},RdL m w vs us->us.map V.val=xs.map some->vs=xs
 |[],[],[],_,_=>rfl
 |[],[],_::_,_,h=>by simp at h
 |v::vs,u::us,[],_,h=>by simp at h
 |v::vs,u::us,x::xs,hr,h=>by simp only[adL,adW] at h;rw[Sc hr.1 h.1,DE hr.2 h.2]
variable{us:U}
theorem N3{vs:Array Value}{xs:List Value}(hr:RdL m w vs.toList us)(h:us.map V.val=xs.map some):vs=xs.toArray:=by rw[<-DE hr h]
abbrev vl(k n:Int)(s:ByteArray):V:= .agg [.i k,.i n,.x (.string s)]
variable{s:Nat}{t:Nat->V}
theorem cD{i:Nat}{v:V}(hv:v.nm≠some s)(h:noPtrTo s t):noPtrTo s (upd t i v)=True:=by
 refine eq_true (fun j=>?_);rw[aJ];split
 . exact hv
 . exact h j
theorem acS(b:Bool):(b==true)=b:=by cases b<;>rfl
theorem acT(b:Bool):(b==false)= !b:=by cases b<;>rfl
section
variable{s i:Nat}{t:Nat->V}
theorem acU{v:Value}(h:noPtrTo s t):noPtrTo s (upd t i (.x v)):=by rw[cD A0k h];trivial
variable{v:U}
theorem Sd(h:noPtrTo s t):noPtrTo s (upd t i (.agg v)):=by rw[cD A0k h];trivial
theorem Se(h:noPtrTo s t):noPtrTo s (upd t i (.tup v)):=by rw[cD A0k h];trivial
theorem XO{a:Bool}{z:Nat}{c:Option Nat}(h:noPtrTo s t):noPtrTo s (upd t i (.sl a z v c)):=by rw[cD A0k h];trivial
theorem XP(h:noPtrTo s t):noPtrTo s (upd t i (.ip v)):=by rw[cD A0k h];trivial
theorem Jj(h:noPtrTo s t):noPtrTo s (upd t i .undef):=by rw[cD A0k h];trivial
variable{s':Nat}
theorem Sf{off:Nat}(h:noPtrTo s t)(hne: ¬s=s'):noPtrTo s (upd t i (.ptr s' off)):=by rw[cD (by simp[aeM hne]) h];trivial
theorem Sg{z l:Nat}(h:noPtrTo s t)(hne: ¬s=s'):noPtrTo s (upd t i (.row s' z l)):=by rw[cD (by simp[aeM hne]) h];trivial
end
variable{k:Nat}
theorem Jk(h:noPtrTo s t):noPtrTo s (strip k t):=by intro i;rw[mC];exact h i
theorem Jl(k:Nat)(t:Nat->V)(i:Nat):strip k t i=cK k (t i):=by unfold strip;exact Eq.refl _
theorem Jm(k:Nat)(v:Value):cK k (.x v)= .x v:=bj _ _
theorem AW(k:Nat)(v:U):cK k (.agg v)= .agg v:=bj _ _
theorem Fu(k:Nat)(v:U):cK k (.ip v)= .ip v:=bj _ _
theorem AY(k s o:Nat):cK k (.ptr s o)= .ptr s o:=bj _ _
theorem AZ(k s z l:Nat):cK k (.row s z l)= .row s z l:=bj _ _
theorem N5(k:Nat)(t:Nat->V)(i:Nat):kill k t i=fB k (t i):=by unfold kill;exact Eq.refl _
theorem N6(k:Nat)(v:Value):fB k (.x v)= .x v:=dH _ _
theorem Jo(k:Nat)(nl:Bool)(sz:Nat)(es:U)(t:Option Nat):fB k (.sl nl sz es t)= .sl nl sz es t:=dH _ _
theorem wJ(k:Nat):fB k .undef= .undef:=dH _ _
theorem Fz(k s o:Nat):fB k (.ptr s o)=if s=k then .undef else .ptr s o:=dH _ _
theorem FA(k s z l:Nat):fB k (.row s z l)=if s=k then .undef else .row s z l:=dH _ _
theorem FB(k:Nat)(ks vs:U):cK k (.fm ks vs)= .fm ks vs:=bj _ _
variable{vs:U}
theorem XQ{i:Nat}{ks:U}(h:noPtrTo s t):noPtrTo s (upd t i (.fm ks vs)):=by rw[cD A0k h];trivial
attribute [go_sem] FB XQ oP H8
theorem uh(k:Nat):cK k .undef= .undef:=bj _ _
theorem wK(k:Nat)(nl:Bool)(sz:Nat)(es:U):cK k (.sl nl sz es none)= .sl nl sz es none:=bj _ _
theorem wL(k s:Nat)(nl:Bool)(sz:Nat)(es:U):cK k (.sl nl sz es (some s))= .sl nl sz es (if s=k then none else some s):=bj _ _
theorem wM:noPtrTo s (fun _=> .undef)=True:=eq_true (fun _ h=>by cases h)
theorem N7:start []=⟨fun _=> .undef,fun _=>none⟩:=rfl
theorem N8(u0:V):start [u0]=⟨upd (fun _=> .undef) 0 u0,fun _=>none⟩:=rfl
theorem N9(u0 u1:V):start [u0,u1]=⟨upd (upd (fun _=> .undef) 1 u1) 0 u0,fun _=>none⟩:=rfl
theorem Oa(u0 u1 u2:V):start [u0,u1,u2]=⟨upd (upd (upd (fun _=> .undef) 2 u2) 1 u1) 0 u0,fun _=>none⟩:=rfl
theorem Ob(u0 u1 u2 u3:V):start [u0,u1,u2,u3]=⟨upd (upd (upd (upd (fun _=> .undef) 3 u3) 2 u2) 1 u1) 0 u0,fun _=>none⟩:=rfl
attribute [go_sem] Ix AO Iy Ni Iz Fg wq IA Nj wu IB Fi rG AQ j5 AT wx E5 Az vY AA v8 tW cu dt fC aW ev eO N7 N8 N9 Oa Ob St.put aJ Ad Ab Ac vp T4 vD gF mw iG dp np V.notPtr V.dat V.cell V.cells mr nq jZ isA Ub eX ud jz acU Sd Se XO XP Jj Sf wM DA ir Ny Nz dq
attribute [go_sem] EU MQ dB dY eT mn fi dV z7 tI z8 MY sc EK H6 EM H9 Ic Dm Jl Jm AW Fu AY uh wK wL Jk
attribute [go_sem] ite_true ite_false true_implies and_true true_and and_self reduceCtorEq false_implies if_true if_false List.getElem?_toArray List.getElem?_cons_succ List.getElem?_cons_zero Option.bind_some Option.map_some List.map_cons List.map_nil List.all_cons List.all_nil Bool.and_self Bool.true_and Bool.and_true Bool.false_eq_true List.length_cons List.length_nil List.take_succ_cons List.take_zero List.drop_succ_cons List.drop_zero List.cons_append List.nil_append List.mapM_cons List.mapM_nil Option.pure_def Option.bind_eq_bind Option.isNone_none ne_eq not_true_eq_false not_false_eq_true or_self or_false false_or gt_iff_lt ge_iff_le Nat.lt_irrefl Nat.not_lt_zero Nat.le_refl beq_self_eq_true Bool.not_true Bool.not_false Bool.true_eq_false cond_true cond_false List.toList_toArray Nat.zero_le decide_true decide_false imp_self implies_true forall_const List.take_nil List.drop_nil and_false false_and Nat.zero_add Nat.add_zero Bool.true_or Bool.or_true Bool.false_or Bool.or_false Bool.and_false Bool.false_and true_or or_true BEq.rfl
attribute [go_sem 500] bt.eq_1
theorem FC(k:List Nat)(t:Nat->V)(i:Nat):iH k t i=cC k (t i):=by unfold iH;exact Eq.refl _
theorem Jq(k:List Nat)(v:Value):cC k (.x v)= .x v:=cP _ _
theorem ui(k:List Nat):cC k .undef= .undef:=cP _ _
theorem A5(k:List Nat)(s o:Nat):cC k (.ptr s o)= .ptr s o:=cP _ _
theorem FJ(us:U):dR us=⟨im 0 us,dX 0 us⟩:=rfl
attribute [go_sem] Rp Rr IS Nw IV bC callP Ie T7 bO vL FC Jq ui A5 FJ im dX mG Dz eJ mF eK si
variable{s':Nat}
theorem XR{i:Nat}{ks:U}(h:noPtrTo s t)(hne: ¬s=s'):noPtrTo s (upd t i (.mp s' ks vs)):=by rw[cD (by simp[aeM hne]) h];trivial
theorem wN(k s:Nat)(ks vs:U):fB k (.mp s ks vs)=if s=k then .undef else .mp s ks vs:=dH _ _
theorem Og(s:Nat)(ks vs:U)(t:Nat->V)(i:Nat):rD s ks vs t i=dW s ks vs (t i):=by unfold rD;exact Eq.refl _
section
variable(s:Nat)(ks vs:U)
theorem Oh(v:Value):dW s ks vs (.x v)= .x v:=dc _ _ _ _
theorem Jr(v:U):dW s ks vs (.ip v)= .ip v:=dc _ _ _ _
theorem Js(nl:Bool)(sz:Nat)(es:U)(t:Option Nat):dW s ks vs (.sl nl sz es t)= .sl nl sz es t:=dc _ _ _ _
theorem wO:dW s ks vs .undef= .undef:=dc _ _ _ _
theorem FR(k o:Nat):dW s ks vs (.ptr k o)= .ptr k o:=dc _ _ _ _
theorem Ju(s':Nat)(ks' vs':U):dW s ks vs (.mp s' ks' vs')=if s'=s then .mp s ks vs else .mp s' ks' vs':=dc _ _ _ _
end
attribute [go_sem] H7 XR Og Oh Jr Js wO FR Ju
def XT:Option U->V
 |some cs=> .bx cs
 |none=> .undef
section
variable(b:Nat->Option U)(st:St)(E:Env)
theorem Jv(s:Nat):gG b (.ptr s 0)=XT (b s):=by show(match b s with|some cs=>V.bx cs|none=> .undef)=_;cases b s<;>rfl
theorem Si(v:Value):gG b (.x v)= .x v:=dB v
theorem wP(v:U):gG b (.agg v)= .agg v:=dY v
theorem Ot(cs:U):(V.bx cs).datP=true:=rfl
theorem Sj(v:Value):(V.x v).datP=(V.x v).dat:=rfl
theorem JA(v:U):(V.agg v).datP=true:=rfl
theorem JG(d k sz:Nat)(nl:Bool)(es:U):kW E st (some d) (.sl nl sz es (some k))=⟨upd (strip d st.t) d (.sl nl sz es (some d)),aG E d st.b⟩:=rfl
theorem Sk(d:Nat)(v:Value):kW E st (some d) (.x v)=st.put (some d) (.x v):=by show st.put (some d) (V.x v).bare=_;rw[dB]
theorem JH(d:Nat)(v:U):kW E st (some d) (.tup v)=st.put (some d) (.tup v):=by show st.put (some d) (V.tup v).bare=_;rw[eT]
theorem JK(d sz:Nat)(nl:Bool)(es:U):kW E st (some d) (.sl nl sz es none)=st.put (some d) (.sl nl sz es none):=by show st.put (some d) (V.sl nl sz es none).bare=_;rw[dV]
end
attribute [go_sem] lK dI XT Jv Si wP Ot Sj JA bB stripL eI JG Sk JH JK oL Uc
attribute [go_sem] pI RM RN RO NP RP NN NO RX XG XH NQ
attribute [go_sem] Fe jY t8 Ua
attribute [go_sem] Rt Ru Rv IU wF Fn M3 Sg N5 N6 Jo wJ Fz FA AZ sd List.flatMap_cons List.flatMap_nil List.append_nil
attribute [go_sem] AP wn lU Rn Nm Ro Nt IP IQ Nv Nx IW Fo wD Rw Ry NB Rz ND IX
attribute [go_sem] RD IY IZ I0 I1 RG RH Xx Xy XB XC NG NH NI NJ tJ XE XF RK NE I2 Fp NF V.unm V.isSl
attribute [congr] wo AS ub ww Fj v6 tV v7
theorem OB:Int.toNat 0=0:=rfl
theorem OF:Int.toNat 3=3:=rfl
attribute [go_sem] OB
theorem JN:Dr none=true:=rfl
attribute [go_sem] fX Nn No Np II NA NK NS N0 Jh R6 R7 NX NY R8 NZ Jf R9 Sb XK XL N2 M5 oQ Dn
attribute [go_sem] QA uf JN Option.map_none If QC Nq Ns IN NC RY RZ NT NU R1 NV Ja Jb Jc IM M4 wH R3 R4 Jd R5 XI XJ NW
abbrev T3:=Int×Int×ByteArray
abbrev tv(r:T3):V:=vl r.1 r.2.1 r.2.2
attribute [go_sem] vl tv acS acT Bool.not_eq_true' Bool.not_eq_false' Bool.not_not
def bX:List (Nat×V)->Nat->V
 |[]=>fun _=> .undef
 |(i,v)::l=>upd (bX l) i v
def vq:List (Nat×U)->Nat->Option U
 |[]=>fun _=>none
 |(i,cs)::l=>upd (vq l) i (some cs)
def aq(ts:List (Nat×V))(bs:List (Nat×U)):St:=⟨bX ts,vq bs⟩
def gw(st:St):List (Nat×V)->Prop
 |[]=>True
 |(i,v)::l=>st.t i=v∧gw st l
def gL(st:St):List (Nat×U)->Prop
 |[]=>True
 |(i,v)::l=>st.b i=some v∧gL st l
variable{st:St}
theorem aK{ts:List (Nat×V)}{bs:List (Nat×U)}(h:gw st ts)(k:gL st bs):Le (aq ts bs) st:=by
 refine⟨fun i=>?_,fun s cs hs=>?_⟩
 . show(bX ts i).le (st.t i)
   induction ts with
   |nil=>exact .inl rfl
   | cons p l ih=>
     simp only[bX,aJ];split
     . rename_i e;subst e;exact .inr (.inl h.1.symm)
     . exact ih h.2
 . have hs:vq bs s=some cs:=hs
   induction bs with
   |nil=>cases hs
   | cons p l ih=>
     simp only[vq,aJ] at hs;split at hs
     . rename_i e;cases hs;subst e;exact⟨_,k.1,fG _⟩
     . exact ih k.2 hs hs
def sE{X:Type}(T:X->List (Nat×V))(B:X->List (Nat×U))(μ:X->Nat)(n:Nat)(st:St):Prop:=∃x',gw st (T x')∧gL st (B x')∧μ x'<n
def pJ{X:Type}(T:X->List (Nat×V))(B:X->List (Nat×U))(μ:X->Nat)(n:Nat)(K:Out->St->Prop):Out->St->Prop
 | .normal,st=>sE T B μ n st
 | .ret,st=>K .ret st
 | .exit id,st=>K (.exit id) st
section
variable{X:Type}(T:X->List (Nat×V))(B:X->List (Nat×U))(μ:X->Nat)(n:Nat)(K:Out->St->Prop)(st:St)
theorem uk:pJ T B μ n K .normal st=sE T B μ n st:=rfl
theorem FX:pJ T B μ n K .ret st=K .ret st:=rfl
theorem Bb(id:Nat):pJ T B μ n K (.exit id) st=K (.exit id) st:=rfl
theorem wS{st':St}(h:st=st'):sE T B μ n st=sE T B μ n st':=by rw[h]
theorem wT{o o':Out}(h:o=o'):pJ T B μ n K o st=pJ T B μ n K o' st:=by rw[h]
end
variable{E:Env}{a:Code}{X:Type}
theorem aT{K:Out->St->Prop}(T:X->List (Nat×V))(B:X->List (Nat×U))(μ:X->Nat)(x0:X)(h0:gw st (T x0))(h0':gL st (B x0))
 (h:∀x,run E a (aq (T x) (B x)) (pJ T B μ (μ x) K)):mD (run E a) st K:=by
 refine⟨X,fun x=>aq (T x) (B x),μ,x0,aK h0 h0',fun x=>?_⟩;have:=h x
 have e:∀o st',pJ T B μ (μ x) K o st'->(match o with
  | .normal=>∃x',Le (aq (T x') (B x')) st'∧μ x'<μ x
  |o=>K o st'):=by
  intro o st' hk;cases o with
  |normal=>obtain⟨x',h1,h2,h3⟩:=hk;exact⟨x',aK h1 h2,h3⟩
  |ret=>exact hk
  |exit id=>exact hk
 exact pE e this
def j6:List (Nat×Nat×Nat×V)->Nat->List (Nat×V)
 |[],_=>[]
 |(need,forb,s,v)::r,L=>if L&&&need=need∧L&&&forb=0 then (s,v)::j6 r L else j6 r L
theorem JO(L:Nat):j6 [] L=[]:=rfl
theorem FY(need forb s L:Nat)(v:V)(r:List (Nat×Nat×Nat×V)):j6 ((need,forb,s,v)::r) L=if L&&&need=need∧L&&&forb=0 then (s,v)::j6 r L else j6 r L:=rfl
def Sl(E:Env)(ops:List Oper)(ts:List (Nat×V))(bs:List (Nat×U))(st:St):Option Oper->Prop
 |some o=>bH E ⟨ops⟩ [o] st fun st'=>gw st' ts∧gL st' bs
 |none=>False
def Bc(E:Env)(ops:List Oper)(ents:List (Nat×Nat×Nat×V))(bs:List (Nat×U)):List (Nat×Nat×Nat)->Prop
 |[]=>True
 |(L,i,L')::r=>Sl E ops (j6 ents L') bs (aq (j6 ents L) bs) ops[i]?∧Bc E ops ents bs r
theorem JP(E:Env)(ops:List Oper)(ents:List (Nat×Nat×Nat×V))(bs:List (Nat×U)):Bc E ops ents bs []=True:=rfl
theorem sF(E:Env)(ops:List Oper)(ents:List (Nat×Nat×Nat×V))(bs:List (Nat×U))(L i L':Nat)(r:List (Nat×Nat×Nat)):Bc E ops ents bs ((L,i,L')::r)=(Sl E ops (j6 ents L') bs (aq (j6 ents L) bs) ops[i]?∧Bc E ops ents bs r):=rfl
theorem sG(E:Env)(ops:List Oper)(ts:List (Nat×V))(bs:List (Nat×U))(st:St)(o:Oper):Sl E ops ts bs st (some o)=bH E ⟨ops⟩ [o] st fun st'=>gw st' ts∧gL st' bs:=rfl
theorem DF{ops:List Oper}{K:St->Prop}(ents:List (Nat×Nat×Nat×V))(bs:List (Nat×U))(ps:List (Nat×Nat×Nat))(h:j3 ops ps=true)(h0:gw st (j6 ents 0)∧gL st bs)(ht:Bc E ops ents bs ps)
 (hk:K (aq (j6 ents (2^ops.length-1)) bs)):Iw E ops st K:=by
 refine⟨fun L=>aq (j6 ents L) bs,ps,h,aK h0.1 h0.2,?_,hk⟩;clear h
 induction ps with
 |nil=>trivial
 | cons p r ih=>
   obtain⟨L,i,L'⟩:=p;rw[sF] at ht;refine⟨?_,ih ht.2⟩;have h1:=ht.1;cases ho:ops[i]? with
   |none=>rw[ho] at h1;exact h1.elim
   |some o=>rw[ho,sG] at h1;obtain⟨st',hs,hl,hb⟩:=da _ _ h1;exact⟨st',hs,aK hl hb⟩
theorem j7{K:Out->St->Prop}(i n tok:Nat){n0:Nat}{k0:Option Nat}(h:st.t i= .sl true n0 [] k0)
 (hr:mD (run E a) ⟨upd st.t i (.sl true n [] (some tok)),st.b⟩ K):mD (run E a) st K:=by
 obtain⟨X,I,μ,x0,h0,hx⟩:=hr;refine⟨X,I,μ,x0,⟨fun j=>?_,h0.b⟩,hx⟩;have:=h0.t j;simp only[aJ] at this;split at this
 . rename_i e;subst e;rw[h];rcases this with e|e|⟨n1,k1,n2,k2,e,_⟩
   . exact .inl e
   . exact .inr (.inr ⟨_,_,_,_,e,rfl⟩)
   . exact .inr (.inr ⟨_,_,_,_,e,rfl⟩)
 . exact this
variable{n:Nat}
theorem Sm{n0:Nat}{k k0:Option Nat}(h:u.le (.sl true n [] k)):u.le (.sl true n0 [] k0):=by
 rcases h with h|h|⟨n1,k1,n2,k2,h,_⟩
 . exact .inl h
 . exact .inr (.inr ⟨_,_,_,_,h,rfl⟩)
 . exact .inr (.inr ⟨_,_,_,_,h,rfl⟩)
theorem FZ{K:Out->St->Prop}(s n tok:Nat)(pre post:U){n0:Nat}{k0:Option Nat}(h:st.b s=some (pre++ .sl true n0 [] k0::post))
 (hr:mD (run E a) ⟨st.t,upd st.b s (some (pre++ .sl true n [] (some tok)::post))⟩ K):mD (run E a) st K:=by
 obtain⟨X,I,μ,x0,h0,hx⟩:=hr;refine⟨X,I,μ,x0,⟨h0.t,fun s' cs' hs'=>?_⟩,hx⟩;obtain⟨cs,h1,h2,h3⟩:=h0.b s' cs' hs';have h1:upd st.b s (some (pre++ .sl true n [] (some tok)::post)) s'=some cs:=h1;by_cases e:s'=s
 . subst e;rw[aj] at h1;cases h1;refine⟨_,h,by simpa using h2,fun i u' u hu' hu=>?_⟩;by_cases hi:i<pre.length
   . rw[adu hi] at hu;exact h3 i u' u hu' (by rw[adu hi];exact hu)
   . rw[adH A0b] at hu;cases hj:i-pre.length with
     |zero=>rw[hj] at hu;cases hu;exact Sm (h3 i u' (.sl true n [] (some tok)) hu' (by rw[adH A0b,hj];rfl))
     |succ j=>rw[hj] at hu;exact h3 i u' u hu' (by rw[adH A0b,hj];exact hu)
 . rw[ah _ _ e] at h1;exact⟨cs,h1,h2,h3⟩
variable{el by':Nat}{z:U}
theorem F0(h1:bo E.P el=some n)(hby:bY E.P el=some by')(hz:aB E.P el=some z)(h4:n≠0)(h5:z.length=n)
 {es es':U} (hc:(es'.all fun u=>u.cells.all V.cell)=true) (hb:(es.length+es'.length)*by'<=140737488355328) (hl:es.length+es'.length<=9223372036854775807) (st:St) (d tok:Nat) (nl:Bool) (t':Option Nat):
 bt E st (some d) el (.sl es.isEmpty n es (some tok)) (.sl nl n es' t')=some ⟨upd (strip tok (strip d st.t)) d (.sl (es++es').isEmpty n (es++es') (some d)),aG E tok (aG E d st.b)⟩:=by
 unfold bt;simp only[h1,hby,hz];cases es with
 |nil=>simp only[agy,aex];rw[adl ⟨h4,h5,.inl trivial,hc,by simpa using hb,by simpa using hl⟩];rfl
 |cons e es=>simp only[List.isEmpty_cons];rw[adl ⟨h4,h5,trivial,.inl trivial,hc,hb,hl⟩];rfl
theorem db(h1:bo E.P el=some n)(hby:bY E.P el=some by')(hz:aB E.P el=some z)(h4:n≠0)(h5:z.length=n)
 {es:U} {v:V} (hc:v.cells.all V.cell=true) (hb:(es.length+1)*by'<=140737488355328) (hl:es.length+1<=9223372036854775807) (st:St) (d tok:Nat) (nl:Bool) (t':Option Nat):
 bt E st (some d) el (.sl es.isEmpty n es (some tok)) (.sl nl n [v] t')=some ⟨upd (strip tok (strip d st.t)) d (.sl false n (es++[v]) (some d)),aG E tok (aG E d st.b)⟩:=by
 unfold bt;simp only[h1,hby,hz];cases es with
 |nil=>simp only[agy,aex];rw[adl ⟨h4,h5,.inl trivial,by simp only[aeo,hc,agu,afd],by simpa using hb,A0k⟩];rfl
 |cons e es=>simp only[List.isEmpty_cons];rw[adl ⟨h4,h5,trivial,.inl trivial,by simp only[aeo,hc,agu,afd],hb,hl⟩]
variable{α:Type}
theorem Bd(l:List α)(x:α):(l++[x]).isEmpty=false:=by cases l<;>rfl
attribute [go_sem] vA Bd
attribute [go_sem] JO FY sG JP sF
attribute [go_sem] bX vq aq gw gL Int.le_refl Int.lt_irrefl uk FX Bb wq
attribute [congr] wT wS
theorem XU(x:Int):az .i64 x=wrap64 x:=(iP _ _).trans (IntWalk.i64_left x)
theorem ak{x:Int}(h:inR x):az .i64 x=x:=(XU x).trans (Fm h)
theorem ax{i:Nat}(h:i<9223372036854775807):az .i64 ((i:Int)+1)=((i+1:Nat):Int):=by rw[ak A0j];omega
theorem Be(a:Nat):((a:Int)).toNat=a:=rfl
def fj(b:Int):Bool:=decide (97<=b)&&decide (b<=122)
def Sn(b:Int):Bool:=decide (65<=b)&&decide (b<=90)
def j8(b:Int):Bool:=decide (48<=b)&&decide (b<=57)
def eC:U->Option V
 |[.x (.int .u8 b)]=>some (.bool (fj b))
 |_=>none
def fQ:U->Option V
 |[.x (.int .u8 b)]=>some (.bool (j8 b))
 |_=>none
def B(l:List UInt8):ByteArray:=⟨⟨l⟩⟩
open Classical in
def FE{α ρ:Type}(enc:α->U)(G:α->Option ρ):U->Option ρ:=fun us=>if h:∃a,enc a=us then G (Classical.choose h) else none
variable{ρ:Type}
theorem ca{enc:α->U}(inj:∀a b,enc a=enc b->a=b)(G:α->Option ρ)(a:α):FE enc G (enc a)=G a:=by unfold FE;have h:∃b,enc b=enc a:=⟨a,rfl⟩;rw[dif_pos h,inj _ _ (ad7 h)]
theorem bh{α ρ:Type}{enc:α->U}{G:α->Option ρ}{r:ρ}(h:FE enc G us=some r):∃a,us=enc a∧G a=some r:=by
 unfold FE at h;split at h
 . rename_i hx;exact⟨_,(ad7 hx).symm,h⟩
 . cases h
theorem bK{p:Prop}[Decidable p]{o:Option ρ}{r:ρ}(h:(if p then o else none)=some r):p∧o=some r:=by
 by_cases hp:p
 . rw[adl hp] at h;exact⟨hp,h⟩
 . rw[adq hp] at h;cases h
theorem DG{f:FuncId}{enc:α->U}{G:α->Option V}(μ:α->Nat)(hcall:∀args w,(callFunc f args).run (aI []).P w= .ok (.enter f args) w)
 (h:∀n,cg f (FE enc fun a=>if μ a<n then G a else none)->cg f (FE enc fun a=>if μ a<n+1 then G a else none)):cg f (FE enc G):=by
 have key:∀n,cg f (FE enc fun a=>if μ a<n then G a else none):=by
  intro n
  induction n with
  |zero=>refine⟨hcall,fun m w vs us r hF=>?_⟩;obtain⟨a,_,ha⟩:=bh hF;rw[adq (afe _)] at ha;cases ha
  |succ n ih=>exact h n ih
 refine⟨hcall,fun m w vs us r hF=>?_⟩;have hx:∃a,enc a=us:=by obtain⟨a,ha,_⟩:=bh hF;exact⟨a,ha.symm⟩
 refine(key (μ (Classical.choose hx)+1)).2 m w vs us r ?_;unfold FE at hF⊢;rw[dif_pos hx] at hF⊢;show(if μ (Classical.choose hx)<μ (Classical.choose hx)+1 then G (Classical.choose hx) else none)=some r;rw[adl (Nat.lt_succ_self _)];exact hF
theorem nB(h1:bo E.P el=some n)(hby:bY E.P el=some by')(hz:aB E.P el=some z)(h4:n≠0)(h5:z.length=n)
 {v:V} (hc:v.cells.all V.cell=true) {len:Nat} (hb:(len+1)*by'<=140737488355328) (hl:len+1<=9223372036854775807) (st:St) (d s:Nat) (nl:Bool) (t':Option Nat) (hMB:E.MB d=false:=by rfl):
 bt E st (some d) el (.row s n len) (.sl nl n [v] t')=match st.b s with
  |some cs=>some ⟨upd (kill s (kill d st.t)) d (.row d n (len+1)),upd (upd st.b s none) d (some (cs.take (len*n)++v.cells))⟩
  |none=>none:=by
 unfold bt;simp only[h1,hby,hz];cases st.b s with
 |none=>rfl
 |some cs=>simp only;rw[adl ⟨h4,h5,trivial,.inl trivial,by simp only[aeo,hc,agu,afd],hb,hl,hMB⟩];simp
variable{A G:U}
theorem OH{x:V}{m:Nat}(h:A.length=m):(A++x::G)[m]?=some x:=by subst h;simp
theorem JQ{m:Nat}(h:A.length=m):(A++G).take m=A:=by subst h;simp

/- The run over plain data at this seat: what the calls lean on. -/
import Derived.Test.YtldnpcolhdnkdaaPfTy
import Derived.Test.YtldnpcolhdnkdaaGlob
import Derived.Test.YtldnpcolhdnkdaaArithP
import Derived.KernelRfl
namespace Go.Proofs.Ytldnpcolhdnkdaa
set_option linter.unusedSimpArgs false
open Go Go.RowKit
def vP:List (Nat×(List V->Option V))->Nat->Option (List V->Option V)
 |[],_=>none
 |(k,F)::l,i=>if k=i then some F else vP l i
def ay:List (Nat×(List V->Option (V×List (List V))))->Nat->Option (List V->Option (V×List (List V)))
 |[],_=>none
 |(k,F)::l,i=>if k=i then some F else ay l i
noncomputable def d9 (l:List (Nat×(List V->Option V))) (M:Nat->Bool) (lp:List (Nat×(List V->Option (V×List (List V))))) (MB any:Nat->Bool):Env:=⟨Try.prog,vP l,fun _=> .undef,Glob,M,ay lp,iy,MB,any,fun _ _=>none,0,fun _=>none,fun _=>false,fun _=>false⟩
noncomputable def fy (l:List (Nat×(List V->Option V))) (M:Nat->Bool) (lp:List (Nat×(List V->Option (V×List (List V))))):Env:=d9 l M lp (fun _=>false) (fun _=>false)
noncomputable def fA (l:List (Nat×(List V->Option V))) (M:Nat->Bool):Env:=fy l M []
noncomputable def bf (l:List (Nat×(List V->Option V))):Env:=fA l fun _=>false
section
variable (l:List (Nat×(List V->Option V))) (M:Nat->Bool) (lp:List (Nat×(List V->Option (V×List (List V))))) (MB any:Nat->Bool)
theorem GG:(d9 l M lp MB any).P=Try.prog:=rfl
theorem GH:(d9 l M lp MB any).F=vP l:=rfl
theorem DM:(d9 l M lp MB any).FP=ay lp:=rfl
theorem DN (d:Option Tmp):(d9 l M lp MB any).fzO d=false:=by cases d<;>rfl
theorem DO (d:Option Tmp):(fy l M lp).fzO d=false:=by cases d<;>rfl
theorem DP (d:Option Tmp):(fA l M).fzO d=false:=by cases d<;>rfl
theorem z8 (d:Option Tmp):(bf l).fzO d=false:=by cases d<;>rfl
theorem Aa (d:Option Tmp):(d9 l M lp MB any).litD d=false:=by cases d<;>rfl
theorem Ab (d:Option Tmp):(fy l M lp).litD d=false:=by cases d<;>rfl
theorem Ac (d:Option Tmp):(fA l M).litD d=false:=by cases d<;>rfl
theorem DQ:(d9 l M lp MB any).FM=fun _=>none:=rfl
theorem DR:(fy l M lp).FM=fun _=>none:=rfl
theorem DS:(fA l M).FM=fun _=>none:=rfl
theorem Ad:(bf l).FM=fun _=>none:=rfl
theorem GI:(d9 l M lp MB any).G=fun _=> .undef:=rfl
theorem DT:(d9 l M lp MB any).MB=MB:=rfl
theorem Ae:(d9 l M lp MB any).any=any:=rfl
theorem Af (d:Nat):(d9 l M lp MB any).own (some d)=M d:=rfl
theorem GJ:(fy l M lp).P=Try.prog:=rfl
theorem GK:(fy l M lp).F=vP l:=rfl
theorem DU:(fy l M lp).FP=ay lp:=rfl
theorem GL:(fy l M lp).G=fun _=> .undef:=rfl
theorem DV:(fy l M lp).MB=fun _=>false:=rfl
theorem Ag (i:Nat):(fy l M lp).any i=false:=rfl
theorem Ah (d:Nat):(fy l M lp).own (some d)=M d:=rfl
theorem GM:(fA l M).P=Try.prog:=rfl
theorem GN:(fA l M).F=vP l:=rfl
theorem DW:(fA l M).FP=fun _=>none:=rfl
theorem GO:(fA l M).G=fun _=> .undef:=rfl
theorem DX:(fA l M).MB=fun _=>false:=rfl
theorem Ai (i:Nat):(fA l M).any i=false:=rfl
theorem Aj (d:Nat):(fA l M).own (some d)=M d:=rfl
theorem xi (d:Option Tmp):(bf l).own d=false:=by cases d<;>rfl
theorem DY:(bf l).P=Try.prog:=rfl
theorem DZ:(bf l).F=vP l:=rfl
theorem Ak:(bf l).FP=fun _=>none:=rfl
theorem D3:(bf l).G=fun _=> .undef:=rfl
theorem Al:(bf l).MB=fun _=>false:=rfl
theorem xj (i:Nat):(bf l).any i=false:=rfl
noncomputable def gF (l:List (Nat×(List V->Option V))) (any:Nat->Bool):Env:=d9 l (fun _=>false) [] (fun _=>false) any
theorem qp:(d9 l M lp MB any).plain=gF l any:=rfl
theorem qq:(fy l M lp).plain=bf l:=rfl
theorem tA:(fA l M).plain=bf l:=rfl
theorem qr:(bf l).plain=bf l:=rfl
theorem D4 (d:Option Tmp):(gF l any).fzO d=false:=by cases d<;>rfl
theorem GP:(gF l any).P=Try.prog:=rfl
theorem GQ:(gF l any).F=vP l:=rfl
theorem D5:(gF l any).FP=fun _=>none:=rfl
theorem D6:(gF l any).FM=fun _=>none:=rfl
theorem GR:(gF l any).G=fun _=> .undef:=rfl
theorem D7:(gF l any).MB=fun _=>false:=rfl
theorem Am (d:Option Tmp):(gF l any).own d=false:=by cases d<;>rfl
section
variable (st:St) (b:Nat->Option (List V)) (k s:Nat) (p u:V) (d:Option Nat) (cs:List V)
theorem GS:wipe (fy l M lp) st=st:=rfl
theorem GT:wipe (fA l M) st=st:=rfl
theorem GU:wipe (bf l) st=st:=rfl
theorem An:az (fy l M lp) k b=b:=rfl
theorem Ao:az (fA l M) k b=b:=rfl
theorem Ap:az (bf l) k b=b:=rfl
theorem Aq:az (gF l any) k b=b:=rfl
theorem GV:(fy l M lp).kept s u=u.bare:=rfl
theorem GW:(fA l M).kept s u=u.bare:=rfl
theorem GX:(bf l).kept s u=u.bare:=rfl
theorem GY:(gF l any).kept s u=u.bare:=rfl
theorem JS:(fy l M lp).okS s u=true:=rfl
theorem JT:(fA l M).okS s u=true:=rfl
theorem JU:(bf l).okS s u=true:=rfl
theorem JV:(gF l any).okS s u=true:=rfl
theorem JW:(fy l M lp).okN d cs=true:=by cases d<;>rfl
theorem JX:(fA l M).okN d cs=true:=by cases d<;>rfl
theorem JY:(bf l).okN d cs=true:=by cases d<;>rfl
theorem JZ:(gF l any).okN d cs=true:=by cases d<;>rfl
theorem J0:(d9 l M lp MB any).okN (some s) cs=(!MB s||cs.all V.unm):=rfl
theorem GZ:(d9 l M lp MB any).okN none cs=true:=rfl
theorem J1:(d9 l M lp MB any).okS s u=(!MB s||(u.isSl||u.cells.all V.unm)):=rfl
theorem G0:(d9 l M lp MB any).kept s u=if MB s=true then u else u.bare:=rfl
theorem D8 (o:Nat):(d9 l M lp MB any).keepL (.ptr s o) u=if MB s=true then u else u.bare:=rfl
theorem Ar:(d9 l M lp MB any).keepL (.ip cs) u=u.bare:=rfl
theorem xl:az (d9 l M lp MB any) k b s=if MB s=true then (b s).map (List.map (bT k)) else b s:=rfl
theorem As:vp (d9 l M lp MB any) b s=if MB s=true then (b s).map (List.map V.bare) else b s:=rfl
theorem D9:wipe (d9 l M lp (fun _=>false) any) st=st:=rfl
theorem Ea:(fy l M lp).keepL p u=u.bare:=by cases p<;>rfl
theorem Eb:(fA l M).keepL p u=u.bare:=by cases p<;>rfl
theorem Ec:(bf l).keepL p u=u.bare:=by cases p<;>rfl
theorem Ed:(gF l any).keepL p u=u.bare:=by cases p<;>rfl
end
end
def ij (f:FuncId) (F:List V->Option V):Prop:=Fun (bf []) f F
def tB:List (Nat×(List V->Option V))->Prop
 |[]=>True
 |p::l=>ij p.1 p.2∧tB l
def Gc (f:FuncId) (F:List V->Option (V×List (List V))):Prop:=FunP (bf []) f F
def At:List (Nat×(List V->Option (V×List (List V))))->Prop
 |[]=>True
 |p::l=>Gc p.1 p.2∧At l
theorem vQ (l:List (Nat×(List V->Option V))) (M:Nat->Bool) (lp:List (Nat×(List V->Option (V×List (List V))))) (MB any:Nat->Bool) (h:tB l) (hp:At lp):EnvOK (d9 l M lp MB any):=by
 refine⟨fun f F hF=>?_,fun f F hF=>?_,fun X w w' hX hj hb=>Glob.low hj hb.size ⟨hb.os,hb.tape,hb.output,hb.size,fun k hk=>hb.block k (Qf hk (Glob.high hj)) (fun hm=>absurd (hX k hm) (Q7.2 hk))⟩,fun w hj=>Glob.high hj,(fun f lb=>rfl),fun f F hF=>by cases hF⟩
 . have key:∀l,tB l->vP l f=some F->ij f F:=by
    intro l
    induction l with
    |nil=>intro _ h;cases h
    | cons p l ih=>
      intro h hF;simp only[vP] at hF;split at hF
      . rename_i e;cases hF;exact e▸h.1
      . exact ih h.2 hF
   exact key l h hF
 . have key:∀l,At l->ay l f=some F->Gc f F:=by
    intro l
    induction l with
    |nil=>intro _ h;cases h
    | cons p l ih=>
      intro h hF;simp only[ay] at hF;split at hF
      . rename_i e;cases hF;exact e▸h.1
      . exact ih h.2 hF
   exact key lp hp hF
theorem Ee (l:List (Nat×(List V->Option V))) (M:Nat->Bool) (lp:List (Nat×(List V->Option (V×List (List V))))) (h:tB l) (hp:At lp):EnvOK (fy l M lp):=vQ l M lp _ _ h hp
theorem Ef (l:List (Nat×(List V->Option V))) (M:Nat->Bool) (h:tB l):EnvOK (fA l M):=Ee l M [] h trivial
theorem di (l:List (Nat×(List V->Option V))) (h:tB l):EnvOK (bf l):=Ef l _ h
theorem lR (l:List (Nat×(List V->Option V))) (M:Nat->Bool) (lp:List (Nat×(List V->Option (V×List (List V))))) (MB any:Nat->Bool) (u:V):gg (d9 l M lp MB any) u=none:=by unfold gg;split<;>rfl
theorem G1 (l:List (Nat×(List V->Option V))) (M:Nat->Bool) (lp:List (Nat×(List V->Option (V×List (List V))))) (u:V):gg (fy l M lp) u=none:=lR _ _ _ _ _ u
theorem G2 (l:List (Nat×(List V->Option V))) (M:Nat->Bool) (u:V):gg (fA l M) u=none:=lR _ _ _ _ _ u
theorem G3 (l:List (Nat×(List V->Option V))) (u:V):gg (bf l) u=none:=lR _ _ _ _ _ u
theorem G4 (l:List (Nat×(List V->Option V))) (any:Nat->Bool) (u:V):gg (gF l any) u=none:=lR _ _ _ _ _ u
noncomputable def cB (G:Nat->V) (X:FuncId->List Value->Option (List V->Option (V×List (List V)))) (xk:Nat):Env:=⟨Try.prog,fun _=>none,G,Glob,fun _=>false,fun _=>none,iy,fun _=>false,fun _=>false,X,xk,fun _=>none,fun _=>false,fun _=>false⟩
section
variable (G:Nat->V) (X:FuncId->List Value->Option (List V->Option (V×List (List V)))) (xk:Nat) (f:FuncId) (u:V) (d:Option Nat) (cs:List V) (st:St) (b:Nat->Option (List V)) (k s:Nat) (p:V)
theorem Eg (d:Option Tmp):(cB G X xk).fzO d=false:=by cases d<;>rfl
theorem G5:(cB G X xk).P=Try.prog:=rfl
theorem G6:(cB G X xk).F=fun _=>none:=rfl
theorem Eh:(cB G X xk).FP=fun _=>none:=rfl
theorem Ei:(cB G X xk).FM=fun _=>none:=rfl
theorem G7:(cB G X xk).G=G:=rfl
theorem Ej:(cB G X xk).MB=fun _=>false:=rfl
theorem Au (i:Nat):(cB G X xk).any i=false:=rfl
theorem Av:(cB G X xk).own d=false:=by cases d<;>rfl
theorem G8:(cB G X xk).X=X:=rfl
theorem Ek:(cB G X xk).xk=xk:=rfl
theorem El (lb:Array Value):gg (cB G X xk) (.x (.func (.func f) #[] lb))=X f lb.toList:=rfl
theorem Aw:gg (cB G X xk) (.x (.func (.func f) #[] #[]))=X f []:=rfl
theorem G9:wipe (cB G X xk) st=st:=rfl
theorem Ay:az (cB G X xk) k b=b:=rfl
theorem Ha:(cB G X xk).kept s u=u.bare:=rfl
theorem J2:(cB G X xk).okS s u=true:=rfl
theorem J3:(cB G X xk).okN d cs=true:=by cases d<;>rfl
theorem Em:(cB G X xk).keepL p u=u.bare:=by cases p<;>rfl
end
theorem kY (G:Nat->V) (X:FuncId->List Value->Option (List V->Option (V×List (List V)))) (xk:Nat) (h1:1000<=xk) (pm:Pm) (bk:Nat) (hb:pm.b (cB G X xk).xk=bk) (h:∀f lb F,(cB G X xk).X f lb=some F->FunX (cB G X xk) bk f lb F):EnvX (cB G X xk) pm:=
 ⟨(fun f F e=>by cases e),(fun f F e=>by cases e),fun X w w' hX hj hb=>Glob.low hj hb.size ⟨hb.os,hb.tape,hb.output,hb.size,fun k hk=>hb.block k (Qf hk (Glob.high hj)) (fun hm=>absurd (hX k hm) (Q7.2 hk))⟩,(fun w hj=>Glob.high hj),(fun f lb F e=>⟨h1,by rw[hb];exact h f lb F e⟩),.inl (fun _=>rfl),fun f F hF=>by cases hF⟩
def Gd (f:FuncId) (F:List V->Option (List V×List V)):Prop:=FunM (bf []) f F
def Hc:List (Nat×(List V->Option (List V×List V)))->Prop
 |[]=>True
 |p::l=>Gd p.1 p.2∧Hc l
def Ge:List (Nat×(List V->Option (List V×List V)))->Nat->Option (List V->Option (List V×List V))
 |[],_=>none
 |(k,F)::l,i=>if k=i then some F else Ge l i
noncomputable def bU (l:List (Nat×(List V->Option V))) (lp:List (Nat×(List V->Option (V×List (List V))))) (lm:List (Nat×(List V->Option (List V×List V)))) (lit any:Nat->Bool):Env:=⟨Try.prog,vP l,fun _=> .undef,Glob,lit,ay lp,iy,fun _=>false,any,fun _ _=>none,0,Ge lm,lit,fun _=>false⟩
section
variable (l:List (Nat×(List V->Option V))) (lp:List (Nat×(List V->Option (V×List (List V))))) (lm:List (Nat×(List V->Option (List V×List V)))) (lit any:Nat->Bool) (u:V) (d:Option Nat) (cs:List V) (st:St) (b:Nat->Option (List V)) (k s:Nat) (p:V)
theorem En (d:Option Tmp):(bU l lp lm lit any).fzO d=false:=by cases d<;>rfl
theorem He:(bU l lp lm lit any).P=Try.prog:=rfl
theorem Hf:(bU l lp lm lit any).F=vP l:=rfl
theorem Eo:(bU l lp lm lit any).FP=ay lp:=rfl
theorem Ep:(bU l lp lm lit any).FM=Ge lm:=rfl
theorem Hg:(bU l lp lm lit any).G=fun _=> .undef:=rfl
theorem Er:(bU l lp lm lit any).MB=fun _=>false:=rfl
theorem Az:(bU l lp lm lit any).any=any:=rfl
theorem AA (d:Nat):(bU l lp lm lit any).own (some d)=lit d:=rfl
theorem xm:(bU l lp lm lit any).own none=false:=rfl
theorem AB (d:Nat):(bU l lp lm lit any).litD (some d)=lit d:=rfl
theorem qs:(bU l lp lm lit any).plain=gF l any:=rfl
theorem Hh:gg (bU l lp lm lit any) u=none:=by unfold gg;split<;>rfl
theorem Hj:wipe (bU l lp lm lit any) st=st:=rfl
theorem AC:az (bU l lp lm lit any) k b=b:=rfl
theorem Hl:(bU l lp lm lit any).kept s u=u.bare:=rfl
theorem J4:(bU l lp lm lit any).okS s u=true:=rfl
theorem J5:(bU l lp lm lit any).okN d cs=true:=by cases d<;>rfl
theorem Es:(bU l lp lm lit any).keepL p u=u.bare:=by cases p<;>rfl
end
theorem aP (l:List (Nat×(List V->Option V))) (lp:List (Nat×(List V->Option (V×List (List V))))) (lm:List (Nat×(List V->Option (List V×List V)))) (lit any:Nat->Bool) (h:tB l) (hp:At lp) (hq:Hc lm):EnvOK (bU l lp lm lit any):=by
 have h0:=vQ l (fun _=>false) lp (fun _=>false) any h hp;refine⟨h0.fn,h0.fnP,h0.keep,h0.high,h0.noX,fun f F hF=>?_⟩;have key:∀l,Hc l->Ge l f=some F->Gd f F:=by
  intro l
  induction l with
  |nil=>intro _ h;cases h
  | cons p l ih=>
    intro h hF;simp only[Ge] at hF;split at hF
    . rename_i e;cases hF;exact e▸h.1
    . exact ih h.2 hF
 exact key lm hq hF
noncomputable def fB (l:List (Nat×(List V->Option V))) (lp:List (Nat×(List V->Option (V×List (List V))))) (lm:List (Nat×(List V->Option (List V×List V)))) (M lit fz any:Nat->Bool):Env:=⟨Try.prog,vP l,fun _=> .undef,Glob,M,ay lp,iy,fun _=>false,any,fun _ _=>none,0,Ge lm,lit,fz⟩
section
variable (l:List (Nat×(List V->Option V))) (lp:List (Nat×(List V->Option (V×List (List V))))) (lm:List (Nat×(List V->Option (List V×List V)))) (M lit fz any:Nat->Bool) (u:V) (d:Option Nat) (cs:List V) (st:St) (b:Nat->Option (List V)) (k s:Nat) (p:V)
theorem Hm:(fB l lp lm M lit fz any).P=Try.prog:=rfl
theorem Hn:(fB l lp lm M lit fz any).F=vP l:=rfl
theorem Et:(fB l lp lm M lit fz any).FP=ay lp:=rfl
theorem Eu:(fB l lp lm M lit fz any).FM=Ge lm:=rfl
theorem Ho:(fB l lp lm M lit fz any).G=fun _=> .undef:=rfl
theorem Ev:(fB l lp lm M lit fz any).MB=fun _=>false:=rfl
theorem AD:(fB l lp lm M lit fz any).any=any:=rfl
theorem AE (d:Nat):(fB l lp lm M lit fz any).own (some d)=M d:=rfl
theorem xn:(fB l lp lm M lit fz any).own none=false:=rfl
theorem AF (d:Nat):(fB l lp lm M lit fz any).litD (some d)=lit d:=rfl
theorem Ew (d:Nat):(fB l lp lm M lit fz any).fzO (some d)=fz d:=rfl
theorem AG:(fB l lp lm M lit fz any).fzO none=false:=rfl
theorem qt:(fB l lp lm M lit fz any).plain=gF l any:=rfl
theorem Hp:gg (fB l lp lm M lit fz any) u=none:=by unfold gg;split<;>rfl
theorem Hq:wipe (fB l lp lm M lit fz any) st=st:=rfl
theorem AH:az (fB l lp lm M lit fz any) k b=b:=rfl
theorem Hr:(fB l lp lm M lit fz any).kept s u=u.bare:=rfl
theorem J6:(fB l lp lm M lit fz any).okS s u=true:=rfl
theorem J7:(fB l lp lm M lit fz any).okN d cs=true:=by cases d<;>rfl
theorem Ex:(fB l lp lm M lit fz any).keepL p u=u.bare:=by cases p<;>rfl
end
abbrev vl (k n:Int) (s:ByteArray):V:= .agg [.x (.int .i64 k),.x (.int .i64 n),.x (.string s)]
variable {s:Nat} {t:Nat->V}
theorem bD {i:Nat} {v:V} (hv:v.nm≠some s) (h:noPtrTo s t):noPtrTo s (aw t i v)=True:=by
 refine eq_true (fun j=>?_);rw[aD];split
 . exact hv
 . exact h j
theorem Oq (b:Bool):(b==true)=b:=by cases b<;>rfl
theorem Ot (b:Bool):(b==false)= !b:=by cases b<;>rfl
theorem J8 (b:Bool):(true==b)=b:=by cases b<;>rfl
theorem J9 (b:Bool):(false==b)= !b:=by cases b<;>rfl
section
variable {s i:Nat} {t:Nat->V}
theorem Ou {v:Value} (h:noPtrTo s t):noPtrTo s (aw t i (.x v)):=by rw[bD (by simp) h];trivial
variable {v:List V}
theorem Hs (h:noPtrTo s t):noPtrTo s (aw t i (.agg v)):=by rw[bD (by simp) h];trivial
theorem Ht (h:noPtrTo s t):noPtrTo s (aw t i (.tup v)):=by rw[bD (by simp) h];trivial
variable {z:Nat}
theorem Ka {a:Bool} {c:Option Nat} (h:noPtrTo s t):noPtrTo s (aw t i (.sl a z v c)):=by rw[bD (by simp) h];trivial
theorem Kb (h:noPtrTo s t):noPtrTo s (aw t i (.ip v)):=by rw[bD (by simp) h];trivial
theorem AI (h:noPtrTo s t):noPtrTo s (aw t i .undef):=by rw[bD (by simp) h];trivial
variable {s':Nat}
theorem Hu {off:Nat} (h:noPtrTo s t) (hne: ¬s=s'):noPtrTo s (aw t i (.ptr s' off)):=by rw[bD (by simp[QT hne]) h];trivial
theorem Hv {l:Nat} (h:noPtrTo s t) (hne: ¬s=s'):noPtrTo s (aw t i (.row s' z l)):=by rw[bD (by simp[QT hne]) h];trivial
end
variable {k:Nat}
theorem AJ (h:noPtrTo s t):noPtrTo s (strip k t):=by intro i;rw[ji];exact h i
theorem Ey (h:noPtrTo s t):noPtrTo s (kill k t):=fun i=>oK _ _ _ _ (h i)
theorem AK (k:Nat) (t:Nat->V) (i:Nat):strip k t i=bT k (t i):=by unfold strip;exact Eq.refl _
theorem AL (k:Nat) (v:Value):bT k (.x v)= .x v:=aR _ _
theorem tC (k:Nat) (v:List V):bT k (.agg v)= .agg v:=aR _ _
theorem tD (k:Nat) (v:List V):bT k (.tup v)= .tup v:=aR _ _
theorem xp (k:Nat) (v:List V):bT k (.ip v)= .ip v:=aR _ _
theorem tE (k s o:Nat):bT k (.ptr s o)= .ptr s o:=aR _ _
theorem tF (k s z l:Nat):bT k (.row s z l)= .row s z l:=aR _ _
theorem Ez (k:Nat) (t:Nat->V) (i:Nat):kill k t i=dT k (t i):=by unfold kill;exact Eq.refl _
theorem EA (k:Nat) (v:Value):dT k (.x v)= .x v:=cL _ _
theorem xq (k:Nat) (v:List V):dT k (.agg v)= .agg v:=cL _ _
theorem xr (k:Nat) (v:List V):dT k (.tup v)= .tup v:=cL _ _
theorem AM (k:Nat) (v:List V):dT k (.ip v)= .ip v:=cL _ _
theorem AN (k:Nat) (nl:Bool) (sz:Nat) (es:List V) (t:Option Nat):dT k (.sl nl sz es t)= .sl nl sz es t:=cL _ _
theorem xt (k:Nat) (t:TypeId):dT k (.dyn t)= .dyn t:=cL _ _
theorem qu (k:Nat):dT k .undef= .undef:=cL _ _
theorem xu (k s o:Nat):dT k (.ptr s o)=if s=k then .undef else .ptr s o:=cL _ _
theorem xw (k s z l:Nat):dT k (.row s z l)=if s=k then .undef else .row s z l:=cL _ _
theorem AO (k:Nat) (ks vs:List V):dT k (.fm ks vs)= .fm ks vs:=cL _ _
theorem xx (k:Nat) (ks vs:List V):bT k (.fm ks vs)= .fm ks vs:=aR _ _
variable {vs:List V}
theorem Kc {i:Nat} {ks:List V} (h:noPtrTo s t):noPtrTo s (aw t i (.fm ks vs)):=by rw[bD (by simp) h];trivial
attribute [go_sem] AO xx Kc kW zn Iz
theorem tG (k:Nat) (t:TypeId):bT k (.dyn t)= .dyn t:=aR _ _
theorem Hw {i:Nat} {d:TypeId} (h:noPtrTo s t):noPtrTo s (aw t i (.dyn d)):=by rw[bD (by simp) h];trivial
theorem oP (k:Nat):bT k .undef= .undef:=aR _ _
theorem qw (k:Nat) (nl:Bool) (sz:Nat) (es:List V):bT k (.sl nl sz es none)= .sl nl sz es none:=aR _ _
theorem qx (k s:Nat) (nl:Bool) (sz:Nat) (es:List V):bT k (.sl nl sz es (some s))= .sl nl sz es (if s=k then none else some s):=aR _ _
theorem qy:noPtrTo s (fun _=> .undef)=True:=eq_true (fun _ h=>by cases h)
theorem EB:start []=⟨fun _=> .undef,fun _=>none⟩:=rfl
theorem EC (u0:V):start [u0]=⟨aw (fun _=> .undef) 0 u0,fun _=>none⟩:=rfl
theorem ED (u0 u1:V):start [u0,u1]=⟨aw (aw (fun _=> .undef) 1 u1) 0 u0,fun _=>none⟩:=rfl
theorem EE (u0 u1 u2:V):start [u0,u1,u2]=⟨aw (aw (aw (fun _=> .undef) 2 u2) 1 u1) 0 u0,fun _=>none⟩:=rfl
theorem EF (u0 u1 u2 u3:V):start [u0,u1,u2,u3]=⟨aw (aw (aw (aw (fun _=> .undef) 3 u3) 2 u2) 1 u1) 0 u0,fun _=>none⟩:=rfl
theorem EG (u0 u1 u2 u3 u4:V):start [u0,u1,u2,u3,u4]=⟨aw (aw (aw (aw (aw (fun _=> .undef) 4 u4) 3 u3) 2 u2) 1 u1) 0 u0,fun _=>none⟩:=rfl
theorem EH (u0 u1 u2 u3 u4 u5:V):start [u0,u1,u2,u3,u4,u5]=⟨aw (aw (aw (aw (aw (aw (fun _=> .undef) 5 u5) 4 u4) 3 u3) 2 u2) 1 u1) 0 u0,fun _=>none⟩:=rfl
attribute [go_sem] zR tp zS DK zT wY qh wZ zU DL qi zV xb mW tt gE tw qk wN sY pR sZ s6 pU oE bM dc dU aH ev dy EB EC ED EE EF EG EH St.put aD sB sw sA zt IE px eL jc lu cM np V.notPtr V.dat V.cell V.cells ja jL gC isA IN fv oN fS Ou Hs Ht Ka Kb AI Hu qy vP DY DZ D3 cy
attribute [go_sem] wD i6 tG Hw Do bo gj gm kU li iB i7 sr ou su Dr nq wy zl wz wA pq zp zu vC vE AK AL tC tD xp tE oP qw qx AJ bytesOf
attribute [go_sem] ite_true ite_false true_implies and_true true_and and_self reduceCtorEq false_implies if_true if_false List.getElem?_toArray List.getElem?_cons_succ List.getElem?_cons_zero Option.bind_some Option.map_some List.map_cons List.map_nil List.all_cons List.all_nil Bool.and_self Bool.true_and Bool.and_true Bool.false_eq_true List.length_cons List.length_nil List.take_succ_cons List.take_zero List.drop_succ_cons List.drop_zero List.cons_append List.nil_append List.mapM_cons List.mapM_nil Option.pure_def Option.bind_eq_bind Option.isNone_none ne_eq not_true_eq_false not_false_eq_true or_self or_false false_or gt_iff_lt ge_iff_le Nat.lt_irrefl Nat.not_lt_zero Nat.le_refl beq_self_eq_true Bool.not_true Bool.not_false Bool.true_eq_false cond_true cond_false List.toList_toArray Nat.zero_le decide_true decide_false imp_self implies_true forall_const List.take_nil List.drop_nil and_false false_and Nat.zero_add Nat.add_zero Bool.true_or Bool.or_true Bool.false_or Bool.or_false Bool.and_false Bool.false_and true_or or_true BEq.rfl
attribute [go_sem 500] fq.eq_1
theorem xy (k:List Nat) (t:Nat->V) (i:Nat):fg k t i=bC k (t i):=by unfold fg;exact Eq.refl _
theorem AP (k:List Nat) (v:Value):bC k (.x v)= .x v:=bW _ _
theorem tH (k:List Nat) (v:List V):bC k (.agg v)= .agg v:=bW _ _
theorem tI (k:List Nat) (v:List V):bC k (.tup v)= .tup v:=bW _ _
theorem xz (k:List Nat) (v:List V):bC k (.ip v)= .ip v:=bW _ _
theorem xA (k:List Nat) (nl:Bool) (sz:Nat) (es:List V) (t:Option Nat):bC k (.sl nl sz es t)= .sl nl sz es t:=bW _ _
theorem xB (k:List Nat) (ks vs:List V):bC k (.fm ks vs)= .fm ks vs:=bW _ _
attribute [go_sem] xB
theorem tJ (k:List Nat) (t:TypeId):bC k (.dyn t)= .dyn t:=bW _ _
theorem oQ (k:List Nat):bC k .undef= .undef:=bW _ _
theorem tK (k:List Nat) (s o:Nat):bC k (.ptr s o)= .ptr s o:=bW _ _
theorem tL (k:List Nat) (s z l:Nat):bC k (.row s z l)=if k.contains s=true then .undef else .row s z l:=bW _ _
theorem xC {k:List Nat} (h:noPtrTo s t):noPtrTo s (fg k t):=fun i=>by
 rcases eF k (t i) with⟨e,_⟩|e
 . show(bC k (t i)).nm≠_;rw[e];exact h i
 . show(bC k (t i)).nm≠_;rw[e];simp
theorem xD (us:List V):cA us=⟨fa 0 us,cS 0 us⟩:=rfl
attribute [go_sem] GJ GK DU GL Ah qq DW Ak ay callP zw IH a8 pF xy AP tH tI xz xA tJ oQ tK tL xC xD fa cS jj ql dw kJ dx nx
variable {s':Nat}
theorem Kd {i:Nat} {ks:List V} (h:noPtrTo s t) (hne: ¬s=s'):noPtrTo s (aw t i (.mp s' ks vs)):=by rw[bD (by simp[QT hne]) h];trivial
theorem xE (k s:Nat) (ks vs:List V):bT k (.mp s ks vs)= .mp s ks vs:=aR _ _
theorem qz (k s:Nat) (ks vs:List V):dT k (.mp s ks vs)=if s=k then .undef else .mp s ks vs:=cL _ _
theorem xF (k:List Nat) (s:Nat) (ks vs:List V):bC k (.mp s ks vs)= .mp s ks vs:=bW _ _
theorem EI (s:Nat) (ks vs:List V) (t:Nat->V) (i:Nat):mS s ks vs t i=cR s ks vs (t i):=by unfold mS;exact Eq.refl _
section
variable (s:Nat) (ks vs:List V)
theorem EJ (v:Value):cR s ks vs (.x v)= .x v:=cg _ _ _ _
theorem xG (v:List V):cR s ks vs (.agg v)= .agg v:=cg _ _ _ _
theorem xH (v:List V):cR s ks vs (.tup v)= .tup v:=cg _ _ _ _
theorem AQ (v:List V):cR s ks vs (.ip v)= .ip v:=cg _ _ _ _
theorem AS (nl:Bool) (sz:Nat) (es:List V) (t:Option Nat):cR s ks vs (.sl nl sz es t)= .sl nl sz es t:=cg _ _ _ _
theorem AT (ks' vs':List V):cR s ks vs (.fm ks' vs')= .fm ks' vs':=cg _ _ _ _
attribute [go_sem] AT
theorem xI (t:TypeId):cR s ks vs (.dyn t)= .dyn t:=cg _ _ _ _
theorem qA:cR s ks vs .undef= .undef:=cg _ _ _ _
theorem xJ (k o:Nat):cR s ks vs (.ptr k o)= .ptr k o:=cg _ _ _ _
theorem xK (k z l:Nat):cR s ks vs (.row k z l)= .row k z l:=cg _ _ _ _
theorem AU (s':Nat) (ks' vs':List V):cR s ks vs (.mp s' ks' vs')=if s'=s then .mp s ks vs else .mp s' ks' vs':=cg _ _ _ _
end
theorem EK {ks:List V} (h:noPtrTo s t):noPtrTo s (mS k ks vs t):=fun i=>by
 show(cR k ks vs (t i)).nm≠_;rcases dW k ks vs (t i) with e|⟨⟨ks',vs',e1⟩,e⟩
 . rw[e];exact h i
 . rw[e];have:=h i;rw[e1] at this;exact this
attribute [go_sem] kV zm Kd EK xE qz xF EI EJ xG xH AQ AS xI qA xJ xK AU
def Ke:Option (List V)->V
 |some cs=> .bx cs
 |none=> .undef
section
variable (b:Nat->Option (List V)) (st:St) (E:Env)
theorem AV (s:Nat):eM b (.ptr s 0)=Ke (b s):=by show(match b s with|some cs=>V.bx cs|none=> .undef)=_;cases b s<;>rfl
theorem HA (v:Value):eM b (.x v)= .x v:=bo v
theorem qB (v:List V):eM b (.agg v)= .agg v:=gj v
theorem EL (v:List V):eM b (.ip v)= .ip v:=kU v
theorem EM (ks vs:List V):eM b (.fm ks vs)= .fm ks vs:=kW ks vs
attribute [go_sem] EM
theorem AW (t:TypeId):eM b (.dyn t)= .dyn t:=i6 t
theorem tM:eM b .undef= .undef:=iB
theorem EN (s:Nat) (ks vs:List V):eM b (.mp s ks vs)= .mp 0 ks vs:=rfl
theorem EO (s:Nat) (ks vs:List V):(V.mp s ks vs).datP=true:=rfl
theorem EP (nl:Bool) (sz:Nat) (es:List V) (t:Option Nat):eM b (.sl nl sz es t)=sK nl sz es t:=rfl
def oR (sz:Nat) (es:List V):V:=sK es.isEmpty sz es (some 0)
theorem AX (sz:Nat) (es:List V) (k:Nat):sK es.isEmpty sz es (some k)=oR sz es:=by unfold oR;cases es<;>rfl
theorem AY (sz:Nat) (es:List V) (t:Option Nat):sK true sz es t=oR 1 []:=rfl
theorem xL (sz:Nat) (es:List V):sK false sz es none= .sl false sz es none:=rfl
theorem xM (sz:Nat) (es:List V) (x:V) (k:Nat):sK false sz (es++[x]) (some k)=oR sz (es++[x]):=by unfold oR;cases es<;>rfl
theorem EQ (cs:List V):(V.bx cs).datP=true:=rfl
theorem HB (v:Value):(V.x v).datP=(V.x v).dat:=rfl
theorem AZ (v:List V):(V.agg v).datP=true:=rfl
theorem A0 (v:List V):(V.tup v).datP=false:=rfl
theorem ER (v:List V):(V.ip v).datP=true:=rfl
theorem ES (ks vs:List V):(V.fm ks vs).datP=true:=rfl
attribute [go_sem] ES
theorem A1 (t:TypeId):(V.dyn t).datP=true:=rfl
theorem tN:V.undef.datP=false:=rfl
theorem ET (nl:Bool) (sz:Nat) (es:List V):(V.sl nl sz es none).datP=true:=rfl
theorem A2 (nl:Bool) (sz k:Nat) (es:List V):(V.sl nl sz es (some k)).datP=true:=rfl
theorem A3 (sz:Nat) (es:List V):(oR sz es).datP=true:=by cases es<;>rfl
theorem tO (k sz:Nat) (es us:List V):dw k (oR sz es::us) b=dw (k+1) us b:=eJ (by cases es<;>rfl)
theorem tP (k sz:Nat) (es us:List V) (t:Nat->V):dx k (oR sz es::us) t=dx (k+1) us t:=eI (by cases es<;>rfl)
theorem xN (nl:Bool) (sz:Nat) (es:List V) (t:Option Nat) (l:List V):a8 (.sl nl sz es t::l)=a8 l:=rfl
theorem A4 (d k sz:Nat) (nl:Bool) (es:List V):ig E st (some d) (.sl nl sz es (some k))=⟨aw (strip d st.t) d (.sl nl sz es (some d)),az E d st.b⟩:=rfl
theorem EU (r:V):ig E st none r=st:=by unfold ig;rfl
theorem HC (d:Nat) (v:Value):ig E st (some d) (.x v)=st.put (some d) (.x v):=by show st.put (some d) (V.x v).bare=_;rw[bo]
theorem qC (d:Nat) (v:List V):ig E st (some d) (.agg v)=st.put (some d) (.agg v):=by show st.put (some d) (V.agg v).bare=_;rw[gj]
theorem A5 (d:Nat) (v:List V):ig E st (some d) (.tup v)=st.put (some d) (.tup v):=by show st.put (some d) (V.tup v).bare=_;rw[gm]
theorem EV (d:Nat) (ks vs:List V):ig E st (some d) (.fm ks vs)=st.put (some d) (.fm ks vs):=by show st.put (some d) (V.fm ks vs).bare=_;rw[kW]
attribute [go_sem] EV
theorem A6 (d:Nat) (t:TypeId):ig E st (some d) (.dyn t)=st.put (some d) (.dyn t):=by show st.put (some d) (V.dyn t).bare=_;rw[i6]
theorem EW (d:Nat) (v:List V):ig E st (some d) (.ip v)=st.put (some d) (.ip v):=by show st.put (some d) (V.ip v).bare=_;rw[kU]
theorem A7 (d sz:Nat) (nl:Bool) (es:List V):ig E st (some d) (.sl nl sz es none)=st.put (some d) (.sl nl sz es none):=by show st.put (some d) (V.sl nl sz es none).bare=_;rw[i7]
theorem A8 (nl:Bool) (sz k:Nat) (es:List V):GC (.sl nl sz es (some k))=some (.sl nl sz es (some 0)):=rfl
theorem qD (k sz:Nat) (es us:List V):cS k (oR sz es::us)=cS (k+1) us:=iI (by cases es<;>rfl)
end
attribute [go_sem] iH qD tO tP EN EO cN Ke AV HA qB EL AW tM EP AX AY xL xM EQ HB AZ A0 ER A1 tN ET A2 A3 xN aY stripL dp A4 EU HC qC A5 A6 EW A7 A8 qn IP
attribute [go_sem] lR G1 G2 G3 G4 El Aw G5 G6 Eh G7 Ej Au Av G8 Ek G9 Ay Ha J2 J3 Em
attribute [go_sem] wW gB oJ IK DG DH
attribute [go_sem] GM GN GO Aj tA qr xi Dw Hv Ey Ez EA xq xr AM AN xt qu xu xw tF lj ns List.flatMap_cons List.flatMap_nil List.append_nil
attribute [go_sem] tq qf GG GH DM GI DT Ae Af DV Ag DX Ai Al xj qp GP GQ D5 GR D7 Am
attribute [go_sem] GS GT GU An Ao Ap Aq GV GW GX GY JS JT JU JV JW JX JY JZ Ea Eb Ec Ed wS tg jR wT ov J0 GZ J1 G0 D8 Ar xl As D9 V.unm V.isSl KK Gt Ix Iy Gu zk
attribute [congr] qg th qc tu oL qj xc pS oD pT
theorem EX:Int.toNat 0=0:=rfl
theorem EY:Int.toNat 1=1:=rfl
theorem EZ:Int.toNat 2=2:=rfl
theorem E0:Int.toNat 3=3:=rfl
theorem E1:Int.toNat 4=4:=rfl
attribute [go_sem] EX EY EZ E0 E1
theorem A9:vH none=true:=rfl
theorem xO (k:IntKind) (n:Int):vH (some (.x (.int k n)))=true:=rfl
attribute [go_sem] ee DN DO DP z8 D4 Eg En Ew AG Hm Hn Et Eu Ho Ev AD AE xn AF qt Hp Hq AH Hr J6 J7 Ex Dy kX vD qz kV
attribute [go_sem] IQ zW A9 xO Option.map_none zx Ge DQ DR DS Ad D6 Ei He Hf Eo Ep Hg Er Az AA xm AB Aa Ab Ac Dx qs Hh Hj AC Hl J4 J5 Es
abbrev T3:=Int×Int×ByteArray
abbrev tv (r:T3):V:=vl r.1 r.2.1 r.2.2
attribute [go_sem] vl tv Oq Ot J8 J9 Bool.not_eq_true' Bool.not_eq_false' Bool.not_not
def Kf:List (Nat×V)->Nat->V
 |[]=>fun _=> .undef
 |(i,v)::l=>aw (Kf l) i v
def Kg:List (Nat×List V)->Nat->Option (List V)
 |[]=>fun _=>none
 |(i,cs)::l=>aw (Kg l) i (some cs)
def fC (ts:List (Nat×V)) (bs:List (Nat×List V)):St:=⟨Kf ts,Kg bs⟩
def jk (st:St):List (Nat×V)->Prop
 |[]=>True
 |(i,v)::l=>st.t i=v∧jk st l
def jl (st:St):List (Nat×List V)->Prop
 |[]=>True
 |(i,v)::l=>st.b i=some v∧jl st l
variable {st:St}
theorem ez {ts:List (Nat×V)} {bs:List (Nat×List V)} (h:jk st ts) (k:jl st bs):Le (fC ts bs) st:=by
 refine⟨fun i=>?_,fun s cs hs=>?_⟩
 . show(Kf ts i).le (st.t i)
   induction ts with
   |nil=>exact .inl rfl
   | cons p l ih=>
     simp only[Kf,aD];split
     . rename_i e;subst e;exact .inr (.inl h.1.symm)
     . exact ih h.2
 . have hs:Kg bs s=some cs:=hs
   induction bs with
   |nil=>cases hs
   | cons p l ih=>
     simp only[Kg,aD] at hs;split at hs
     . rename_i e;cases hs;subst e;exact⟨_,k.1,gD _⟩
     . exact ih k.2 hs hs
def nK {X:Type} (T:X->List (Nat×V)) (B:X->List (Nat×List V)) (μ:X->Nat) (n:Nat) (st:St):Prop:=∃x',jk st (T x')∧jl st (B x')∧μ x'<n
def lS {X:Type} (T:X->List (Nat×V)) (B:X->List (Nat×List V)) (μ:X->Nat) (n:Nat) (K:Out->St->Prop):Out->St->Prop
 | .normal,st=>nK T B μ n st
 | .ret,st=>K .ret st
 | .exit id,st=>K (.exit id) st
section
variable {X:Type} (T:X->List (Nat×V)) (B:X->List (Nat×List V)) (μ:X->Nat) (n:Nat) (K:Out->St->Prop) (st:St)
theorem oS:lS T B μ n K .normal st=nK T B μ n st:=rfl
theorem xP:lS T B μ n K .ret st=K .ret st:=rfl
theorem tQ (id:Nat):lS T B μ n K (.exit id) st=K (.exit id) st:=rfl
theorem qE {st':St} (h:st=st'):nK T B μ n st=nK T B μ n st':=by rw[h]
theorem qF {o o':Out} (h:o=o'):lS T B μ n K o st=lS T B μ n K o' st:=by rw[h]
end
variable {E:Env} {a:Code} {X:Type}
theorem cw {K:Out->St->Prop} (T:X->List (Nat×V)) (B:X->List (Nat×List V)) (μ:X->Nat) (x0:X) (h0:jk st (T x0)) (h0':jl st (B x0))
 (h:∀x,run E a (fC (T x) (B x)) (lS T B μ (μ x) K)):qe (run E a) st K:=by
 refine⟨X,fun x=>fC (T x) (B x),μ,x0,ez h0 h0',fun x=>?_⟩;have:=h x
 have e:∀o st',lS T B μ (μ x) K o st'->(match o with
  | .normal=>∃x',Le (fC (T x') (B x')) st'∧μ x'<μ x
  |o=>K o st'):=by
  intro o st' hk;cases o with
  |normal=>obtain⟨x',h1,h2,h3⟩:=hk;exact⟨x',ez h1 h2,h3⟩
  |ret=>exact hk
  |exit id=>exact hk
 exact lM e this
def mX:List (Nat×Nat×Nat×V)->Nat->List (Nat×V)
 |[],_=>[]
 |(need,forb,s,v)::r,L=>if L&&&need=need∧L&&&forb=0 then (s,v)::mX r L else mX r L
theorem Ba (L:Nat):mX [] L=[]:=rfl
theorem xQ (need forb s L:Nat) (v:V) (r:List (Nat×Nat×Nat×V)):mX ((need,forb,s,v)::r) L=if L&&&need=need∧L&&&forb=0 then (s,v)::mX r L else mX r L:=rfl
def HD (E:Env) (ops:List Oper) (ts:List (Nat×V)) (bs:List (Nat×List V)) (st:St):Option Oper->Prop
 |some o=>cj E ⟨ops⟩ [o] st fun st'=>jk st' ts∧jl st' bs
 |none=>False
def E2 (E:Env) (ops:List Oper) (ents:List (Nat×Nat×Nat×V)) (bs:List (Nat×List V)):List (Nat×Nat×Nat)->Prop
 |[]=>True
 |(L,i,L')::r=>HD E ops (mX ents L') bs (fC (mX ents L) bs) ops[i]?∧E2 E ops ents bs r
theorem Bb (E:Env) (ops:List Oper) (ents:List (Nat×Nat×Nat×V)) (bs:List (Nat×List V)):E2 E ops ents bs []=True:=rfl
theorem xR (E:Env) (ops:List Oper) (ents:List (Nat×Nat×Nat×V)) (bs:List (Nat×List V)) (L i L':Nat) (r:List (Nat×Nat×Nat)):E2 E ops ents bs ((L,i,L')::r)=(HD E ops (mX ents L') bs (fC (mX ents L) bs) ops[i]?∧E2 E ops ents bs r):=rfl
theorem xS (E:Env) (ops:List Oper) (ts:List (Nat×V)) (bs:List (Nat×List V)) (st:St) (o:Oper):HD E ops ts bs st (some o)=cj E ⟨ops⟩ [o] st fun st'=>jk st' ts∧jl st' bs:=rfl
theorem Bc {K:Out->St->Prop} (i n tok:Nat) {n0:Nat} {k0:Option Nat} (h:st.t i= .sl true n0 [] k0)
 (hr:qe (run E a) ⟨aw st.t i (.sl true n [] (some tok)),st.b⟩ K):qe (run E a) st K:=by
 obtain⟨X,I,μ,x0,h0,hx⟩:=hr;refine⟨X,I,μ,x0,⟨fun j=>?_,h0.b⟩,hx⟩;have:=h0.t j;simp only[aD] at this;split at this
 . rename_i e;subst e;rw[h];rcases this with e|e|⟨n1,k1,n2,k2,e,_⟩
   . exact .inl e
   . exact .inr (.inr ⟨_,_,_,_,e,rfl⟩)
   . exact .inr (.inr ⟨_,_,_,_,e,rfl⟩)
 . exact this
theorem gZ {el n by':Nat} {z:List V} (h1:bg E.P el=some n) (hby:cQ E.P el=some by') (hz:aE E.P el=some z) (h4:n≠0) (h5:z.length=n)
 {es:List V} {v:V} (hc:v.cells.all V.cell=true) (hb:(es.length+1)*by'<=140737488355328) (hl:es.length+1<=9223372036854775807) (st:St) (d tok:Nat) (nl:Bool) (t':Option Nat):
 fq E st (some d) el (.sl es.isEmpty n es (some tok)) (.sl nl n [v] t')=some ⟨aw (strip tok (strip d st.t)) d (.sl false n (es++[v]) (some d)),az E tok (az E d st.b)⟩:=by
 unfold fq;simp only[h1,hby,hz];cases es with
 |nil=>simp only[List.isEmpty_nil,QX];rw[PO ⟨h4,h5,.inl trivial,by simp only[Rf,hc,List.all_nil,Rn],by simpa using hb,by simp⟩];rfl
 |cons e es=>simp only[List.isEmpty_cons];rw[PO ⟨h4,h5,trivial,.inl trivial,by simp only[Rf,hc,List.all_nil,Rn],hb,hl⟩]
variable {α:Type}
theorem eN (l:List α) (x:α):(l++[x]).isEmpty=false:=by cases l<;>rfl
attribute [go_sem] pt pu eN
attribute [go_sem] Ba xQ xS Bb xR
attribute [go_sem] Kf Kg fC jk jl Int.le_refl Int.lt_irrefl oS xP tQ qh
attribute [congr] qF qE
theorem Kh (x:Int):aq .i64 x=wrap64 x:=(fo _ _).trans (IntWalk.i64_left x)
theorem aj {x:Int} (h:aS x):aq .i64 x=x:=(Kh x).trans (xh h)
theorem bh {i:Nat} (h:i<9223372036854775807):aq .i64 ((i:Int)+1)=((i+1:Nat):Int):=by rw[aj (by unfold aS;omega)];omega
def Bd (b:Int):Bool:=decide (97<=b)&&decide (b<=122)
def HE (b:Int):Bool:=decide (48<=b)&&decide (b<=57)
def B (l:List UInt8):ByteArray:=⟨⟨l⟩⟩
open Classical in
noncomputable def FE {α ρ:Type} (enc:α->List V) (G:α->Option ρ):List V->Option ρ:=fun us=>if h:∃a,enc a=us then G (Classical.choose h) else none
variable {ρ:Type}
theorem bA {enc:α->List V} (inj:∀a b,enc a=enc b->a=b) (G:α->Option ρ) (a:α):FE enc G (enc a)=G a:=by unfold FE;have h:∃b,enc b=enc a:=⟨a,rfl⟩;rw[dif_pos h,inj _ _ (Qh h)]
theorem aZ {α ρ:Type} {enc:α->List V} {G:α->Option ρ} {us:List V} {r:ρ} (h:FE enc G us=some r):∃a,us=enc a∧G a=some r:=by
 unfold FE at h;split at h
 . rename_i hx;exact⟨_,(Qh hx).symm,h⟩
 . cases h
theorem aI {p:Prop} [Decidable p] {o:Option ρ} {r:ρ} (h:(if p then o else none)=some r):p∧o=some r:=by
 by_cases hp:p
 . rw[PO hp] at h;exact⟨hp,h⟩
 . rw[PS hp] at h;cases h
end Go.Proofs.Ytldnpcolhdnkdaa

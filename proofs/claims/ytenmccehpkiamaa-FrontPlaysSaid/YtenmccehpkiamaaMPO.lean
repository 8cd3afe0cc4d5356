/- The run over plain data at this seat: what the calls lean on. -/
import Derived.Test.YtenmccehpkiamaaPfTy
import Derived.Test.YtenmccehpkiamaaGlob
import Derived.Test.YtenmccehpkiamaaArithP
import Derived.KernelRfl
namespace Go.Proofs.Ytenmccehpkiamaa
set_option linter.unusedSimpArgs false
open Go Go.RowKit
def s7:List (Nat×(List V->Option V))->Nat->Option (List V->Option V)
 |[],_=>none
 |(k,F)::l,i=>if k=i then some F else s7 l i
def aW:List (Nat×(List V->Option (V×List (List V))))->Nat->Option (List V->Option (V×List (List V)))
 |[],_=>none
 |(k,F)::l,i=>if k=i then some F else aW l i
noncomputable def dD (l:List (Nat×(List V->Option V))) (M:Nat->Bool) (lp:List (Nat×(List V->Option (V×List (List V))))) (MB any:Nat->Bool):Env:=⟨Try.prog,s7 l,fun _=> .undef,Glob,M,aW lp,ji,MB,any,fun _ _=>none,0,fun _=>none,fun _=>false,fun _=>false⟩
noncomputable def eE (l:List (Nat×(List V->Option V))) (M:Nat->Bool) (lp:List (Nat×(List V->Option (V×List (List V))))):Env:=dD l M lp (fun _=>false) (fun _=>false)
noncomputable def eF (l:List (Nat×(List V->Option V))) (M:Nat->Bool):Env:=eE l M []
noncomputable def bp (l:List (Nat×(List V->Option V))):Env:=eF l fun _=>false
section
variable (l:List (Nat×(List V->Option V))) (M:Nat->Bool) (lp:List (Nat×(List V->Option (V×List (List V))))) (MB any:Nat->Bool)
theorem De:(dD l M lp MB any).P=Try.prog:=rfl
theorem Df:(dD l M lp MB any).F=s7 l:=rfl
theorem AB:(dD l M lp MB any).FP=aW lp:=rfl
theorem AC (d:Option Tmp):(dD l M lp MB any).fzO d=false:=by cases d<;>rfl
theorem AD (d:Option Tmp):(eE l M lp).fzO d=false:=by cases d<;>rfl
theorem AE (d:Option Tmp):(eF l M).fzO d=false:=by cases d<;>rfl
theorem xc (d:Option Tmp):(bp l).fzO d=false:=by cases d<;>rfl
theorem xd (d:Option Tmp):(dD l M lp MB any).litD d=false:=by cases d<;>rfl
theorem xe (d:Option Tmp):(eE l M lp).litD d=false:=by cases d<;>rfl
theorem xf (d:Option Tmp):(eF l M).litD d=false:=by cases d<;>rfl
theorem AF:(dD l M lp MB any).FM=fun _=>none:=rfl
theorem AG:(eE l M lp).FM=fun _=>none:=rfl
theorem AH:(eF l M).FM=fun _=>none:=rfl
theorem xg:(bp l).FM=fun _=>none:=rfl
theorem Dg:(dD l M lp MB any).G=fun _=> .undef:=rfl
theorem AI:(dD l M lp MB any).MB=MB:=rfl
theorem xh:(dD l M lp MB any).any=any:=rfl
theorem xi (d:Nat):(dD l M lp MB any).own (some d)=M d:=rfl
theorem Dh:(eE l M lp).P=Try.prog:=rfl
theorem Di:(eE l M lp).F=s7 l:=rfl
theorem AJ:(eE l M lp).FP=aW lp:=rfl
theorem Dj:(eE l M lp).G=fun _=> .undef:=rfl
theorem AK:(eE l M lp).MB=fun _=>false:=rfl
theorem xj (i:Nat):(eE l M lp).any i=false:=rfl
theorem xl (d:Nat):(eE l M lp).own (some d)=M d:=rfl
theorem Dk:(eF l M).P=Try.prog:=rfl
theorem Dl:(eF l M).F=s7 l:=rfl
theorem AL:(eF l M).FP=fun _=>none:=rfl
theorem Dm:(eF l M).G=fun _=> .undef:=rfl
theorem AM:(eF l M).MB=fun _=>false:=rfl
theorem xm (i:Nat):(eF l M).any i=false:=rfl
theorem xn (d:Nat):(eF l M).own (some d)=M d:=rfl
theorem um (d:Option Tmp):(bp l).own d=false:=by cases d<;>rfl
theorem AN:(bp l).P=Try.prog:=rfl
theorem AO:(bp l).F=s7 l:=rfl
theorem xp:(bp l).FP=fun _=>none:=rfl
theorem AP:(bp l).G=fun _=> .undef:=rfl
theorem xq:(bp l).MB=fun _=>false:=rfl
theorem un (i:Nat):(bp l).any i=false:=rfl
noncomputable def fI (l:List (Nat×(List V->Option V))) (any:Nat->Bool):Env:=dD l (fun _=>false) [] (fun _=>false) any
theorem od:(dD l M lp MB any).plain=fI l any:=rfl
theorem oe:(eE l M lp).plain=bp l:=rfl
theorem qM:(eF l M).plain=bp l:=rfl
theorem og:(bp l).plain=bp l:=rfl
theorem AQ (d:Option Tmp):(fI l any).fzO d=false:=by cases d<;>rfl
theorem Dn:(fI l any).P=Try.prog:=rfl
theorem Do:(fI l any).F=s7 l:=rfl
theorem AS:(fI l any).FP=fun _=>none:=rfl
theorem AT:(fI l any).FM=fun _=>none:=rfl
theorem Dp:(fI l any).G=fun _=> .undef:=rfl
theorem AU:(fI l any).MB=fun _=>false:=rfl
theorem xr (d:Option Tmp):(fI l any).own d=false:=by cases d<;>rfl
section
variable (st:St) (b:Nat->Option (List V)) (k s:Nat) (p u:V) (d:Option Nat) (cs:List V)
theorem Dq:wipe (eE l M lp) st=st:=rfl
theorem Dr:wipe (eF l M) st=st:=rfl
theorem Ds:wipe (bp l) st=st:=rfl
theorem xt:aD (eE l M lp) k b=b:=rfl
theorem xu:aD (eF l M) k b=b:=rfl
theorem xw:aD (bp l) k b=b:=rfl
theorem xx:aD (fI l any) k b=b:=rfl
theorem Dt:(eE l M lp).kept s u=u.bare:=rfl
theorem Du:(eF l M).kept s u=u.bare:=rfl
theorem Dv:(bp l).kept s u=u.bare:=rfl
theorem Dw:(fI l any).kept s u=u.bare:=rfl
theorem Fw:(eE l M lp).okS s u=true:=rfl
theorem Fy:(eF l M).okS s u=true:=rfl
theorem Fz:(bp l).okS s u=true:=rfl
theorem FA:(fI l any).okS s u=true:=rfl
theorem FB:(eE l M lp).okN d cs=true:=by cases d<;>rfl
theorem FC:(eF l M).okN d cs=true:=by cases d<;>rfl
theorem FD:(bp l).okN d cs=true:=by cases d<;>rfl
theorem FF:(fI l any).okN d cs=true:=by cases d<;>rfl
theorem FG:(dD l M lp MB any).okN (some s) cs=(!MB s||cs.all V.unm):=rfl
theorem Dx:(dD l M lp MB any).okN none cs=true:=rfl
theorem FH:(dD l M lp MB any).okS s u=(!MB s||(u.isSl||u.cells.all V.unm)):=rfl
theorem Dy:(dD l M lp MB any).kept s u=if MB s=true then u else u.bare:=rfl
theorem AV (o:Nat):(dD l M lp MB any).keepL (.ptr s o) u=if MB s=true then u else u.bare:=rfl
theorem xy:(dD l M lp MB any).keepL (.ip cs) u=u.bare:=rfl
theorem uo:aD (dD l M lp MB any) k b s=if MB s=true then (b s).map (List.map (bC k)) else b s:=rfl
theorem xz:sC (dD l M lp MB any) b s=if MB s=true then (b s).map (List.map V.bare) else b s:=rfl
theorem AW:wipe (dD l M lp (fun _=>false) any) st=st:=rfl
theorem AX:(eE l M lp).keepL p u=u.bare:=by cases p<;>rfl
theorem AY:(eF l M).keepL p u=u.bare:=by cases p<;>rfl
theorem AZ:(bp l).keepL p u=u.bare:=by cases p<;>rfl
theorem A0:(fI l any).keepL p u=u.bare:=by cases p<;>rfl
end
end
def gD (f:FuncId) (F:List V->Option V):Prop:=Fun (bp []) f F
def qN:List (Nat×(List V->Option V))->Prop
 |[]=>True
 |p::l=>gD p.1 p.2∧qN l
def CL (f:FuncId) (F:List V->Option (V×List (List V))):Prop:=FunP (bp []) f F
def xA:List (Nat×(List V->Option (V×List (List V))))->Prop
 |[]=>True
 |p::l=>CL p.1 p.2∧xA l
theorem s8 (l:List (Nat×(List V->Option V))) (M:Nat->Bool) (lp:List (Nat×(List V->Option (V×List (List V))))) (MB any:Nat->Bool) (h:qN l) (hp:xA lp):EnvOK (dD l M lp MB any):=by
 refine⟨fun f F hF=>?_,fun f F hF=>?_,fun X w w' hX hj hb=>Glob.low hj hb.size ⟨hb.os,hb.tape,hb.output,hb.size,fun k hk=>hb.block k (Ml hk (Glob.high hj)) (fun hm=>absurd (hX k hm) (Nj.2 hk))⟩,fun w hj=>Glob.high hj,(fun f lb=>rfl),fun f F hF=>by cases hF⟩
 . have key:∀l,qN l->s7 l f=some F->gD f F:=by
    intro l
    induction l with
    |nil=>intro _ h;cases h
    | cons p l ih=>
      intro h hF;simp only[s7] at hF;split at hF
      . rename_i e;cases hF;exact e▸h.1
      . exact ih h.2 hF
   exact key l h hF
 . have key:∀l,xA l->aW l f=some F->CL f F:=by
    intro l
    induction l with
    |nil=>intro _ h;cases h
    | cons p l ih=>
      intro h hF;simp only[aW] at hF;split at hF
      . rename_i e;cases hF;exact e▸h.1
      . exact ih h.2 hF
   exact key lp hp hF
theorem A1 (l:List (Nat×(List V->Option V))) (M:Nat->Bool) (lp:List (Nat×(List V->Option (V×List (List V))))) (h:qN l) (hp:xA lp):EnvOK (eE l M lp):=s8 l M lp _ _ h hp
theorem A2 (l:List (Nat×(List V->Option V))) (M:Nat->Bool) (h:qN l):EnvOK (eF l M):=A1 l M [] h trivial
theorem cZ (l:List (Nat×(List V->Option V))) (h:qN l):EnvOK (bp l):=A2 l _ h
theorem j7 (l:List (Nat×(List V->Option V))) (M:Nat->Bool) (lp:List (Nat×(List V->Option (V×List (List V))))) (MB any:Nat->Bool) (u:V):ff (dD l M lp MB any) u=none:=by unfold ff;split<;>rfl
theorem Dz (l:List (Nat×(List V->Option V))) (M:Nat->Bool) (lp:List (Nat×(List V->Option (V×List (List V))))) (u:V):ff (eE l M lp) u=none:=j7 _ _ _ _ _ u
theorem DA (l:List (Nat×(List V->Option V))) (M:Nat->Bool) (u:V):ff (eF l M) u=none:=j7 _ _ _ _ _ u
theorem DB (l:List (Nat×(List V->Option V))) (u:V):ff (bp l) u=none:=j7 _ _ _ _ _ u
theorem DC (l:List (Nat×(List V->Option V))) (any:Nat->Bool) (u:V):ff (fI l any) u=none:=j7 _ _ _ _ _ u
noncomputable def cL (G:Nat->V) (X:FuncId->List Value->Option (List V->Option (V×List (List V)))) (xk:Nat):Env:=⟨Try.prog,fun _=>none,G,Glob,fun _=>false,fun _=>none,ji,fun _=>false,fun _=>false,X,xk,fun _=>none,fun _=>false,fun _=>false⟩
section
variable (G:Nat->V) (X:FuncId->List Value->Option (List V->Option (V×List (List V)))) (xk:Nat) (f:FuncId) (u:V) (d:Option Nat) (cs:List V) (st:St) (b:Nat->Option (List V)) (k s:Nat) (p:V)
theorem A3 (d:Option Tmp):(cL G X xk).fzO d=false:=by cases d<;>rfl
theorem DD:(cL G X xk).P=Try.prog:=rfl
theorem DE:(cL G X xk).F=fun _=>none:=rfl
theorem A4:(cL G X xk).FP=fun _=>none:=rfl
theorem A5:(cL G X xk).FM=fun _=>none:=rfl
theorem DF:(cL G X xk).G=G:=rfl
theorem A6:(cL G X xk).MB=fun _=>false:=rfl
theorem xB (i:Nat):(cL G X xk).any i=false:=rfl
theorem xC:(cL G X xk).own d=false:=by cases d<;>rfl
theorem DG:(cL G X xk).X=X:=rfl
theorem A7:(cL G X xk).xk=xk:=rfl
theorem A8 (lb:Array Value):ff (cL G X xk) (.x (.func (.func f) #[] lb))=X f lb.toList:=rfl
theorem xD:ff (cL G X xk) (.x (.func (.func f) #[] #[]))=X f []:=rfl
theorem DH:wipe (cL G X xk) st=st:=rfl
theorem xE:aD (cL G X xk) k b=b:=rfl
theorem DI:(cL G X xk).kept s u=u.bare:=rfl
theorem FI:(cL G X xk).okS s u=true:=rfl
theorem FJ:(cL G X xk).okN d cs=true:=by cases d<;>rfl
theorem A9:(cL G X xk).keepL p u=u.bare:=by cases p<;>rfl
end
theorem s9 (G:Nat->V) (X:FuncId->List Value->Option (List V->Option (V×List (List V)))) (xk:Nat) (h1:1000<=xk) (pm:Pm) (bk:Nat) (hb:pm.b (cL G X xk).xk=bk) (h:∀f lb F,(cL G X xk).X f lb=some F->FunX (cL G X xk) bk f lb F):EnvX (cL G X xk) pm:=
 ⟨(fun f F e=>by cases e),(fun f F e=>by cases e),fun X w w' hX hj hb=>Glob.low hj hb.size ⟨hb.os,hb.tape,hb.output,hb.size,fun k hk=>hb.block k (Ml hk (Glob.high hj)) (fun hm=>absurd (hX k hm) (Nj.2 hk))⟩,(fun w hj=>Glob.high hj),(fun f lb F e=>⟨h1,by rw[hb];exact h f lb F e⟩),.inl (fun _=>rfl),fun f F hF=>by cases hF⟩
def CM (f:FuncId) (F:List V->Option (List V×List V)):Prop:=FunM (bp []) f F
def DJ:List (Nat×(List V->Option (List V×List V)))->Prop
 |[]=>True
 |p::l=>CM p.1 p.2∧DJ l
def CN:List (Nat×(List V->Option (List V×List V)))->Nat->Option (List V->Option (List V×List V))
 |[],_=>none
 |(k,F)::l,i=>if k=i then some F else CN l i
noncomputable def bO (l:List (Nat×(List V->Option V))) (lp:List (Nat×(List V->Option (V×List (List V))))) (lm:List (Nat×(List V->Option (List V×List V)))) (lit any:Nat->Bool):Env:=⟨Try.prog,s7 l,fun _=> .undef,Glob,lit,aW lp,ji,fun _=>false,any,fun _ _=>none,0,CN lm,lit,fun _=>false⟩
section
variable (l:List (Nat×(List V->Option V))) (lp:List (Nat×(List V->Option (V×List (List V))))) (lm:List (Nat×(List V->Option (List V×List V)))) (lit any:Nat->Bool) (u:V) (d:Option Nat) (cs:List V) (st:St) (b:Nat->Option (List V)) (k s:Nat) (p:V)
theorem Ba (d:Option Tmp):(bO l lp lm lit any).fzO d=false:=by cases d<;>rfl
theorem DK:(bO l lp lm lit any).P=Try.prog:=rfl
theorem DL:(bO l lp lm lit any).F=s7 l:=rfl
theorem Bb:(bO l lp lm lit any).FP=aW lp:=rfl
theorem Bc:(bO l lp lm lit any).FM=CN lm:=rfl
theorem DM:(bO l lp lm lit any).G=fun _=> .undef:=rfl
theorem Bd:(bO l lp lm lit any).MB=fun _=>false:=rfl
theorem xF:(bO l lp lm lit any).any=any:=rfl
theorem xG (d:Nat):(bO l lp lm lit any).own (some d)=lit d:=rfl
theorem up:(bO l lp lm lit any).own none=false:=rfl
theorem xH (d:Nat):(bO l lp lm lit any).litD (some d)=lit d:=rfl
theorem oh:(bO l lp lm lit any).plain=fI l any:=rfl
theorem DN:ff (bO l lp lm lit any) u=none:=by unfold ff;split<;>rfl
theorem DO:wipe (bO l lp lm lit any) st=st:=rfl
theorem xI:aD (bO l lp lm lit any) k b=b:=rfl
theorem DP:(bO l lp lm lit any).kept s u=u.bare:=rfl
theorem FK:(bO l lp lm lit any).okS s u=true:=rfl
theorem FL:(bO l lp lm lit any).okN d cs=true:=by cases d<;>rfl
theorem Be:(bO l lp lm lit any).keepL p u=u.bare:=by cases p<;>rfl
end
theorem aZ (l:List (Nat×(List V->Option V))) (lp:List (Nat×(List V->Option (V×List (List V))))) (lm:List (Nat×(List V->Option (List V×List V)))) (lit any:Nat->Bool) (h:qN l) (hp:xA lp) (hq:DJ lm):EnvOK (bO l lp lm lit any):=by
 have h0:=s8 l (fun _=>false) lp (fun _=>false) any h hp;refine⟨h0.fn,h0.fnP,h0.keep,h0.high,h0.noX,fun f F hF=>?_⟩;have key:∀l,DJ l->CN l f=some F->CM f F:=by
  intro l
  induction l with
  |nil=>intro _ h;cases h
  | cons p l ih=>
    intro h hF;simp only[CN] at hF;split at hF
    . rename_i e;cases hF;exact e▸h.1
    . exact ih h.2 hF
 exact key lm hq hF
noncomputable def eG (l:List (Nat×(List V->Option V))) (lp:List (Nat×(List V->Option (V×List (List V))))) (lm:List (Nat×(List V->Option (List V×List V)))) (M lit fz any:Nat->Bool):Env:=⟨Try.prog,s7 l,fun _=> .undef,Glob,M,aW lp,ji,fun _=>false,any,fun _ _=>none,0,CN lm,lit,fz⟩
section
variable (l:List (Nat×(List V->Option V))) (lp:List (Nat×(List V->Option (V×List (List V))))) (lm:List (Nat×(List V->Option (List V×List V)))) (M lit fz any:Nat->Bool) (u:V) (d:Option Nat) (cs:List V) (st:St) (b:Nat->Option (List V)) (k s:Nat) (p:V)
theorem DQ:(eG l lp lm M lit fz any).P=Try.prog:=rfl
theorem DR:(eG l lp lm M lit fz any).F=s7 l:=rfl
theorem Bf:(eG l lp lm M lit fz any).FP=aW lp:=rfl
theorem Bg:(eG l lp lm M lit fz any).FM=CN lm:=rfl
theorem DS:(eG l lp lm M lit fz any).G=fun _=> .undef:=rfl
theorem Bh:(eG l lp lm M lit fz any).MB=fun _=>false:=rfl
theorem xJ:(eG l lp lm M lit fz any).any=any:=rfl
theorem xK (d:Nat):(eG l lp lm M lit fz any).own (some d)=M d:=rfl
theorem uq:(eG l lp lm M lit fz any).own none=false:=rfl
theorem xL (d:Nat):(eG l lp lm M lit fz any).litD (some d)=lit d:=rfl
theorem Bi (d:Nat):(eG l lp lm M lit fz any).fzO (some d)=fz d:=rfl
theorem xM:(eG l lp lm M lit fz any).fzO none=false:=rfl
theorem oi:(eG l lp lm M lit fz any).plain=fI l any:=rfl
theorem DT:ff (eG l lp lm M lit fz any) u=none:=by unfold ff;split<;>rfl
theorem DU:wipe (eG l lp lm M lit fz any) st=st:=rfl
theorem xN:aD (eG l lp lm M lit fz any) k b=b:=rfl
theorem DV:(eG l lp lm M lit fz any).kept s u=u.bare:=rfl
theorem FN:(eG l lp lm M lit fz any).okS s u=true:=rfl
theorem FO:(eG l lp lm M lit fz any).okN d cs=true:=by cases d<;>rfl
theorem Bj:(eG l lp lm M lit fz any).keepL p u=u.bare:=by cases p<;>rfl
end
abbrev vl (k n:Int) (s:ByteArray):V:= .agg [.x (.int .i64 k),.x (.int .i64 n),.x (.string s)]
variable {s:Nat} {t:Nat->V}
theorem br {i:Nat} {v:V} (hv:v.nm≠some s) (h:noPtrTo s t):noPtrTo s (au t i v)=True:=by
 refine eq_true (fun j=>?_);rw[aE];split
 . exact hv
 . exact h j
theorem KC (b:Bool):(b==true)=b:=by cases b<;>rfl
theorem KD (b:Bool):(b==false)= !b:=by cases b<;>rfl
theorem FQ (b:Bool):(true==b)=b:=by cases b<;>rfl
theorem FR (b:Bool):(false==b)= !b:=by cases b<;>rfl
section
variable {s i:Nat} {t:Nat->V}
theorem KE {v:Value} (h:noPtrTo s t):noPtrTo s (au t i (.x v)):=by rw[br (by simp) h];trivial
variable {v:List V}
theorem DW (h:noPtrTo s t):noPtrTo s (au t i (.agg v)):=by rw[br (by simp) h];trivial
theorem DX (h:noPtrTo s t):noPtrTo s (au t i (.tup v)):=by rw[br (by simp) h];trivial
variable {z:Nat}
theorem FS {a:Bool} {c:Option Nat} (h:noPtrTo s t):noPtrTo s (au t i (.sl a z v c)):=by rw[br (by simp) h];trivial
theorem FT (h:noPtrTo s t):noPtrTo s (au t i (.ip v)):=by rw[br (by simp) h];trivial
theorem xO (h:noPtrTo s t):noPtrTo s (au t i .undef):=by rw[br (by simp) h];trivial
variable {s':Nat}
theorem DY {off:Nat} (h:noPtrTo s t) (hne: ¬s=s'):noPtrTo s (au t i (.ptr s' off)):=by rw[br (by simp[M1 hne]) h];trivial
theorem DZ {l:Nat} (h:noPtrTo s t) (hne: ¬s=s'):noPtrTo s (au t i (.row s' z l)):=by rw[br (by simp[M1 hne]) h];trivial
end
variable {k:Nat}
theorem xP (h:noPtrTo s t):noPtrTo s (strip k t):=by intro i;rw[gZ];exact h i
theorem Bl (h:noPtrTo s t):noPtrTo s (kill k t):=fun i=>mC _ _ _ _ (h i)
theorem xQ (k:Nat) (t:Nat->V) (i:Nat):strip k t i=bC k (t i):=by unfold strip;exact Eq.refl _
theorem xR (k:Nat) (v:Value):bC k (.x v)= .x v:=aR _ _
theorem qO (k:Nat) (v:List V):bC k (.agg v)= .agg v:=aR _ _
theorem qP (k:Nat) (v:List V):bC k (.tup v)= .tup v:=aR _ _
theorem ur (k:Nat) (v:List V):bC k (.ip v)= .ip v:=aR _ _
theorem qQ (k s o:Nat):bC k (.ptr s o)= .ptr s o:=aR _ _
theorem qR (k s z l:Nat):bC k (.row s z l)= .row s z l:=aR _ _
theorem Bm (k:Nat) (t:Nat->V) (i:Nat):kill k t i=dt k (t i):=by unfold kill;exact Eq.refl _
theorem Bn (k:Nat) (v:Value):dt k (.x v)= .x v:=bZ _ _
theorem ut (k:Nat) (v:List V):dt k (.agg v)= .agg v:=bZ _ _
theorem uu (k:Nat) (v:List V):dt k (.tup v)= .tup v:=bZ _ _
theorem xS (k:Nat) (v:List V):dt k (.ip v)= .ip v:=bZ _ _
theorem xT (k:Nat) (nl:Bool) (sz:Nat) (es:List V) (t:Option Nat):dt k (.sl nl sz es t)= .sl nl sz es t:=bZ _ _
theorem uv (k:Nat) (t:TypeId):dt k (.dyn t)= .dyn t:=bZ _ _
theorem oj (k:Nat):dt k .undef= .undef:=bZ _ _
theorem uw (k s o:Nat):dt k (.ptr s o)=if s=k then .undef else .ptr s o:=bZ _ _
theorem ux (k s z l:Nat):dt k (.row s z l)=if s=k then .undef else .row s z l:=bZ _ _
theorem xU (k:Nat) (ks vs:List V):dt k (.fm ks vs)= .fm ks vs:=bZ _ _
theorem uy (k:Nat) (ks vs:List V):bC k (.fm ks vs)= .fm ks vs:=aR _ _
variable {vs:List V}
theorem FU {i:Nat} {ks:List V} (h:noPtrTo s t):noPtrTo s (au t i (.fm ks vs)):=by rw[br (by simp) h];trivial
attribute [go_sem] xU uy FU ju wl ES
theorem qS (k:Nat) (t:TypeId):bC k (.dyn t)= .dyn t:=aR _ _
theorem D3 {i:Nat} {d:TypeId} (h:noPtrTo s t):noPtrTo s (au t i (.dyn d)):=by rw[br (by simp) h];trivial
theorem mH (k:Nat):bC k .undef= .undef:=aR _ _
theorem ol (k:Nat) (nl:Bool) (sz:Nat) (es:List V):bC k (.sl nl sz es none)= .sl nl sz es none:=aR _ _
theorem om (k s:Nat) (nl:Bool) (sz:Nat) (es:List V):bC k (.sl nl sz es (some s))= .sl nl sz es (if s=k then none else some s):=aR _ _
theorem oo:noPtrTo s (fun _=> .undef)=True:=eq_true (fun _ h=>by cases h)
theorem Bo:start []=⟨fun _=> .undef,fun _=>none⟩:=rfl
theorem Bp (u0:V):start [u0]=⟨au (fun _=> .undef) 0 u0,fun _=>none⟩:=rfl
theorem Bq (u0 u1:V):start [u0,u1]=⟨au (au (fun _=> .undef) 1 u1) 0 u0,fun _=>none⟩:=rfl
theorem Br (u0 u1 u2:V):start [u0,u1,u2]=⟨au (au (au (fun _=> .undef) 2 u2) 1 u1) 0 u0,fun _=>none⟩:=rfl
theorem Bt (u0 u1 u2 u3:V):start [u0,u1,u2,u3]=⟨au (au (au (au (fun _=> .undef) 3 u3) 2 u2) 1 u1) 0 u0,fun _=>none⟩:=rfl
theorem Bu (u0 u1 u2 u3 u4:V):start [u0,u1,u2,u3,u4]=⟨au (au (au (au (au (fun _=> .undef) 4 u4) 3 u3) 2 u2) 1 u1) 0 u0,fun _=>none⟩:=rfl
theorem Bv (u0 u1 u2 u3 u4 u5:V):start [u0,u1,u2,u3,u4,u5]=⟨au (au (au (au (au (au (fun _=> .undef) 5 u5) 4 u4) 3 u3) 2 u2) 1 u1) 0 u0,fun _=>none⟩:=rfl
attribute [go_sem] wQ qF wR Az wS ud nZ ue wT AA n4 wU uf kW qH fH qJ n7 tV qp nJ qq qr nM mu bv cH dv aH ev cU Bo Bp Bq Br Bt Bu Bv St.put aE pT pR pS wt EY nn dT gU jI ca np V.notPtr V.dat V.cell V.cells gS iu fE isA E5 eC mF eV KE DW DX FS FT xO DY oo s7 AN AO AP bT
attribute [go_sem] tK gQ qS D3 Ad bj fi eu js jC gu eM pO mf pP Af ll tE wi tF tG ng wo wu sN sP xQ xR qO qP ur qQ mH ol om xP d6
attribute [go_sem] ite_true ite_false true_implies and_true true_and and_self reduceCtorEq false_implies if_true if_false List.getElem?_toArray List.getElem?_cons_succ List.getElem?_cons_zero Option.bind_some Option.map_some List.map_cons List.map_nil List.all_cons List.all_nil Bool.and_self Bool.true_and Bool.and_true Bool.false_eq_true List.length_cons List.length_nil List.take_succ_cons List.take_zero List.drop_succ_cons List.drop_zero List.cons_append List.nil_append List.mapM_cons List.mapM_nil Option.pure_def Option.bind_eq_bind Option.isNone_none ne_eq not_true_eq_false not_false_eq_true or_self or_false false_or gt_iff_lt ge_iff_le Nat.lt_irrefl Nat.not_lt_zero Nat.le_refl beq_self_eq_true Bool.not_true Bool.not_false Bool.true_eq_false cond_true cond_false List.toList_toArray Nat.zero_le decide_true decide_false imp_self implies_true forall_const List.take_nil List.drop_nil and_false false_and Nat.zero_add Nat.add_zero Bool.true_or Bool.or_true Bool.false_or Bool.or_false Bool.and_false Bool.false_and true_or or_true BEq.rfl
attribute [go_sem 500] ft.eq_1
theorem uz (k:List Nat) (t:Nat->V) (i:Nat):ei k t i=bo k (t i):=by unfold ei;exact Eq.refl _
theorem xV (k:List Nat) (v:Value):bo k (.x v)= .x v:=bF _ _
theorem qT (k:List Nat) (v:List V):bo k (.agg v)= .agg v:=bF _ _
theorem qU (k:List Nat) (v:List V):bo k (.tup v)= .tup v:=bF _ _
theorem uA (k:List Nat) (v:List V):bo k (.ip v)= .ip v:=bF _ _
theorem uB (k:List Nat) (nl:Bool) (sz:Nat) (es:List V) (t:Option Nat):bo k (.sl nl sz es t)= .sl nl sz es t:=bF _ _
theorem uC (k:List Nat) (ks vs:List V):bo k (.fm ks vs)= .fm ks vs:=bF _ _
attribute [go_sem] uC
theorem qV (k:List Nat) (t:TypeId):bo k (.dyn t)= .dyn t:=bF _ _
theorem mI (k:List Nat):bo k .undef= .undef:=bF _ _
theorem qW (k:List Nat) (s o:Nat):bo k (.ptr s o)= .ptr s o:=bF _ _
theorem qX (k:List Nat) (s z l:Nat):bo k (.row s z l)=if k.contains s=true then .undef else .row s z l:=bF _ _
theorem uD {k:List Nat} (h:noPtrTo s t):noPtrTo s (ei k t):=fun i=>by
 rcases dL k (t i) with⟨e,_⟩|e
 . show(bo k (t i)).nm≠_;rw[e];exact h i
 . show(bo k (t i)).nm≠_;rw[e];simp
theorem uE (us:List V):cJ us=⟨ed 0 us,cv 0 us⟩:=rfl
attribute [go_sem] Dh Di AJ Dj xl oe AL xp aW callP wv E0 a6 nx uz xV qT qU uA uB qV mI qW qX uD uE ed cv g3 wV cS jh cT lx
variable {s':Nat}
theorem FV {i:Nat} {ks:List V} (h:noPtrTo s t) (hne: ¬s=s'):noPtrTo s (au t i (.mp s' ks vs)):=by rw[br (by simp[M1 hne]) h];trivial
theorem uF (k s:Nat) (ks vs:List V):bC k (.mp s ks vs)= .mp s ks vs:=aR _ _
theorem oq (k s:Nat) (ks vs:List V):dt k (.mp s ks vs)=if s=k then .undef else .mp s ks vs:=bZ _ _
theorem uG (k:List Nat) (s:Nat) (ks vs:List V):bo k (.mp s ks vs)= .mp s ks vs:=bF _ _
theorem Bw (s:Nat) (ks vs:List V) (t:Nat->V) (i:Nat):kS s ks vs t i=cn s ks vs (t i):=by unfold kS;exact Eq.refl _
section
variable (s:Nat) (ks vs:List V)
theorem Bx (v:Value):cn s ks vs (.x v)= .x v:=bL _ _ _ _
theorem uH (v:List V):cn s ks vs (.agg v)= .agg v:=bL _ _ _ _
theorem uI (v:List V):cn s ks vs (.tup v)= .tup v:=bL _ _ _ _
theorem xW (v:List V):cn s ks vs (.ip v)= .ip v:=bL _ _ _ _
theorem xX (nl:Bool) (sz:Nat) (es:List V) (t:Option Nat):cn s ks vs (.sl nl sz es t)= .sl nl sz es t:=bL _ _ _ _
theorem xY (ks' vs':List V):cn s ks vs (.fm ks' vs')= .fm ks' vs':=bL _ _ _ _
attribute [go_sem] xY
theorem uJ (t:TypeId):cn s ks vs (.dyn t)= .dyn t:=bL _ _ _ _
theorem ot:cn s ks vs .undef= .undef:=bL _ _ _ _
theorem uK (k o:Nat):cn s ks vs (.ptr k o)= .ptr k o:=bL _ _ _ _
theorem uL (k z l:Nat):cn s ks vs (.row k z l)= .row k z l:=bL _ _ _ _
theorem xZ (s':Nat) (ks' vs':List V):cn s ks vs (.mp s' ks' vs')=if s'=s then .mp s ks vs else .mp s' ks' vs':=bL _ _ _ _
end
theorem By {ks:List V} (h:noPtrTo s t):noPtrTo s (kS k ks vs t):=fun i=>by
 show(cn k ks vs (t i)).nm≠_;rcases dx k ks vs (t i) with e|⟨⟨ks',vs',e1⟩,e⟩
 . rw[e];exact h i
 . rw[e];have:=h i;rw[e1] at this;exact this
attribute [go_sem] jt wj FV By uF oq uG Bw Bx uH uI xW xX uJ ot uK uL xZ
def FW:Option (List V)->V
 |some cs=> .bx cs
 |none=> .undef
section
variable (b:Nat->Option (List V)) (st:St) (E:Env)
theorem x5 (s:Nat):dU b (.ptr s 0)=FW (b s):=by show(match b s with|some cs=>V.bx cs|none=> .undef)=_;cases b s<;>rfl
theorem D4 (v:Value):dU b (.x v)= .x v:=bj v
theorem ou (v:List V):dU b (.agg v)= .agg v:=fi v
theorem Bz (v:List V):dU b (.ip v)= .ip v:=js v
theorem BA (ks vs:List V):dU b (.fm ks vs)= .fm ks vs:=ju ks vs
attribute [go_sem] BA
theorem x6 (t:TypeId):dU b (.dyn t)= .dyn t:=gQ t
theorem qY:dU b .undef= .undef:=gu
theorem BB (s:Nat) (ks vs:List V):dU b (.mp s ks vs)= .mp 0 ks vs:=rfl
theorem BC (s:Nat) (ks vs:List V):(V.mp s ks vs).datP=true:=rfl
theorem BD (nl:Bool) (sz:Nat) (es:List V) (t:Option Nat):dU b (.sl nl sz es t)=qc nl sz es t:=rfl
def mJ (sz:Nat) (es:List V):V:=qc es.isEmpty sz es (some 0)
theorem x7 (sz:Nat) (es:List V) (k:Nat):qc es.isEmpty sz es (some k)=mJ sz es:=by unfold mJ;cases es<;>rfl
theorem x8 (sz:Nat) (es:List V) (t:Option Nat):qc true sz es t=mJ 1 []:=rfl
theorem uM (sz:Nat) (es:List V):qc false sz es none= .sl false sz es none:=rfl
theorem uN (sz:Nat) (es:List V) (x:V) (k:Nat):qc false sz (es++[x]) (some k)=mJ sz (es++[x]):=by unfold mJ;cases es<;>rfl
theorem BE (cs:List V):(V.bx cs).datP=true:=rfl
theorem D5 (v:Value):(V.x v).datP=(V.x v).dat:=rfl
theorem x9 (v:List V):(V.agg v).datP=true:=rfl
theorem yb (v:List V):(V.tup v).datP=false:=rfl
theorem BF (v:List V):(V.ip v).datP=true:=rfl
theorem BG (ks vs:List V):(V.fm ks vs).datP=true:=rfl
attribute [go_sem] BG
theorem yc (t:TypeId):(V.dyn t).datP=true:=rfl
theorem qZ:V.undef.datP=false:=rfl
theorem BH (nl:Bool) (sz:Nat) (es:List V):(V.sl nl sz es none).datP=true:=rfl
theorem yd (nl:Bool) (sz k:Nat) (es:List V):(V.sl nl sz es (some k)).datP=true:=rfl
theorem ye (sz:Nat) (es:List V):(mJ sz es).datP=true:=by cases es<;>rfl
theorem ra (k sz:Nat) (es us:List V):cS k (mJ sz es::us) b=cS (k+1) us b:=dQ (by cases es<;>rfl)
theorem rb (k sz:Nat) (es us:List V) (t:Nat->V):cT k (mJ sz es::us) t=cT (k+1) us t:=dP (by cases es<;>rfl)
theorem uO (nl:Bool) (sz:Nat) (es:List V) (t:Option Nat) (l:List V):a6 (.sl nl sz es t::l)=a6 l:=rfl
theorem yf (d k sz:Nat) (nl:Bool) (es:List V):ge E st (some d) (.sl nl sz es (some k))=⟨au (strip d st.t) d (.sl nl sz es (some d)),aD E d st.b⟩:=rfl
theorem BI (r:V):ge E st none r=st:=by unfold ge;rfl
theorem D6 (d:Nat) (v:Value):ge E st (some d) (.x v)=st.put (some d) (.x v):=by show st.put (some d) (V.x v).bare=_;rw[bj]
theorem ov (d:Nat) (v:List V):ge E st (some d) (.agg v)=st.put (some d) (.agg v):=by show st.put (some d) (V.agg v).bare=_;rw[fi]
theorem yg (d:Nat) (v:List V):ge E st (some d) (.tup v)=st.put (some d) (.tup v):=by show st.put (some d) (V.tup v).bare=_;rw[eu]
theorem BJ (d:Nat) (ks vs:List V):ge E st (some d) (.fm ks vs)=st.put (some d) (.fm ks vs):=by show st.put (some d) (V.fm ks vs).bare=_;rw[ju]
attribute [go_sem] BJ
theorem yh (d:Nat) (t:TypeId):ge E st (some d) (.dyn t)=st.put (some d) (.dyn t):=by show st.put (some d) (V.dyn t).bare=_;rw[gQ]
theorem BK (d:Nat) (v:List V):ge E st (some d) (.ip v)=st.put (some d) (.ip v):=by show st.put (some d) (V.ip v).bare=_;rw[js]
theorem yi (d sz:Nat) (nl:Bool) (es:List V):ge E st (some d) (.sl nl sz es none)=st.put (some d) (.sl nl sz es none):=by show st.put (some d) (V.sl nl sz es none).bare=_;rw[eM]
theorem yj (nl:Bool) (sz k:Nat) (es:List V):Da (.sl nl sz es (some k))=some (.sl nl sz es (some 0)):=rfl
theorem ow (k sz:Nat) (es us:List V):cv k (mJ sz es::us)=cv (k+1) us:=gB (by cases es<;>rfl)
end
attribute [go_sem] gA ow ra rb BB BC cb FW x5 D4 ou Bz x6 qY BD x7 x8 uM uN BE D5 x9 yb BF yc qZ BH yd ye uO aT stripL cN yf BI D6 ov yg yh BK yi yj n9 E6
attribute [go_sem] j7 Dz DA DB DC A8 xD DD DE A4 DF A6 xB xC DG A7 DH xE DI FI FJ A9
attribute [go_sem] ub fD mB E3 Au Av
attribute [go_sem] Dk Dl Dm xn qM og um Ak DZ Bl Bm Bn ut uu xS xT uv oj uw ux qR jD lq List.flatMap_cons List.flatMap_nil List.append_nil
attribute [go_sem] qG nX De Df AB Dg AI xh xi AK xj AM xm xq un od Dn Do AS Dp AU xr
attribute [go_sem] Dq Dr Ds xt xu xw xx Dt Du Dv Dw Fw Fy Fz FA FB FC FD FF AX AY AZ A0 t6 qA iC t7 mh FG Dx FH Dy AV xy uo xz AW V.unm V.isSl Gy CZ EQ ER C0 wh
attribute [congr] nY qB nV qI mD n5 ug nK mt nL
theorem BL:Int.toNat 0=0:=rfl
theorem BM:Int.toNat 1=1:=rfl
theorem BN:Int.toNat 2=2:=rfl
theorem BO:Int.toNat 3=3:=rfl
theorem BP:Int.toNat 4=4:=rfl
attribute [go_sem] BL BM BN BO BP
theorem yk:sT none=true:=rfl
theorem uP (k:IntKind) (n:Int):sT (some (.x (.int k n)))=true:=rfl
attribute [go_sem] dE AC AD AE xc AQ A3 Ba Bi xM DQ DR Bf Bg DS Bh xJ xK uq xL oi DT DU xN DV FN FO Bj Am jv sO oq jt
attribute [go_sem] E7 wW yk uP Option.map_none ww CN AF AG AH xg AT A5 DK DL Bb Bc DM Bd xF xG up xH xd xe xf Al oh DN DO xI DP FK FL Be
abbrev T3:=Int×Int×ByteArray
abbrev tv (r:T3):V:=vl r.1 r.2.1 r.2.2
attribute [go_sem] vl tv KC KD FQ FR Bool.not_eq_true' Bool.not_eq_false' Bool.not_not
def FX:List (Nat×V)->Nat->V
 |[]=>fun _=> .undef
 |(i,v)::l=>au (FX l) i v
def FY:List (Nat×List V)->Nat->Option (List V)
 |[]=>fun _=>none
 |(i,cs)::l=>au (FY l) i (some cs)
def eH (ts:List (Nat×V)) (bs:List (Nat×List V)):St:=⟨FX ts,FY bs⟩
def g4 (st:St):List (Nat×V)->Prop
 |[]=>True
 |(i,v)::l=>st.t i=v∧g4 st l
def g5 (st:St):List (Nat×List V)->Prop
 |[]=>True
 |(i,v)::l=>st.b i=some v∧g5 st l
variable {st:St}
theorem dJ {ts:List (Nat×V)} {bs:List (Nat×List V)} (h:g4 st ts) (k:g5 st bs):Le (eH ts bs) st:=by
 refine⟨fun i=>?_,fun s cs hs=>?_⟩
 . show(FX ts i).le (st.t i)
   induction ts with
   |nil=>exact .inl rfl
   | cons p l ih=>
     simp only[FX,aE];split
     . rename_i e;subst e;exact .inr (.inl h.1.symm)
     . exact ih h.2
 . have hs:FY bs s=some cs:=hs
   induction bs with
   |nil=>cases hs
   | cons p l ih=>
     simp only[FY,aE] at hs;split at hs
     . rename_i e;cases hs;subst e;exact⟨_,k.1,fG _⟩
     . exact ih k.2 hs hs
def lJ {X:Type} (T:X->List (Nat×V)) (B:X->List (Nat×List V)) (μ:X->Nat) (n:Nat) (st:St):Prop:=∃x',g4 st (T x')∧g5 st (B x')∧μ x'<n
def j8 {X:Type} (T:X->List (Nat×V)) (B:X->List (Nat×List V)) (μ:X->Nat) (n:Nat) (K:Out->St->Prop):Out->St->Prop
 | .normal,st=>lJ T B μ n st
 | .ret,st=>K .ret st
 | .exit id,st=>K (.exit id) st
section
variable {X:Type} (T:X->List (Nat×V)) (B:X->List (Nat×List V)) (μ:X->Nat) (n:Nat) (K:Out->St->Prop) (st:St)
theorem mK:j8 T B μ n K .normal st=lJ T B μ n st:=rfl
theorem uQ:j8 T B μ n K .ret st=K .ret st:=rfl
theorem re (id:Nat):j8 T B μ n K (.exit id) st=K (.exit id) st:=rfl
theorem ox {st':St} (h:st=st'):lJ T B μ n st=lJ T B μ n st':=by rw[h]
theorem oy {o o':Out} (h:o=o'):j8 T B μ n K o st=j8 T B μ n K o' st:=by rw[h]
end
variable {E:Env} {X:Type}
theorem ee {a:Code} {K:Out->St->Prop} (T:X->List (Nat×V)) (B:X->List (Nat×List V)) (μ:X->Nat) (x0:X) (h0:g4 st (T x0)) (h0':g5 st (B x0))
 (h:∀x,run E a (eH (T x) (B x)) (j8 T B μ (μ x) K)):wP (run E a) st K:=by
 refine⟨X,fun x=>eH (T x) (B x),μ,x0,dJ h0 h0',fun x=>?_⟩;have:=h x
 have e:∀o st',j8 T B μ (μ x) K o st'->(match o with
  | .normal=>∃x',Le (eH (T x') (B x')) st'∧μ x'<μ x
  |o=>K o st'):=by
  intro o st' hk;cases o with
  |normal=>obtain⟨x',h1,h2,h3⟩:=hk;exact⟨x',dJ h1 h2,h3⟩
  |ret=>exact hk
  |exit id=>exact hk
 exact n8 e this
def kX:List (Nat×Nat×Nat×V)->Nat->List (Nat×V)
 |[],_=>[]
 |(need,forb,s,v)::r,L=>if L&&&need=need∧L&&&forb=0 then (s,v)::kX r L else kX r L
theorem yl (L:Nat):kX [] L=[]:=rfl
theorem uR (need forb s L:Nat) (v:V) (r:List (Nat×Nat×Nat×V)):kX ((need,forb,s,v)::r) L=if L&&&need=need∧L&&&forb=0 then (s,v)::kX r L else kX r L:=rfl
def D7 (E:Env) (ops:List Oper) (ts:List (Nat×V)) (bs:List (Nat×List V)) (st:St):Option Oper->Prop
 |some o=>bM E ⟨ops⟩ [o] st fun st'=>g4 st' ts∧g5 st' bs
 |none=>False
def BQ (E:Env) (ops:List Oper) (ents:List (Nat×Nat×Nat×V)) (bs:List (Nat×List V)):List (Nat×Nat×Nat)->Prop
 |[]=>True
 |(L,i,L')::r=>D7 E ops (kX ents L') bs (eH (kX ents L) bs) ops[i]?∧BQ E ops ents bs r
theorem ym (E:Env) (ops:List Oper) (ents:List (Nat×Nat×Nat×V)) (bs:List (Nat×List V)):BQ E ops ents bs []=True:=rfl
theorem uS (E:Env) (ops:List Oper) (ents:List (Nat×Nat×Nat×V)) (bs:List (Nat×List V)) (L i L':Nat) (r:List (Nat×Nat×Nat)):BQ E ops ents bs ((L,i,L')::r)=(D7 E ops (kX ents L') bs (eH (kX ents L) bs) ops[i]?∧BQ E ops ents bs r):=rfl
theorem uT (E:Env) (ops:List Oper) (ts:List (Nat×V)) (bs:List (Nat×List V)) (st:St) (o:Oper):D7 E ops ts bs st (some o)=bM E ⟨ops⟩ [o] st fun st'=>g4 st' ts∧g5 st' bs:=rfl
theorem lK {el n by':Nat} {z:List V} (h1:bi E.P el=some n) (hby:cB E.P el=some by') (hz:aF E.P el=some z) (h4:n≠0) (h5:z.length=n)
 {es:List V} {v:V} (hc:v.cells.all V.cell=true) (hb:(es.length+1)*by'<=140737488355328) (hl:es.length+1<=9223372036854775807) (st:St) (d tok:Nat) (nl:Bool) (t':Option Nat):
 ft E st (some d) el (.sl es.isEmpty n es (some tok)) (.sl nl n [v] t')=some ⟨au (strip tok (strip d st.t)) d (.sl false n (es++[v]) (some d)),aD E tok (aD E d st.b)⟩:=by
 unfold ft;simp only[h1,hby,hz];cases es with
 |nil=>simp only[List.isEmpty_nil,Ma];rw[L0 ⟨h4,h5,.inl trivial,by simp only[Nl,hc,Om,Ns],by simpa using hb,by simp⟩];rfl
 |cons e es=>simp only[List.isEmpty_cons];rw[L0 ⟨h4,h5,trivial,.inl trivial,by simp only[Nl,hc,Om,Ns],hb,hl⟩]
variable {α:Type}
theorem gE (l:List α) (x:α):(l++[x]).isEmpty=false:=by cases l<;>rfl
attribute [go_sem] ni nj gE
attribute [go_sem] yl uR uT ym uS
attribute [go_sem] FX FY eH g4 g5 Int.le_refl Int.lt_irrefl mK uQ re nZ
attribute [congr] oy ox
theorem FZ (x:Int):av .i64 x=wrap64 x:=(fk _ _).trans (IntWalk.i64_left x)
theorem am {x:Int} (h:bS x):av .i64 x=x:=(FZ x).trans (ul h)
theorem be {i:Nat} (h:i<9223372036854775807):av .i64 ((i:Int)+1)=((i+1:Nat):Int):=by rw[am (by unfold bS;omega)];omega
def yn (b:Int):Bool:=decide (97<=b)&&decide (b<=122)
def D8 (b:Int):Bool:=decide (48<=b)&&decide (b<=57)
def B (l:List UInt8):ByteArray:=⟨⟨l⟩⟩
open Classical in
noncomputable def FE {α ρ:Type} (enc:α->List V) (G:α->Option ρ):List V->Option ρ:=fun us=>if h:∃a,enc a=us then G (Classical.choose h) else none
variable {ρ:Type}
theorem c9 {enc:α->List V} (inj:∀a b,enc a=enc b->a=b) (G:α->Option ρ) (a:α):FE enc G (enc a)=G a:=by unfold FE;have h:∃b,enc b=enc a:=⟨a,rfl⟩;rw[dif_pos h,inj _ _ (Mj h)]
theorem bX {α ρ:Type} {enc:α->List V} {G:α->Option ρ} {us:List V} {r:ρ} (h:FE enc G us=some r):∃a,us=enc a∧G a=some r:=by
 unfold FE at h;split at h
 . rename_i hx;exact⟨_,(Mj hx).symm,h⟩
 . cases h
theorem bm {p:Prop} [Decidable p] {o:Option ρ} {r:ρ} (h:(if p then o else none)=some r):p∧o=some r:=by
 by_cases hp:p
 . rw[L0 hp] at h;exact⟨hp,h⟩
 . rw[L1 hp] at h;cases h
end Go.Proofs.Ytenmccehpkiamaa

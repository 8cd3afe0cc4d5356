/- Regions, code, and whole functions: the run over plain data. No program is named here. -/
import Derived.Test.YtldnpcolhdnkdaaMPG
import Derived.Orders
import Derived.OrdersIn
namespace Go.Proofs.Ytldnpcolhdnkdaa
set_option linter.unusedSimpArgs false
open Go Go.RowKit
def bM (ops:Array Oper) (t:Nat->V):Option (Nat×Bool)->Option Bool
 |none=>some true
 | some (j,want)=>match (ops[j]?).bind (·.dst) with
   | some d=>match t d with
     | .x (.bool b)=>some (b==want)
     | .x (.tuple _)=>some false
     |_=>none
   |none=>none
noncomputable def ii (E:Env) (ops:Array Oper) (o:Oper) (st:St):Option St:=
 match bM ops st.t o.guard with
 |some b=>if b=true then dc E o st else some (st.put o.dst (.x (.tuple #[])))
 |none=>none
noncomputable def ir (E:Env) (ops:Array Oper):List Oper->St->Option St
 |[],st=>some st
 | o::l,st=>match ii E ops o st with
   |some st'=>ir E ops l st'
   |none=>none
def cj (E:Env) (ops:Array Oper):List Oper->St->(St->Prop)->Prop
 |[],st,K=>K st
 | o::l,st,K=>match bM ops st.t o.guard with
   |some b=>(b=true->match dc E o st with
    |some st'=>cj E ops l st' K
    |none=>False)∧(b=false->cj E ops l (st.put o.dst (.x (.tuple #[]))) K)
   |none=>False
def lE (E:Env) (ops:Array Oper) (l:List Oper) (K:St->Prop):Option St->Prop
 |some st'=>cj E ops l st' K
 |none=>False
def gx (E:Env) (ops:Array Oper) (o:Oper) (l:List Oper) (st:St) (K:St->Prop):Option Bool->Prop
 |some b=>(b=true->lE E ops l K (dc E o st))∧(b=false->cj E ops l (st.put o.dst (.x (.tuple #[]))) K)
 |none=>False
theorem wN (E:Env) (ops:Array Oper) (st:St) (K:St->Prop):cj E ops [] st K=K st:=rfl
theorem sY (E:Env) (ops:Array Oper) (d:Option Tmp) (op:Op) (ty:TypeId) (pos:String) (af:Array Edge) (l:List Oper) (st:St) (K:St->Prop):
 cj E ops (⟨d,op,ty,pos,af,none⟩::l) st K=lE E ops l K (dc E ⟨d,op,ty,pos,af,none⟩ st):=by
 simp only[cj,bM,true_implies,Bool.true_eq_false,false_implies,RE];cases dc E ⟨d,op,ty,pos,af,none⟩ st<;>rfl
theorem pR (E:Env) (ops:Array Oper) (d:Option Tmp) (op:Op) (ty:TypeId) (pos:String) (af:Array Edge) (g:Nat×Bool) (l:List Oper) (st:St) (K:St->Prop):
 cj E ops (⟨d,op,ty,pos,af,some g⟩::l) st K=gx E ops ⟨d,op,ty,pos,af,none⟩ l st K (bM ops st.t (some g)):=by
 simp only[cj,gx];cases bM ops st.t (some g) with
 |none=>rfl
 |some b=>simp only;have:dc E ⟨d,op,ty,pos,af,some g⟩ st=dc E ⟨d,op,ty,pos,af,none⟩ st:=rfl;rw[this];cases dc E ⟨d,op,ty,pos,af,none⟩ st<;>rfl
theorem sZ (E:Env) (ops:Array Oper) (l:List Oper) (K:St->Prop) (st:St):lE E ops l K (some st)=cj E ops l st K:=rfl
theorem s6 (E:Env) (ops:Array Oper) (l:List Oper) (K:St->Prop):lE E ops l K none=False:=rfl
theorem pS (E:Env) (ops:Array Oper) (l:List Oper) (K:St->Prop) {o o':Option St} (h:o=o'):lE E ops l K o=lE E ops l K o':=by rw[h]
theorem oD (E:Env) (ops:Array Oper) (o:Oper) (l:List Oper) (st:St) (K:St->Prop) {g g':Option Bool} (h:g=g'):gx E ops o l st K g=gx E ops o l st K g':=by rw[h]
theorem pT (E:Env) (ops:Array Oper) (l:List Oper) (K:St->Prop) {st st':St} (h:st=st'):cj E ops l st K=cj E ops l st' K:=by rw[h]
theorem pU (E:Env) (ops:Array Oper) (o:Oper) (l:List Oper) (st:St) (K:St->Prop):gx E ops o l st K (some true)=lE E ops l K (dc E o st):=by simp[gx]
theorem oE (E:Env) (ops:Array Oper) (o:Oper) (l:List Oper) (st:St) (K:St->Prop):gx E ops o l st K (some false)=cj E ops l (st.put o.dst (.x (.tuple #[]))) K:=by simp[gx]
theorem ft {E:Env} {ops:Array Oper} {K:St->Prop}:∀(l:List Oper) (st:St),cj E ops l st K->∃st',ir E ops l st=some st'∧K st'
 |[],st,h=>⟨st,rfl,h⟩
 | o ::l,st,h=>by
   unfold cj at h;unfold ir ii;split at h
   . rename_i b hb;cases b with
     | true=>
       have h:=h.1 rfl;split at h
       . rename_i st' hst;simp only[Qt,hst];exact ft l st' h
       . exact h.elim
     |false=>have h:=h.2 rfl;simp only[P7,Qr];exact ft l _ h
   . exact h.elim
section
variable {E:Env} {n:Nat} {pm:Pm} {m0 m:Lim} {w0 w:World} {β:Nat->Nat} {st:St} {a:Act} {ops:Array Oper}
theorem jg (h:Rel E n pm m0 w0 m β st a w) {o:Oper} {b:Bool} (hg:bM ops st.t o.guard=some b):Region.wanted o (yielded ops a.tmps)=b:=by
 unfold Region.wanted;unfold bM at hg;split at hg
 . rename_i h0;rw[h0];cases hg;rfl
 . rename_i j want h0;rw[h0];simp only[yielded];split at hg
   . rename_i d hd;rw[hd];simp only[QQ];have ht:=h.tmps d;split at hg
     . rename_i c hc;cases hg;have hv:=(hc▸ht).x;have hlt:d<a.tmps.size:=by
        rcases Ql d a.tmps.size with h'|h'
        . exact h'
        . simp[P0,Rr h',Go.undef] at hv
       have:a.tmps[d]?=some (.bool c):=by rw[<-hv,P0,PW hlt];rfl
       rw[this];cases c<;>cases want<;>rfl
     . rename_i vs hc;cases hg;have hv:=(hc▸ht).x;rcases Ql d a.tmps.size with h'|h'
       . have:a.tmps[d]?=some (.tuple vs):=by rw[<-hv,P0,PW h'];rfl
         rw[this];rfl
       . rw[Rr h'];rfl
     . simp at hg
   . simp at hg
def de (n:Nat) (ops:List Oper):Bool:=ops.all fun o=>match o.dst with|some d=>decide (d<n)|none=>true
variable {l:List Oper}
theorem eG (h:de n l=true) {o:Oper} (ho:o∈l):∀k,o.dst=some k->k<n:=by intro k hk;have:=PJ.1 h o ho;rw[hk] at this;simpa using this
def fK (r:Option Nat):Fence:={fn:=fun _=>True,depth:=none,alive:=false,round:=r}
variable {r:Option Nat} {k:Nat} {P:Program} {args:Array Value}
theorem gy {f:FuncId} {R:Ending->World->Prop}:CallsIn (fK r) k P f args w R↔Calls P f args w R:=
 callsIn_wide (n:=k)
theorem s7 {row:String} {R:Value->World->Prop} (h:_root_.Go.Rows P row args w R):_root_.Go.RowsIn (fK r) k P row args w R:=
 fun c cs _=>let ⟨v,w',q,s⟩:=h c cs;⟨v,w',q,stepsIn_wide.2 s⟩
variable {o:Oper}
theorem oF (r:Option Nat) (hdef:∀c,o.op≠ .defer c) {a:Act} {w:World} {K:Act->World->Prop} {Q:Exit->Act->World->Prop} (h:o.wp P a w K Q):o.wpIn (fK r) 0 P a w K Q:=by
 refine⟨fun _ _=>trivial,?_⟩;rw[Oper.semAt_eq _ _ _ hdef];unfold Oper.wp at h;generalize (execOp a.eval o).run P w=q at h;cases q with
 | ok x w'=>
   cases x<;>simp only[Oper.upon,Oper.uponIn] at h⊢ <;>
    first
     |exact h
     |exact h.elim
     |exact⟨(fun e=>by cases e),gy.2 h⟩
     |exact⟨(fun e=>by cases e),s7 h⟩
 |halt x w'=>cases x<;>simp only[Oper.upon,Oper.uponIn] at h⊢ <;>exact h
variable {st':St}
theorem iu (hx:dc E o st=some st'):∀c,o.op≠ .defer c:=by
 intro c hc;unfold dc at hx;rw[hc] at hx;split at hx
 . simp[Dy] at hx
 . simp[ee,hc,dU,aH] at hx
def KeepT (W:Nat->Bool) (t t':Array Value):Prop:=∀i,W i=false->t'.getD i Go.undef=t.getD i Go.undef
theorem KeepT.refl (W:Nat->Bool) (t:Array Value):KeepT W t t:=fun _ _=>rfl
variable {W:Nat->Bool} {t:Array Value}
theorem KeepT.trans {t1 t2:Array Value} (h:KeepT W t t1) (k:KeepT W t1 t2):KeepT W t t2:=fun i hi=>(k i hi).trans (h i hi)
variable {d:Option Tmp} {v:Value}
theorem KeepT.put (h:KeepT W t a.tmps) (hd:∀k,d=some k->W k=true):KeepT W t (a.put d v).tmps:=by
 intro i hi;rw[<-h i hi];cases d with
 |none=>rfl
 | some k=>
   have:k≠i:=fun e=>by have:=hd k rfl;rw[e,hi] at this;cases this
   simp only[Act.put,P0,Array.getElem?_setIfInBounds,PS this]
variable {F:Fence}
theorem pV (hd:∀d,o.dst=some d->W d=true) (hk:KeepT W t a.tmps) {K K':Act->World->Prop} {Q:Exit->Act->World->Prop} {q:Result Next}
 (hK:∀a' w',K a' w'->KeepT W t a'.tmps->K' a' w') (h:o.uponIn F k P a K Q q):o.uponIn F k P a K' (fun e a' w'=>Q e a' w'∧(e= .normal->KeepT W t a'.tmps)) q:=by
 have hput:∀(v:Value) (w:World),K (a.put o.dst v) w->K' (a.put o.dst v) w:=fun v w h=>hK _ _ h (hk.put hd)
 have hend:∀(e:Ending) (w:World),(match e with| .returned v=>K (a.put o.dst v) w| .panicked chain=>Q (.panic chain) a w| .outgrown=>LetsOut Q)->
  (match e with| .returned v=>K' (a.put o.dst v) w| .panicked chain=>Q (.panic chain) a w∧((Exit.panic chain)= .normal->KeepT W t a.tmps)| .outgrown=>LetsOut (fun e a' w'=>Q e a' w'∧(e= .normal->KeepT W t a'.tmps))):=by
  intro e w h;cases e with
  |returned v=>exact hput v w h
  |panicked ch=>exact⟨h,fun e=>by cases e⟩
  |outgrown=>obtain⟨a0,w0,h⟩:=h;exact⟨a0,w0,h,fun e=>by cases e⟩
 cases q with
 | ok x w'=>
   cases x<;>simp only[Oper.uponIn] at h⊢ <;>
    first
     |exact hput _ _ h
     |exact hK _ _ h (KeepT.put (a:={a with defers:=_::a.defers}) hk hd)
     |exact⟨h.1,CallsIn.mono h.2 (fun e w'' he=>by have:=hend e w'';cases e<;>exact this he)⟩
     |exact⟨h.1,RowsIn.mono h.2 (fun v w'' he=>hput v w'' he)⟩
     |exact⟨h.1,RoundIn.mono h.2 (fun e w'' he=>by have:=hend e w'';cases e<;>exact this he)⟩
     |exact h.elim
 |halt x w'=>cases x<;>simp only[Oper.uponIn] at h⊢ <;>first|exact h.elim|exact⟨h,fun e=>by cases e⟩
def zG (W:Nat->Bool) (ops:List Oper):Bool:=ops.all fun o=>match o.dst with|some d=>W d|none=>true
theorem GA (h:zG W l=true) {o:Oper} (ho:o∈l):∀k,o.dst=some k->W k=true:=by intro k hk;have:=PJ.1 h o ho;rw[hk] at this;exact this
theorem kB {i:Nat} (hd:zG W ops.toList=true) (hk:KeepT W t a.tmps) {K K':Act->World->Prop} {Q:Exit->Act->World->Prop}
 (hK:∀a' w',K a' w'->KeepT W t a'.tmps->K' a' w') (h:wpOpIn F k P ops Q i K a w):wpOpIn F k P ops (fun e a' w'=>Q e a' w'∧(e= .normal->KeepT W t a'.tmps)) i K' a w:=by
 unfold wpOpIn at h⊢;split
 . rename_i ho;rw[ho] at h;exact hK _ _ h hk
 . rename_i o ho;rw[ho] at h;have hdo:∀d,o.dst=some d->W d=true:=GA hd (PM (by simpa using ho:ops.toList[i]?=some o));simp only at h⊢;split
   . rename_i hw;rw[PO hw] at h;exact⟨h.1,pV hdo hk hK h.2⟩
   . rename_i hw;rw[PS hw] at h;exact⟨h.1,hK _ _ h.2 (hk.put hdo)⟩
theorem jh {W:Nat->Bool} {F:Fence} {k:Nat} {P:Program} {ops:Array Oper} {t:Array Value} (hd:zG W ops.toList=true) {Q:Exit->Act->World->Prop}:∀(is:List Nat) (a:Act) (w:World),KeepT W t a.tmps->
 wpOpsIn F k P ops Q is a w->wpOpsIn F k P ops (fun e a' w'=>Q e a' w'∧(e= .normal->KeepT W t a'.tmps)) is a w
 |[],a,w,hk,h=>⟨h,fun _=>hk⟩
 |i::is,a,w,hk,h=>by rw[wpOpsIn_cons] at h⊢;exact kB hd hk (fun a' w' h1 h2=>jh hd is a' w' h2 h1) h
theorem eu {W:Nat->Bool} {F:Fence} {k:Nat} {P:Program} {md:Region.Mode} {ops:Array Oper} {t:Array Value} (hd:zG W ops.toList=true) {Q:Exit->Act->World->Prop}:∀(fuel:Nat) (listed:Array Bool) (a:Act) (w:World),KeepT W t a.tmps->
 wpAnyIn F k P md ops Q fuel listed a w->wpAnyIn F k P md ops (fun e a' w'=>Q e a' w'∧(e= .normal->KeepT W t a'.tmps)) fuel listed a w
 |0,_,_,_,hk,h=>⟨h.1,h.2,fun _=>hk⟩
 |fuel+1,_,_,_,hk,h=>⟨fun hr=>⟨h.1 hr,fun _=>hk⟩,fun i hi=>kB hd hk (fun a' w' h1 h2=>eu hd fuel _ a' w' h2 h1) (h.2 i hi)⟩
theorem fQ (hE:EnvX E pm) (h:Rel E n pm m0 w0 m β st a w) {i:Nat} {o:Oper} (hi:ops[i]?=some o) (hd:∀k,o.dst=some k->k<n) {st':St} (hx:ii E ops o st=some st')
 {K:Act->World->Prop} {Q:Exit->Act->World->Prop} (hK:∀a' w' m' β',Rel E n pm m0 w0 m' β' st' a' w'->K a' w'):wpOpIn (fK r) 0 E.P ops Q i K a w:=by
 unfold wpOpIn;rw[hi];simp only;unfold ii at hx;split at hx
 . rename_i b hb;have hw:=jg h hb;rw[hw];cases b with
   |true=>simp only[Qt] at hx⊢;exact oF r (iu hx) (kA hE h hx hd hK)
   |false=>simp only[P7,Qr] at hx⊢;cases hx;exact⟨fun _ _=>trivial,hK _ _ _ _ (h.put hd (.of (.x _)) (fun _ _ _ e=>by cases e) (fun _ _ _ _ e=>by cases e) (fun _ _ _ e=>by cases e))⟩
 . simp at hx
theorem kC {r:Option Nat} (hE:EnvX E pm) {Q:Exit->Act->World->Prop} {st':St} (hQ:∀a' w' m' β',Rel E n pm m0 w0 m' β' st' a' w'->Q .normal a' w'):
 ∀ (l:List Oper) (is:List Nat) (st:St) (a:Act) (w:World) (m:Lim) (β:Nat->Nat),(∀j:Nat,(is[j]?).bind (ops[·]?)=l[j]?)->is.length=l.length->de n l=true->
   Rel E n pm m0 w0 m β st a w->ir E ops l st=some st'->wpOpsIn (fK r) 0 E.P ops Q is a w
 | [],is,st,a,w,m,β,_,hl,_,h,hx=>by
   cases is with
   |nil=>cases hx;exact hQ _ _ _ _ h
   |cons i is=>simp at hl
 | o ::l,is,st,a,w,m,β,hj,hl,hd,h,hx=>by
   cases is with
   |nil=>simp at hl
   | cons i is=>
     rw[wpOpsIn_cons];unfold ir at hx;split at hx
     . rename_i st1 h1;have hi:ops[i]?=some o:=by simpa using hj 0
       refine fQ hE h hi (eG hd (by simp)) h1 (fun a' w' m' β' h'=>?_);refine kC hE hQ l is st1 a' w' m' β' (fun j=>by simpa using hj (j+1)) (by simpa using hl) ?_ h' hx;simp only[de,Rf,PG] at hd;exact hd.2
     . simp at hx
theorem oG (hE:EnvX E pm) {id:Nat} {Q:Exit->Act->World->Prop} {K:St->Prop} (hd:de n ops.toList=true) (hW:zG W ops.toList=true) (h:Rel E n pm m0 w0 m β st a w) (hx:cj E ops ops.toList st K)
 (hQ:∀st' a' w' m' β',K st'->Rel E n pm m0 w0 m' β' st' a' w'->Q .normal a' w'):(Code.region id ops false).wpIn (fK r) 0 E.P (fun e a' w'=>Q e a' w'∧(e= .normal->KeepT W a.tmps a'.tmps)) a w:=by
 obtain⟨st',hs,hk⟩:=ft _ _ hx;refine wpIn_region (jh hW _ a w (KeepT.refl _ _) (kC hE (fun a' w' m' β' h'=>hQ st' a' w' m' β' hk h') ops.toList _ st a w m β (fun j=>?_) (by simp) hd h hs));rcases Ql j ops.size with h'|h'
 . rw[QZ h'];simp
 . rw[Qc (by simpa using h')];simp[h']
end
def s8 (l:List Operand):List Nat:=l.filterMap fun| .tmp t=>some t|_=>none
def readsV (ops:Array Oper) (o:Oper):List Nat:=
 s8 o.op.operands.toList++(match o.guard with|some (j,_)=>((ops[j]?).bind (·.dst)).toList|none=>[])
def isA:Op->Bool| .alloc _| .box .. =>true|_=>false
def isS:Op->Bool| .store .. =>true|_=>false
def isL:Op->Bool| .load .. =>true|_=>false
def plainOp:Op->Bool
 | .move _| .assign _| .nilCheck _| .pick .. | .alloc _| .box .. | .build .. | .buildSlice .. | .load .. | .store .. | .binOp .. | .unOp .. | .convert .. | .fieldAddr .. | .field .. | .extract .. | .indexAddr .. | .index .. | .slice .. =>true
 | .call {callee:= .value _,..}=>true
 | .call {callee:= .builtin .len,..}=>true
 |_=>false
def isG:Op->Bool
 | .call {callee:= .builtin .append,..}=>true
 |_=>false
def indepV (ops:Array Oper) (x y:Oper):Bool:=
 (match x.dst with|some d=> !(readsV ops y).contains d&&(y.dst !=some d)|none=>true)&&
 (match y.dst with|some d=> !(readsV ops x).contains d|none=>true)&&
 !(isS x.op&&(isS y.op||isA y.op))&& !(isS y.op&&isA x.op)&& !isG x.op&& !isG y.op
def clash (x y:Op):Bool:=isS x&&isL y||isS y&&isL x
def ptrSlot:Op->Option Nat
 | .load _ (.tmp k)=>some k
 | .store _ (.tmp k) _=>some k
 |_=>none
section
variable {E:Env} {ops:Array Oper}
variable {st st':St}
theorem zH {x:Operand} (h:∀t,x= .tmp t->st.t t=st'.t t):ev E st x=ev E st' x:=by
 cases x with
 |tmp t=>exact h t rfl
 |_=>rfl
theorem lF {l:List Operand} {t:Nat}:t∈s8 l↔Operand.tmp t∈l:=by
 unfold s8;rw[List.mem_filterMap];constructor
 . rintro⟨x,hx,h⟩;cases x<;>simp at h;subst h;exact hx
 . intro h;exact⟨_,h,rfl⟩
variable {op:Op} {e':Operand->V}
theorem gz {e:Operand->V} (hp:plainOp op=true) (h:∀x∈op.operands.toList,e x=e' x):aH E op e=aH E op e':=by
 cases op with
 |move x=>exact RB some (h x (by simp[Op.operands]))
 |assign x=>exact RB some (h x (by simp[Op.operands]))
 |nilCheck x=>simp only[aH,h x (by simp[Op.operands])]
 |pick c x y=>simp only[aH,h c (by simp[Op.operands]),h x (by simp[Op.operands]),h y (by simp[Op.operands])]
 |binOp op t x y yt=>simp only[aH,h x (by simp[Op.operands]),h y (by simp[Op.operands])]
 |unOp op t x=>cases op<;>simp only[aH,h x (by simp[Op.operands])]
 |convert s d x=>simp only[aH,h x (by simp[Op.operands])]
 |fieldAddr t x f=>simp only[aH,h x (by simp[Op.operands])]
 |field t x f=>simp only[aH,h x (by simp[Op.operands])]
 |extract x i=>simp only[aH,h x (by simp[Op.operands])]
 |build t parts=>simp only[aH];congr 1;refine RR (fun p hpm=>?_);rw[h p.2 (by simp only[Op.operands,Qi];exact⟨p,hpm,rfl⟩)]
 |indexAddr t x ix=>simp only[aH,h x (by simp[Op.operands]),h ix (by simp[Op.operands])]
 |index t x ix=>simp only[aH,h x (by simp[Op.operands]),h ix (by simp[Op.operands])]
 | slice t x lo hi mx=>
   have hb:∀d,cy e d lo=cy e' d lo:=fun d=>by
    cases lo with
    |none=>rfl
    |some y=>simp only[cy,h y (by simp[Op.operands])]
   have hb':∀d,cy e d hi=cy e' d hi:=fun d=>by
    cases hi with
    |none=>rfl
    |some y=>simp only[cy,h y (by simp[Op.operands])]
   cases mx with
   |none=>simp only[aH,h x (by simp[Op.operands]),hb,hb']
   |some y=>rfl
 |load t x=>rfl
 |buildSlice t n p=>rfl
 |store t x y=>rfl
 |alloc t=>rfl
 |box t x=>rfl
 | call c=>
   obtain⟨callee,args,ts⟩:=c;cases callee with
   |value f=>rfl
   |invoke r s=>rfl
   | builtin b=>
     cases b<;>first|(simp[plainOp] at hp;done)|skip
     simp only[aH];split
     . rename_i x t hx ht;have:e x=e' x:=h x (by simp[Op.operands,Call.operands,hx]);rw[this]
     . rfl
 |_=>simp[plainOp] at hp
variable {u:V} {s:Nat}
theorem vJ {r:Option V} (h:np r=some u) (hs:u.nm=some s):False:=by have:=(en h).2;cases u<;>first|(simp[V.notPtr] at this;done)|cases hs
theorem lG {e:Operand->V} (hp:plainOp op=true) {s:Nat} {u:V} (h:aH E op e=some u) (hs:u.nm=some s):∃x∈op.operands.toList,(e x).nm=some s:=by
 cases op with
 |move x=>exact⟨x,by simp[Op.operands],by cases h;exact hs⟩
 |assign x=>exact⟨x,by simp[Op.operands],by cases h;exact hs⟩
 | nilCheck x=>
   simp only[aH] at h;split at h
   . rename_i hx;cases h;exact⟨x,by simp[Op.operands],by rw[hx];exact hs⟩
   . cases h;cases hs
   . cases h
 | pick c x y=>
   simp only[aH] at h;split at h
   . rename_i t ht;have h:=QE h;subst h;cases t
     . refine⟨y,by simp[Op.operands],?_⟩;unfold px at hs;split at hs
       . cases hs
       . simpa using hs
     . refine⟨x,by simp[Op.operands],?_⟩;unfold px at hs;split at hs
       . cases hs
       . simpa using hs
   . simp at h
 | fieldAddr t x f=>
   simp only[aH] at h
   repeat' split at h
   all_goals first
    |(cases h;done)
    |(cases h;cases hs;done)
    |skip
   rename_i hx;cases h;exact⟨x,by simp[Op.operands],by rw[hx];exact hs⟩
 | extract x i=>
   simp only[aH] at h;split at h
   . exact(vJ h hs).elim
   . simp at h
 | field t x f=>
   simp only[aH] at h;split at h
   . obtain⟨fd,_,h⟩:=QG.1 h;exact(vJ h hs).elim
   . simp at h
 | binOp op t x y yt=>
   simp only[aH,sB] at h;exfalso;split at h
   . split at h
     . split at h<;>cases h<;>cases hs
     . split at h<;>cases h<;>cases hs
     . split at h
       . simp only[sw] at h;split at h<;>(try split at h)<;>cases h<;>cases hs
       . simp at h
   . simp only[sA,zs] at h;split at h<;>(try split at h)<;>cases h<;>cases hs
   . split at h<;>cases h<;>cases hs
   . split at h
     . simp at h
     . split at h<;>cases h<;>cases hs
   . split at h<;>(try split at h)<;>cases h<;>cases hs
   . split at h<;>cases h<;>cases hs
   . split at h<;>cases h<;>cases hs
   . split at h<;>cases h<;>cases hs
   . split at h<;>(try split at h)<;>cases h<;>cases hs
   . simp at h
 |unOp op t x=>cases op<;>simp only[aH] at h<;>(try split at h)<;>cases h<;>cases hs
 | convert s d x=>
   simp only[aH] at h;exfalso
   repeat' split at h
   all_goals (cases h<;>cases hs)
 |buildSlice t n p=>simp[aH] at h
 | build t parts=>
   simp only[aH,jL] at h;exfalso
   repeat' split at h
   all_goals (cases h<;>cases hs)
 | indexAddr t x ix=>
   simp only[aH] at h;split at h
   . split at h
     . obtain⟨v,_,rfl⟩:=PK.1 h;cases hs
     . cases h
   . rename_i hx _;split at h
     . cases h;exact⟨x,by simp[Op.operands],by rw[hx];exact hs⟩
     . cases h
   . cases h
 | index t x ix=>
   simp only[aH] at h;exfalso
   repeat' split at h
   all_goals (cases h<;>cases hs)
 | slice t x lo hi mx=>
   cases mx with
   | none=>
     simp only[aH] at h;split at h
     . exfalso
       repeat' split at h
       all_goals (cases h<;>cases hs)
     . exfalso
       repeat' split at h
       all_goals (cases h<;>cases hs)
     . rename_i hx;split at h
       . split at h
         . cases h;exact⟨x,by simp[Op.operands],by rw[hx];exact hs⟩
         . cases h
       . cases h
     . cases h
   |some y=>simp[aH] at h
 |load t x=>simp[aH] at h
 |store t x y=>simp[aH] at h
 |alloc t=>simp[aH] at h
 |box t x=>simp[aH] at h
 | call c=>
   obtain⟨callee,args,ts⟩:=c;cases callee with
   |value f=>simp[aH] at h
   |invoke r s=>simp[aH] at h
   | builtin b=>
     exfalso;cases b<;>first|(simp[plainOp] at hp;done)|skip
     simp only[aH] at h
     repeat' split at h
     all_goals (cases h<;>cases hs)
 |_=>simp[plainOp] at hp
end
inductive Deed where
 |put (u:V)
 |new (cs:List V)
 |store (s off:Nat) (us:List V)
def lH (E:Env) (t:TypeId) (p u:V):Option Deed:=
 match p with
 | .ptr s off=>if u.dat=true∧u.cells.all V.cell=true∧bg E.P t=some u.cells.length then some (.store s off u.cells) else none
 |_=>none
noncomputable def cU (E:Env) (ops:Array Oper) (o:Oper) (st:St):Option Deed:=
 match bM ops st.t o.guard with
 | some b=>if b=true then
  match o.op with
  | .alloc t=>(aE E.P t).map .new
  | .box _ x=>if (ev E st x).bare.dat=true then some (.new (ev E st x).bare.cells) else none
  | .store t p x=>if o.dst.isNone=true then lH E t (ev E st p) (ev E st x).bare else none
  |op=>(dU E op (ev E st) st.b).map fun u=> .put (cK op u)
   else some (.put (.x (.tuple #[])))
 |none=>none
noncomputable def iw (d:Option Tmp) (st:St):Deed->Option St
 | .put u=>some (st.put d u)
 | .new cs=>eL st d cs
 | .store s off us=>match st.b s with
   |some cs=>if off+us.length<=cs.length then some ⟨st.t,aw st.b s (some (cs.take off++us++cs.drop (off+us.length)))⟩ else none
   |none=>none
section
variable {E:Env} {ops:Array Oper}
def _root_.Go.Proofs.Ytldnpcolhdnkdaa.Env.Pl (E:Env):Prop:=(∀d,E.own d=false)∧((∀f,E.FP f=none∧E.FM f=none)∧∀f lb,E.X f lb=none)∧(∀s,E.MB s=false)∧∀d,E.fz d=false
theorem Pl.eff (h:E.Pl) (u:V):gg E u=none:=by
 unfold gg;split
 . exact h.2.1.2 _ _
 . rfl
theorem Pl.okN (h:E.Pl) (d:Option Nat) (cs:List V):E.okN d cs=true:=by
 unfold Env.okN;cases d with
 |none=>rfl
 |some s=>simp[h.2.2.1]
theorem Pl.okS (h:E.Pl) (s:Nat) (u:V):E.okS s u=true:=by simp[Env.okS,h.2.2.1]
theorem Pl.kept (h:E.Pl) (s:Nat) (u:V):E.kept s u=u.bare:=by simp[Env.kept,h.2.2.1]
theorem Pl.keepL (h:E.Pl) (p u:V):E.keepL p u=u.bare:=by unfold Env.keepL Env.isMB;cases p<;>simp[h.2.2.1]
theorem Pl.exec (h:E.Pl) (o:Oper) (st:St):dc E o st=ee E o st:=by
 unfold dc;have:E.fzO o.dst=false:=by cases o.dst<;>first|rfl|exact h.2.2.2 _
 rw[this]
theorem eH (hM :E.Pl) (o:Oper) (hp:plainOp o.op=true) (st:St):ii E ops o st=(cU E ops o st).bind (iw o.dst st):=by
 obtain⟨d,op,ty,pos,af,g⟩:=o;unfold ii cU;simp only;cases bM ops st.t g with
 |none=>rfl
 | some b=>
   cases b with
   |false=>rfl
   | true=>
     simp only[Qt];cases op with
     |alloc t=>simp only[Pl.exec hM,ee,Pl.okN hM,Qt];cases aE E.P t<;>rfl
     |box t x=>simp only[Pl.exec hM,ee,Pl.okN hM,RE];split<;>rfl
     | load t p=>
       simp only[Pl.exec hM,ee,Pl.keepL hM,dU];generalize np (jc E st.b t (ev E st p))=r;cases r with
       |none=>rfl
       |some u=>have:cK (.load t p) u=u.bare:=cT _ _;simp only[Qd,QQ,this];rfl
     | store t p x=>
       simp only[Pl.exec hM,ee];split
       . generalize ev E st p=q;generalize ev E st x=u;cases q with
         | ptr s off=>
           simp only[lu,lH,Pl.okS hM,Pl.kept hM,RU];generalize u.bare=u;cases hcs:st.b s with
           | none=>
             simp only;by_cases h:u.dat=true∧u.cells.all V.cell=true∧bg E.P t=some u.cells.length
             . rw[PO h];simp only[QQ,iw,hcs]
             . rw[PS h];rfl
           | some cs=>
             simp only;by_cases h:u.dat=true∧u.cells.all V.cell=true∧bg E.P t=some u.cells.length
             . rw[PO h];simp only[QQ,iw,hcs];by_cases h2:off+u.cells.length<=cs.length
               . rw[PO h2,PO ⟨h.1,h.2.1,h.2.2,h2⟩]
               . rw[PS h2,PS (fun hh=>h2 hh.2.2.2)]
             . rw[PS h,PS (fun hh=>h ⟨hh.1,hh.2.1,hh.2.2.1⟩)];rfl
         |_=>rfl
       . rfl
     |makeMap t r=>simp[plainOp] at hp
     |mapUpdate t x k v=>simp[plainOp] at hp
     |lookup t x k ok=>simp[plainOp] at hp
     |makeSlice t l c=>simp[plainOp] at hp
     |buildSlice t l c=>simp only[Pl.exec hM,ee,hM.1];generalize dU E _ (ev E st) st.b=r;cases r<;>rfl
     |convert t1 t2 x=>simp only[Pl.exec hM,ee,hM.1];generalize dU E _ (ev E st) st.b=r;cases r<;>rfl
     | call c=>
       obtain⟨callee,args,ts⟩:=c;cases callee with
       | value f=>
         simp only[Pl.exec hM,ee,Pl.eff hM];cases hf:sJ (ev E st f) with
         |none=>simp only[dU,hf];rfl
         |some g=>simp only[(hM.2.1.1 _).1,(hM.2.1.1 _).2];generalize dU E _ (ev E st) st.b=r;cases r<;>rfl
       |invoke r s=>simp[plainOp] at hp
       |builtin b=>cases b<;>first|(simp[plainOp] at hp;done)|(simp only[Pl.exec hM,ee];generalize dU E _ (ev E st) st.b=r;cases r<;>rfl)
     |_=>simp only[Pl.exec hM,ee];generalize dU E _ (ev E st) st.b=r;cases r<;>rfl
variable {op:Op} {e':Operand->V} {b:Nat->Option (List V)}
theorem s9 {e:Operand->V} {b':Nat->Option (List V)} (hp:plainOp op=true) (h:∀x∈op.operands.toList,e x=e' x)
 (hb:isL op=true->∀x∈op.operands.toList,∀s off,e x= .ptr s off->b s=b' s):dU E op e b=dU E op e' b':=by
 cases op with
 | load t p=>
   simp only[dU];rw[<-h p (by simp[Op.operands])];congr 1;have:=hb rfl p (by simp[Op.operands]);unfold jc;split
   . rename_i s off hpv;rw[this s off hpv]
   . rfl
   . rfl
 | call c=>
   obtain⟨callee,args,ts⟩:=c;cases callee with
   | value f=>
     simp only[dU];have:(args.toList.map fun x=>(e x).bare)=args.toList.map fun x=>(e' x).bare:=RR (fun x hx=>by rw[h x (by simp[Op.operands,Call.operands,R3.1 hx])])
     rw[this,h f (by simp[Op.operands,Call.operands])]
   |invoke r s=>exact gz (E:=E) hp h
   |builtin bb=>exact gz (E:=E) hp h
 |buildSlice t n parts=>simp only[dU];congr 1;refine RR (fun p hpm=>?_);rw[h p.2 (by simp only[Op.operands,Qi];exact⟨p,hpm,rfl⟩)]
 |_=>exact gz (E:=E) hp h
theorem DD {e:Operand->V} (hp:plainOp op=true) {s:Nat} {u:V} (h:dU E op e b=some u) (hs:u.nm=some s):∃x∈op.operands.toList,(e x).nm=some s:=by
 cases op with
 |load t p=>exact(vJ h hs).elim
 | call c=>
   obtain⟨callee,args,ts⟩:=c;cases callee with
   | value f=>
     simp only[dU] at h;split at h
     . split at h
       . split at h
         . exact(vJ h hs).elim
         . simp at h
       . simp at h
     . simp at h
   |invoke r s=>exact lG (E:=E) hp h hs
   |builtin bb=>exact lG (E:=E) hp h hs
 | buildSlice t n parts=>
   simp only[dU,zu] at h;exfalso
   repeat' split at h
   all_goals (cases h<;>cases hs)
 |_=>exact lG (E:=E) hp h hs
variable {u:V} {s:Nat}
theorem DE (h:(cK op u).nm=some s):u.nm=some s:=by
 rw[cT] at h;cases hm:gp op<;>rw[hm] at h
 . simp only[cond_false,aX] at h;cases u<;>first|exact h|cases h
 . exact h
structure Agree (ops:Array Oper) (E:Env) (o:Oper) (st st':St):Prop where
 t:∀k∈readsV ops o,st.t k=st'.t k
 b:isL o.op=true->∀x∈o.op.operands.toList,∀s off,ev E st x= .ptr s off->st.b s=st'.b s
variable {o:Oper}
theorem kD (hp:plainOp o.op=true) {st st':St} (h:Agree ops E o st st'):cU E ops o st=cU E ops o st':=by
 have hg:bM ops st.t o.guard=bM ops st'.t o.guard:=by
  cases hgd:o.guard with
  |none=>rfl
  | some g=>
    obtain⟨j,want⟩:=g;unfold bM;simp only;split
    . rename_i d hd;have:st.t d=st'.t d:=h.t d (by simp[readsV,hgd,hd]);rw[this]
    . rfl
 have he:∀x∈o.op.operands.toList,ev E st x=ev E st' x:=fun x hx=>zH (fun t ht=>h.t t (by subst ht;simp only[readsV,PU];exact .inl (lF.2 hx)))
 have hb:=h.b;clear h;obtain⟨d,op,ty,pos,af,g⟩:=o;unfold cU;simp only at hg he hb hp⊢;rw[hg];cases bM ops st'.t g with
 |none=>rfl
 | some b=>
   cases b with
   |false=>rfl
   | true=>
     simp only[Qt];cases op with
     |alloc t=>rfl
     |box t x=>simp only[he x (by simp[Op.operands])]
     |store t p x=>simp only[he x (by simp[Op.operands]),he p (by simp[Op.operands])]
     |_=>simp only;rw[s9 hp he hb]
theorem gA {α:Type} (f:Nat->α) {i j:Nat} (u v:α) (h:i≠j):aw (aw f i u) j v=aw (aw f j v) i u:=by funext k;simp only[aD];by_cases h1:k=j<;>by_cases h2:k=i<;>simp_all
theorem pW (st:St) (d:Option Tmp) (u:V) (k:Nat):(st.put d u).t k=if d=some k then u else st.t k:=by
 cases d with
 |none=>simp[St.put]
 | some i=>
   simp only[St.put,aD,QW];by_cases h:k=i
   . subst h;simp
   . rw[PS h,PS (QT h)]
theorem zI (st:St) (d:Option Tmp) (u:V):(st.put d u).b=st.b:=by cases d<;>rfl
theorem zJ (st:St) {d1 d2:Option Tmp} (u v:V) (h:∀d,d1=some d->d2≠some d):(st.put d1 u).put d2 v=(st.put d2 v).put d1 u:=by
 cases d1 with
 |none=>cases d2<;>rfl
 | some i=>cases d2 with
   |none=>rfl
   |some j=>simp only[St.put];rw[gA _ _ _ (fun e=>h i rfl (by rw[e]))]
def Deed.isNew:Deed->Bool| .new _=>true|_=>false
def Deed.isStore:Deed->Bool| .store .. =>true|_=>false
variable {st st1:St}
theorem zK {st2:St} {x y:Deed} {d1 d2:Option Tmp} (hd:∀d,d1=some d->d2≠some d) (h1:iw d1 st x=some st1) (h2:iw d2 st1 y=some st2)
 (hs:x.isStore=true->∃u,y= .put u) (hs':y.isStore=true->∃u,x= .put u)
 (hf:y.isNew=true->∀d,d2=some d->noPtrTo d st.t) (hu:∀d u,d1=some d->x.isNew=true->y= .put u->u.nm≠some d):
 ∃st1',iw d2 st y=some st1'∧iw d1 st1' x=some st2:=by
 cases x with
 | put u =>
   cases h1;cases y with
   |put v=>cases h2;exact⟨_,rfl,by rw[zJ st u v hd];rfl⟩
   | new cs=>
     cases d2 with
     |none=>simp[iw,eL] at h2
     | some s=>
       have hn:=hf rfl s rfl;simp only[iw,eL] at h2;split at h2
       . cases h2;refine⟨_,by simp only[iw,eL];rw[PO hn],?_⟩;have hne:∀d,d1=some d->d≠s:=fun d h e=>hd d h (by rw[e])
         cases d1 with
         |none=>rfl
         |some d=>simp only[iw,St.put];rw[gA _ _ _ (hne d rfl)]
       . simp at h2
   | store s off us=>
     simp only[iw,zI] at h2⊢;split at h2
     . rename_i cs hcs;split at h2
       . rename_i hle;cases h2;rw[PO hle];refine⟨_,rfl,?_⟩;cases d1<;>rfl
       . simp at h2
     . simp at h2
 | new cs =>
   cases d1 with
   |none=>simp[iw,eL] at h1
   | some s=>
     simp only[iw,eL] at h1;split at h1
     . rename_i hn;cases h1;cases y with
       | put v=>
         cases h2;refine⟨_,rfl,?_⟩;have hn':noPtrTo s (st.put d2 v).t:=by
          intro i;rw[pW];split
          . exact hu s v rfl rfl rfl
          . exact hn i
         simp only[iw,eL];rw[PO hn'];cases d2 with
         |none=>rfl
         |some d=>simp only[St.put];rw[gA _ _ _ (fun e=>hd s rfl (by rw[e]))]
       | new cs'=>
         cases d2 with
         |none=>simp[iw,eL] at h2
         | some s'=>
           have hne:s≠s':=fun e=>hd s rfl (by rw[e])
           simp only[iw,eL] at h2;split at h2
           . cases h2;refine⟨_,by simp only[iw,eL];rw[PO (hf rfl s' rfl)],?_⟩;have hn':noPtrTo s (aw st.t s' (.ptr s' 0)):=by
              intro i;rw[aD];split
              . intro e;cases e;exact hne rfl
              . exact hn i
             simp only[iw,eL];rw[PO hn',gA _ _ _ hne,gA _ _ _ hne]
           . simp at h2
       |store s' off us=>obtain⟨u,hu⟩:=hs' rfl;cases hu
     . simp at h1
 | store s off us=>
   obtain⟨v,rfl⟩:=hs rfl;cases h2;refine⟨_,rfl,?_⟩;simp only[iw,zI] at h1⊢;split at h1
   . rename_i cs hcs;split at h1
     . rename_i hle;cases h1;rw[PO hle];cases d2<;>rfl
     . simp at h1
   . simp at h1
end
section
variable {E:Env} {ops:Array Oper}
variable {o:Oper} {st:St}
theorem nD {cs:List V} (h:cU E ops o st=some (.new cs)):isA o.op=true:=by
 obtain⟨d,op,ty,pos,af,g⟩:=o;unfold cU at h;simp only at h;cases hg:bM ops st.t g with
 |none=>simp[hg] at h
 | some b=>
   rw[hg] at h;cases b with
   |false=>simp at h
   | true=>
     simp only[Qt] at h;cases op<;>first|rfl|skip
     all_goals first
      |(simp at h;done)
      |(simp only[lH] at h;split at h<;>(try split at h)<;>(try split at h)<;>simp at h)
variable {s off:Nat} {us:List V}
theorem dY (h:cU E ops o st=some (.store s off us)):isS o.op=true:=by
 obtain⟨d,op,ty,pos,af,g⟩:=o;unfold cU at h;simp only at h;cases hg:bM ops st.t g with
 |none=>simp[hg] at h
 | some b=>
   rw[hg] at h;cases b with
   |false=>simp at h
   | true=>
     simp only[Qt] at h;cases op<;>first|rfl|skip
     all_goals first
      |(simp at h;done)
      |(split at h<;>simp at h)
theorem vK (hG:∀g,(E.G g).nm=none) {st:St} {x:Operand} {s:Nat} (h:(ev E st x).nm=some s):∃k,x= .tmp k∧(st.t k).nm=some s:=by
 cases x with
 |tmp k=>exact⟨k,rfl,h⟩
 |const v=>simp only[ev,dy] at h;split at h<;>simp at h
 |global g=>have hg:=hG g;simp only[ev,aX] at h;generalize E.G g=u at h hg;cases u<;>first|(cases hg;done)|cases h
 |func f=>simp[ev] at h
theorem pX (hG:∀g,(E.G g).nm=none) {o:Oper} (hp:plainOp o.op=true) {st:St} {s:Nat} {u:V} (h:cU E ops o st=some (.put u)) (hs:u.nm=some s):∃k,(st.t k).nm=some s:=by
 obtain⟨d,op,ty,pos,af,g⟩:=o;unfold cU at h;simp only at h hp;cases hg:bM ops st.t g with
 |none=>simp[hg] at h
 | some b=>
   rw[hg] at h;cases b with
   |false=>simp at h;subst h;cases hs
   | true=>
     simp only[Qt] at h;have hv:∀{op':Op},plainOp op'=true->((dU E op' (ev E st) st.b).map fun u=>Deed.put (cK op' u))=some (.put u)->∃k,(st.t k).nm=some s:=by intro op' hp' h';obtain⟨u',hu,he⟩:=PK.1 h';have hk:=Deed.put.inj he;subst hk;obtain⟨x,_,hx⟩:=DD hp' hu (DE hs);obtain⟨k,_,hk⟩:=vK hG hx;exact⟨k,hk⟩
     cases op with
     |alloc t=>cases hz:aE E.P t<;>simp[hz] at h
     |box t x=>simp only at h;split at h<;>simp at h
     |store t p x=>simp only[lH] at h;split at h<;>(try split at h)<;>(try split at h)<;>simp at h
     |_=>exact hv hp h
theorem pY (hG:∀g,(E.G g).nm=none) {x y:Oper} {st st1:St} {a:Deed} (hdo:iw x.dst st a=some st1) (ha:cU E ops x st=some a)
 (hr:∀d,x.dst=some d->d∉readsV ops y) (hs:∀s off us,a= .store s off us->isL y.op=true->∀z∈y.op.operands.toList,∀o',ev E st z≠ .ptr s o') (hnew:isL y.op=true->a.isNew=true->∀d,x.dst=some d->noPtrTo d st.t):Agree ops E y st st1:=by
 cases a with
 |put u=>cases hdo;refine⟨fun k hk=>?_,fun _ _ _ s off _=>by rw[zI]⟩;rw[pW,PS (fun h=>hr k h hk)]
 | new cs=>
   cases hdst:x.dst with
   |none=>simp[hdst,iw,eL] at hdo
   | some d=>
     simp only[hdst,iw,eL] at hdo;split at hdo
     . cases hdo;refine⟨fun k hk=>?_,fun hl z hz s off hzv=>?_⟩
       . have hne:k≠d:=fun e=>hr d hdst (e▸hk)
         simp only;rw[ae _ _ hne]
       . obtain⟨k,_,hk⟩:=vK hG (show(ev E st z).nm=some s by rw[hzv];rfl);have hne:s≠d:=fun e=>hnew hl rfl d hdst k (e▸hk)
         simp only;rw[ae _ _ hne]
     . simp at hdo
 | store s off us=>
   simp only[iw] at hdo;split at hdo
   . split at hdo
     . cases hdo;refine⟨fun _ _=>rfl,fun hl z hz s' o' hzv=>?_⟩;have hne:s'≠s:=fun e=>hs s off us rfl hl z hz o' (e▸hzv)
       simp only;rw[ae _ _ hne]
     . simp at hdo
   . simp at hdo
variable {d:Option Tmp} {st1:St}
theorem nE {a:Deed} (hdo:iw d st a=some st1) (hn:a.isNew=true):∀k,d=some k->noPtrTo k st.t:=by
 intro k hk;cases a with
 | new cs=>
   simp only[hk,iw,eL] at hdo;split at hdo
   . assumption
   . simp at hdo
 |_=>simp[Deed.isNew] at hn
theorem IJ (hM:E.Pl) (hG:∀g,(E.G g).nm=none) {x y:Oper} (hx:plainOp x.op=true) (hy:plainOp y.op=true) (hi:indepV ops x y=true) {st st1 st2:St}
 (hap:∀s off us,cU E ops x st=some (.store s off us)->isL y.op=true->∀z∈y.op.operands.toList,∀o',ev E st z≠ .ptr s o')
 (hap':∀s off us,cU E ops y st=some (.store s off us)->isL x.op=true->∀z∈x.op.operands.toList,∀o',ev E st z≠ .ptr s o')
 (hf:isA y.op=true->∀d,y.dst=some d->noPtrTo d st.t) (h1:ii E ops x st=some st1) (h2:ii E ops y st1=some st2):
 ∃st1',ii E ops y st=some st1'∧ii E ops x st1'=some st2:=by
 simp only[indepV,PG,Qx] at hi;obtain⟨⟨⟨⟨⟨hi1,hi2⟩,hi3⟩,hi4⟩,_⟩,_⟩:=hi;rw[eH hM _ hx] at h1;rw[eH hM _ hy] at h2;obtain⟨a,ha,hda⟩:=QG.1 h1;obtain⟨c,hc,hdc⟩:=QG.1 h2;have hxr:∀d,x.dst=some d->d∉readsV ops y∧y.dst≠some d:=by intro d hd;rw[hd] at hi1;simp at hi1;exact hi1
 have hyr:∀d,y.dst=some d->d∉readsV ops x:=by intro d hd;rw[hd] at hi2;simpa using hi2
 have hSL:isS x.op=true->isS y.op=false∧isA y.op=false:=by intro h;rw[h] at hi3;simpa using hi3
 have hSL':isS y.op=true->isS x.op=false∧isA x.op=false:=by
  intro h;rw[h] at hi4;refine⟨?_,by simpa using hi4⟩;cases hsx:isS x.op with
  |false=>rfl
  |true=>have:=(hSL hsx).1;rw[h] at this;cases this
 have hagr:Agree ops E y st st1:=pY hG hda ha (fun d hd=>(hxr d hd).1) (fun s off us e=>hap s off us (e▸ha)) (fun _ hn=>nE hda hn);have hcy:cU E ops y st=some c:=by rw[kD hy hagr];exact hc
 have hput:∀{o:Oper} {s:St} {e:Deed},cU E ops o s=some e->isS o.op=false->isA o.op=false->∃u,e= .put u:=by
  intro o s e he h1 h2;cases e with
  |put u=>exact⟨u,rfl⟩
  |new cs=>rw[nD he] at h2;cases h2
  |store s off us=>rw[dY he] at h1;cases h1
 have hst:∀{o:Oper} {s:St} {e:Deed},cU E ops o s=some e->e.isStore=true->isS o.op=true:=by
  intro o s e he h;cases e with
  |store s off us=>exact dY he
  |_=>simp[Deed.isStore] at h
 have hnw:∀{o:Oper} {s:St} {e:Deed},cU E ops o s=some e->e.isNew=true->isA o.op=true:=by
  intro o s e he h;cases e with
  |new cs=>exact nD he
  |_=>simp[Deed.isNew] at h
 obtain⟨st1',hdc',hda'⟩:=zK (fun d hd=>(hxr d hd).2) hda hdc
  (fun h=>have:=hSL (hst ha h);hput hc this.1 this.2)
  (fun h=>have:=hSL' (hst hc h);hput ha this.1 this.2)
  (fun h=>hf (hnw hc h))
  (fun d u hd hn hcu hu=>by subst hcu;obtain⟨k,hk⟩:=pX hG hy hcy hu;exact nE hda hn d hd k hk)
 refine⟨st1',by rw[eH hM _ hy,hcy];exact hdc',?_⟩;have hagr':Agree ops E x st st1':=pY hG hdc' hcy hyr (fun s off us e=>hap' s off us (e▸hcy)) (fun _ hn=>hf (hnw hcy hn));rw[eH hM _ hx,<-kD hx hagr',ha];exact hda'
end
def directV (o:Oper):List Nat:=(o.after.toList.filter (Region.binds .any)).map (·.on)
def jQ:List Nat->Nat
 |[]=>0
 |k::l=>2^k|||jQ l
def gX (M:List Nat):List Nat->Nat
 |[]=>0
 |k::l=>(2^k|||M.getD k 0)|||gX M l
def pZ (acc:List Nat):List Oper->List Nat
 |[]=>acc
 |o::l=>pZ (acc++[gX acc (directV o)]) l
structure OpI where
 d:Option Nat
 r:Nat
 s:Bool
 l:Bool
 a:Bool
 g:Bool
 p:Option Nat
def bc (ops:Array Oper) (o:Oper):OpI:=⟨o.dst,jQ (readsV ops o),isS o.op,isL o.op,isA o.op,isG o.op,ptrSlot o.op⟩
def GB (d:Option Nat) (r:Nat):Bool:=match d with
 |some d=>r.testBit d
 |none=>false
def kE (d e:Option Nat):Bool:=match d,e with
 |some d,some e=>d==e
 |_,_=>false
def oH (x y:OpI):Bool:= !GB x.d y.r&& !kE x.d y.d&& !GB y.d x.r&& !(x.s&&(y.s||y.a))&& !(y.s&&x.a)&& !x.g&& !y.g
def vL (M:List Nat) (i:Nat) (o:Oper):Bool:=(directV o).all (fun k=>decide (k<i))&&Nat.beq (M.getD i 0) (gX M (directV o))
def zM (I:List OpI) (m i:Nat) (y:OpI):Bool:=
 I.zipIdx.all fun(x,j)=>(Nat.ble i j||m.testBit j||(oH x y&&(!(x.s&&y.l||y.s&&x.l)||I.all fun z=> !z.g)))&&(Nat.beq j i|| !y.a|| !kE x.d y.d)&&(!Nat.ble i j|| !kE x.d y.p)
def vM (M:List Nat) (I:List OpI):List Oper->List OpI->Nat->Bool
 |o::l,y::J,i=>(plainOp o.op||isG o.op)&&vL M i o&&(o.dst.isSome|| !isA o.op)&&zM I (M.getD i 0) i y&&vM M I l J (i+1)
 |_,_,_=>true
def oI (ops:Array Oper):Bool:=vM (pZ [] ops.toList) (ops.toList.map (bc ops)) ops.toList (ops.toList.map (bc ops)) 0
structure DrawP (ops:Array Oper) (A:Nat->Nat->Bool):Prop where
 lt:∀(i:Nat) (o:Oper),ops[i]?=some o->∀k∈directV o,k<i
 anc:∀(i:Nat) (o:Oper) (j:Nat),ops[i]?=some o->A i j=true->j∈directV o∨∃k∈directV o,A k j=true
 plain:∀(i:Nat) (o:Oper),ops[i]?=some o->(plainOp o.op||isG o.op)=true
 pair:∀(i:Nat) (o:Oper) (j:Nat) (x:Oper),ops[i]?=some o->ops[j]?=some x->i<=j∨A i j=true∨(indepV ops x o=true∧(clash x.op o.op=true->∀(k:Nat) (y:Oper),ops[k]?=some y->isG y.op=false))
 late:∀(i:Nat) (o:Oper) (j:Nat) (x:Oper),ops[i]?=some o->ops[j]?=some x->i<=j->∀k,ptrSlot o.op=some k->x.dst≠some k
 dst:∀(i:Nat) (o:Oper) (j:Nat) (x:Oper),ops[i]?=some o->ops[j]?=some x->j≠i->isA o.op=true->x.dst≠o.dst
theorem kF (k j:Nat):(2^k).testBit j=decide (k=j):=Rh
theorem lI (l:List Nat) (j:Nat):(jQ l).testBit j=l.contains j:=by
 induction l with
 |nil=>simp[jQ]
 |cons k l ih=>simp only[jQ,Rv,ih,kF,List.contains_cons];congr 1;rw[RL];simp only[Qa,beq_iff_eq];exact eq_comm
theorem qa (M:List Nat) (l:List Nat) (j:Nat):(gX M l).testBit j=true->j∈l∨∃k∈l,(M.getD k 0).testBit j=true:=by
 induction l with
 |nil=>simp[gX]
 | cons k l ih=>
   simp only[gX,Rv,kF,QO,Qa];rintro((h|h)|h)
   . exact .inl (by simp[h])
   . exact .inr ⟨k,by simp,h⟩
   . rcases ih h with h|⟨k',hk,h⟩
     . exact .inl (by simp[h])
     . exact .inr ⟨k',by simp[hk],h⟩
theorem wO (d:Option Nat) (l:List Nat):GB d (jQ l)=match d with|some d=>l.contains d|none=>false:=by
 cases d with
 |none=>rfl
 |some d=>exact lI l d
variable {ops:Array Oper}
theorem wP {x y:Oper} (h:oH (bc ops x) (bc ops y)=true):indepV ops x y=true:=by
 simp only[oH,bc,wO,PG,Qx] at h;obtain⟨⟨⟨⟨⟨⟨h1,h2⟩,h3⟩,h4⟩,h5⟩,h6⟩,h7⟩:=h;simp only[indepV,PG,Qx];refine⟨⟨⟨⟨⟨?_,?_⟩,h4⟩,h5⟩,h6⟩,h7⟩
 . cases hx:x.dst with
   |none=>rfl
   | some d=>
     rw[hx] at h1 h2;simp only at h1⊢;rw[h1];cases hy:y.dst with
     |none=>rfl
     |some e=>rw[hy] at h2;simp only[kE,beq_eq_false_iff_ne,ne_eq] at h2;simp[QT h2]
 . cases hy:y.dst with
   |none=>rfl
   |some d=>rw[hy] at h3;simp only at h3⊢;rw[h3];rfl
theorem qb {M:List Nat} {I:List OpI} {ops:Array Oper}:∀(l:List Oper) (k i:Nat) (o:Oper),vM M I l (l.map (bc ops)) k=true->l[i]?=some o->
 (plainOp o.op||isG o.op)=true∧vL M (k+i) o=true∧(o.dst.isSome|| !isA o.op)=true∧zM I (M.getD (k+i) 0) (k+i) (bc ops o)=true
 |[],_,_,_,_,h=>by simp at h
 | o ::l,k,i,x,h,hi=>by
   simp only[QU,vM,PG] at h;obtain⟨⟨⟨⟨h1,h2⟩,h3⟩,h4⟩,h5⟩:=h;cases i with
   |zero=>simp at hi;subst hi;exact⟨h1,h2,h3,h4⟩
   | succ i=>
     have:=qb l (k+1) i x h5 (by simpa using hi)
     rwa [show k+1+i=k+(i+1) from by omega] at this
theorem DF (h:oI ops=true):DrawP ops (fun i j=>((pZ [] ops.toList).getD i 0).testBit j):=by
 have key:∀(i:Nat) (o:Oper),ops[i]?=some o->_:=fun i o hi=>qb (M:=pZ [] ops.toList) (I:=ops.toList.map (bc ops)) (ops:=ops) ops.toList 0 i o h (by simpa using hi)
 simp only[Qn] at key;have pairs:∀(i:Nat) (o:Oper) (j:Nat) (x:Oper),ops[i]?=some o->ops[j]?=some x->((Nat.ble i j||((pZ [] ops.toList).getD i 0).testBit j||(oH (bc ops x) (bc ops o)&&(!((bc ops x).s&&(bc ops o).l||(bc ops o).s&&(bc ops x).l)||(ops.toList.map (bc ops)).all fun z=> !z.g)))&&(Nat.beq j i|| !(bc ops o).a|| !kE (bc ops x).d (bc ops o).d)&&(!Nat.ble i j|| !kE (bc ops x).d (bc ops o).p))=true:=by
  intro i o j x hi hj;have h4:=(key i o hi).2.2.2;have hm:(bc ops x,j)∈(ops.toList.map (bc ops)).zipIdx:=by rw[List.mem_zipIdx_iff_getElem?];simp[hj]
  exact PJ.1 h4 _ hm
 refine⟨fun i o hi k hk=>?_,fun i o j hi hA=>?_,fun i o hi=>(key i o hi).1,fun i o j x hi hj=>?_,fun i o j x hi hj hle k hk=>?_,fun i o j x hi hj hne hA=>?_⟩
 . have h2:=(key i o hi).2.1;simp only[vL,PG] at h2;simpa using PJ.1 h2.1 k hk
 . have h2:=(key i o hi).2.1;simp only[vL,PG] at h2;have he:=Nat.eq_of_beq_eq_true h2.2;rw[he] at hA;exact qa _ _ _ hA
 . have h4:=pairs i o j x hi hj;simp only[PG,QO] at h4;rcases h4.1.1 with(h1|h1)|h1
   . exact .inl (Nat.le_of_ble_eq_true h1)
   . exact .inr (.inl h1)
   . refine .inr (.inr ⟨wP h1.1,fun hc k y hk=>?_⟩);rcases h1.2 with h2|h2
     . have hc:((bc ops x).s&&(bc ops o).l||(bc ops o).s&&(bc ops x).l)=true:=hc;rw[hc] at h2;cases h2
     . have hm:bc ops y∈ops.toList.map (bc ops):=Qi.2 ⟨y,PM (by simpa using hk:ops.toList[k]?=some y),rfl⟩;have:=PJ.1 h2 _ hm;simpa[bc] using this
 . have h4:=pairs i o j x hi hj;simp only[PG,QO] at h4;rcases h4.2 with h1|h1
   . rw[Nat.ble_eq_true_of_le hle] at h1;cases h1
   . intro e;simp[bc,kE,e,hk] at h1
 . have h4:=pairs i o j x hi hj;simp only[PG,QO] at h4;rcases h4.1.2 with(h1|h1)|h1
   . exact absurd (Nat.eq_of_beq_eq_true h1) hne
   . simp[bc,hA] at h1
   . intro e;have hs:=(key i o hi).2.2.1;simp only[hA,Rg,Si] at hs;obtain⟨d,hd⟩:=Sd.1 hs;rw[hd] at e;simp[bc,kE,e,hd] at h1
def ta (u v:V):Prop:=∀s,u.nm=some s->v.nm≠some s
theorem DG (s o s' o':Nat):ta (.ptr s o) (.ptr s' o')= ¬s=s':=by simp[ta,eq_comm]
theorem DH (u:V) (cs:List V):ta u (.ip cs)=True:=by simp[ta]
def IK (x:Oper) (j k:Nat) (t:Nat->V):Nat->List Oper->Prop
 |_,[]=>True
 | i,y::l=>(match y.op with
   | .load _ (.tmp q)=>if ((directV x).contains i||(directV y).contains j)=true then True else ta (t k) (t q)
   |_=>True)∧IK x j k t (i+1) l
def oJ (all:List Oper) (t:Nat->V):Nat->List Oper->Prop
 |_,[]=>True
 | j,x::l=>(match x.op with
   | .store _ (.tmp k) _=>IK x j k t 0 all
   |_=>True)∧oJ all t (j+1) l
def gB (l:List Oper) (t:Nat->V):Prop:=oJ l t 0 l
theorem zN {x:Oper} {j k:Nat} {t:Nat->V}:∀(l:List Oper) (i0 i:Nat) (y:Oper),IK x j k t i0 l->l[i]?=some y->∀(ty:TypeId) (q:Tmp),y.op= .load ty (.tmp q)->(i0+i)∉directV x->j∉directV y->ta (t k) (t q)
 |[],_,_,_,_,hi=>by simp at hi
 | z::l,i0,i,y,h,hi=>by
   intro ty q hy h1 h2;obtain⟨ha,hb⟩:=h;cases i with
   |zero=>simp only[List.getElem?_cons_zero,QW] at hi;subst hi;rw[hy] at ha;simp only at ha;rw[PS (by simp only[QO,Ri,not_or];exact⟨h1,h2⟩)] at ha;exact ha
   |succ i=>exact zN l (i0+1) i y hb (by simpa using hi) ty q hy (by rw[show i0+1+i=i0+(i+1) from by omega];exact h1) h2
theorem nF {all:List Oper} {t:Nat->V}:∀(l:List Oper) (j0 j:Nat) (x:Oper),oJ all t j0 l->l[j]?=some x->∀(ty:TypeId) (k:Tmp) (u:Operand),x.op= .store ty (.tmp k) u->IK x (j0+j) k t 0 all
 |[],_,_,_,_,hj=>by simp at hj
 | z::l,j0,j,x,h,hj=>by
   intro ty k u hx;obtain⟨ha,hb⟩:=h;cases j with
   |zero=>simp only[List.getElem?_cons_zero,QW] at hj;subst hj;rw[hx] at ha;exact ha
   |succ j=>have:=nF l (j0+1) j x hb (by simpa using hj) ty k u hx;rwa [show j0+1+j=j0+(j+1) from by omega] at this
variable {l:List Oper}
theorem zO {t:Nat->V} (h:gB l t) {i j:Nat} {x y:Oper} (hj:l[j]?=some x) (hi:l[i]?=some y) {ty ty':TypeId} {k q:Tmp} {u:Operand} (hx:x.op= .store ty (.tmp k) u) (hy:y.op= .load ty' (.tmp q)) (h1:i∉directV x) (h2:j∉directV y):ta (t k) (t q):=by have:=zN l 0 i y (by have:=nF l 0 j x h hj ty k u hx;rwa [Qn] at this) hi ty' q hy (by rwa [Qn]) h2;exact this
def gC:List Oper->(Nat->V)->Prop
 |[],_=>True
 | o::l,t=>match isA o.op,o.dst with
   |true,some d=>noPtrTo d t∧gC l t
   |_,_=>gC l t
noncomputable def aopsI (E:Env) (ops:Array Oper):List Nat->St->Option St
 |[],st=>some st
 | i ::l,st=>match ops[i]? with
   | some o=>match ii E ops o st with
     |some st'=>aopsI E ops l st'
     |none=>none
   |none=>none
section
variable {E:Env} {ops:Array Oper} {n:Nat} {pm:Pm} {m0 m:Lim} {w0 w:World} {β:Nat->Nat} {st:St} {a:Act}
theorem kG:∀(l:List Oper) (k:Nat) (st:St),(∀j:Nat,ops[k+j]?=l[j]?∨l.length<=j)->ir E ops l st=aopsI E ops (List.range' k l.length) st
 |[],_,_,_=>rfl
 | o ::l,k,st,h=>by
   have h0:ops[k]?=some o:=by
    rcases h 0 with h|h
    . simpa using h
    . simp at h
   simp only[P5,List.range'_succ,ir,aopsI,h0];cases ii E ops o st with
   |none=>rfl
   | some st'=>
     refine kG l (k+1) _ (fun j=>?_);rcases h (j+1) with h|h
     . left;rw[show k+1+j=k+(j+1) from by omega,h];simp
     . right;simpa using h
theorem kH (hM:E.Pl) (hG:∀g,(E.G g).nm=none) {x:Oper} (hx:plainOp x.op=true) {d:Nat} (hd:x.dst≠some d) {st st1:St} (hf:noPtrTo d st.t) (h:ii E ops x st=some st1):noPtrTo d st1.t:=by
 rw[eH hM _ hx] at h;obtain⟨a,ha,hda⟩:=QG.1 h;cases a with
 | put u=>
   cases hda;intro i;rw[pW];split
   . intro hu;obtain⟨k,hk⟩:=pX hG hx ha hu;exact hf k hk
   . exact hf i
 | new cs=>
   cases hdst:x.dst with
   |none=>simp[hdst,iw,eL] at hda
   | some s=>
     simp only[hdst,iw,eL] at hda;split at hda
     . cases hda;intro i;simp only[aD];split
       . intro e;cases e;exact hd hdst
       . exact hf i
     . simp at hda
 | store s off us=>
   simp only[iw] at hda;split at hda
   . split at hda
     . cases hda;exact hf
     . simp at hda
   . simp at hda
theorem ji (k:Nat) (t:Nat->V) (i:Nat):(strip k t i).nm=(t i).nm:=by
 unfold strip;rw[aR];generalize t i=v;cases v<;>try rfl
 rename_i tok;cases tok<;>rfl
theorem wQ (k:Option Nat) (t:Nat->V) (i:Nat):(lk k t i).nm=(t i).nm:=by
 cases k with
 |none=>rfl
 |some k=>exact ji k t i
theorem oK (k:Nat) (t:Nat->V) (i d:Nat) (h:(t i).nm≠some d):(kill k t i).nm≠some d:=by
 unfold kill;rcases i8 k (t i) with⟨e,_⟩|⟨e,_⟩
 . rw[e];exact h
 . rw[e];simp
variable {st1:St}
theorem lJ {d el:Nat} {dst:Option Tmp} {x y:V} (hd:dst≠some d) (hf:noPtrTo d st.t) (h:fq E st dst el x y=some st1):noPtrTo d st1.t:=by
 unfold fq at h;split at h
 . rename_i k n by' z _ _ _;have hne:k≠d:=fun e=>hd (by rw[e])
   split at h
   . split at h
     . cases h;intro i;simp only[aD];split
       . simp
       . rw[wQ,ji];exact hf i
     . cases h
   . split at h
     . cases h;intro i;simp only[aD];split
       . simp
       . simp only[ji];exact hf i
     . cases h
   . split at h
     . split at h
       . cases h;intro i;simp only[aD];split
         . simp[hne]
         . exact oK _ _ _ _ (oK _ _ _ _ (hf i))
       . cases h
     . cases h
   . cases h
 . cases h
theorem tb (hM :E.Pl) (hG:∀g,(E.G g).nm=none) {x:Oper} (hx:(plainOp x.op||isG x.op)=true) {d:Nat} (hd:x.dst≠some d) {st st1:St} (hf:noPtrTo d st.t) (h:ii E ops x st=some st1):noPtrTo d st1.t:=by
 rw[QO] at hx;rcases hx with hx|hx
 . exact kH hM hG hx hd hf h
 . obtain ⟨ds, op,ty,pos,af,g⟩:=x;unfold ii at h;split at h
   . rename_i b _;cases b with
     | false=>
       simp only[P7,Qr] at h;cases h;intro i;rw[pW];split
       . simp
       . exact hf i
     | true=>
       simp only[Qt] at h;simp only at hx hd;cases op with
       | call c=>
         obtain⟨callee,args,ts⟩:=c;cases callee with
         | builtin b=>
           cases b<;>first|(simp[isG] at hx;done)|skip
           rw[Pl.exec hM] at h;simp only[ee] at h;split at h
           . split at h
             . exact lJ hd hf h
             . split at h
               . exact lJ hd hf h
               . cases h
             . cases h
           . cases h
         |_=>simp[isG] at hx
       |_=>simp[isG] at hx
   . cases h
theorem lK (hM:E.Pl) {k:Nat} {fin:St}:∀(is:List Nat) (st:St),aopsI E ops is st=some fin->(∀j∈is,∀x,ops[j]?=some x->plainOp x.op=true∧x.dst≠some k)->fin.t k=st.t k
 |[],st,h,_=>by cases h;rfl
 | j ::is,st,h,hp=>by
   simp only[aopsI] at h;split at h
   . rename_i x hx;split at h
     . rename_i st1 h1;obtain⟨hpx,hd⟩:=hp j (by simp) x hx;rw[lK hM is st1 h (fun i hi=>hp i (by simp[hi]))];rw[eH hM _ hpx] at h1;obtain⟨a,ha,hda⟩:=QG.1 h1;cases a with
       |put u=>cases hda;rw[pW,PS hd]
       | new cs=>
         cases hdst:x.dst with
         |none=>simp[hdst,iw,eL] at hda
         | some s=>
           simp only[hdst,iw,eL] at hda;split at hda
           . cases hda;simp only;rw[ae _ _ (fun e=>hd (by rw[hdst,e]))]
           . simp at hda
       | store s off us=>
         simp only[iw] at hda;split at hda
         . split at hda
           . cases hda;rfl
           . simp at hda
         . simp at hda
     . simp at h
   . simp at h
variable {o:Oper} {s off:Nat} {us:List V}
theorem zP (h:cU E ops o st=some (.store s off us)):∃ty p u,o.op= .store ty p u∧o.dst=none∧ev E st p= .ptr s off:=by
 have hS:=dY h;obtain⟨d,op,ty,pos,af,g⟩:=o;unfold cU at h;simp only at h hS;cases hg:bM ops st.t g with
 |none=>simp[hg] at h
 | some b=>
   rw[hg] at h;cases b with
   |false=>simp at h
   | true=>
     simp only[Qt] at h;cases op<;>first|(simp[isS] at hS;done)|skip
     rename_i t p u;simp only at h;split at h
     . rename_i hd;unfold lH at h;split at h
       . rename_i s' off' hp;split at h
         . cases h;exact⟨t,p,u,rfl,by simpa using hd,hp⟩
         . cases h
       . cases h
     . cases h
theorem DI (h:isL o.op=true):∃ty q,o.op= .load ty q:=by obtain⟨d,op,ty,pos,af,g⟩:=o;cases op<;>first|(simp[isL] at h;done)|exact⟨_,_,rfl⟩
theorem nG (hM:E.Pl) (hG:∀g,(E.G g).nm=none) {fin st:St} (hap:gB ops.toList fin.t) {i j:Nat} {x o:Oper} (hj:ops[j]?=some x) (hi:ops[i]?=some o) {is:List Nat} (hrun:aopsI E ops is st=some fin)
 (hplain:∀k∈is,∀y,ops[k]?=some y->plainOp y.op=true) (hx:∀k∈is,∀y,ops[k]?=some y->∀q,ptrSlot x.op=some q->y.dst≠some q) (ho:∀k∈is,∀y,ops[k]?=some y->∀q,ptrSlot o.op=some q->y.dst≠some q)
 (h1:i∉directV x) (h2:j∉directV o):∀s off us,cU E ops x st=some (.store s off us)->isL o.op=true->∀z∈o.op.operands.toList,∀o',ev E st z≠ .ptr s o':=by
 intro s off us hd hl z hz o' hzv;obtain⟨ty,p,u,hxo,_,hp⟩:=zP hd;obtain⟨ty',q,hoo⟩:=DI hl;obtain⟨k,rfl,hk⟩:=vK hG (show(ev E st p).nm=some s by rw[hp];rfl);have hzq:z=q:=by simpa[hoo,Op.operands] using hz
 subst hzq;obtain⟨k',rfl,hk'⟩:=vK hG (show(ev E st z).nm=some s by rw[hzv];rfl);have e1:fin.t k=st.t k:=lK hM is st hrun (fun m hm y hy=>⟨hplain m hm y hy,hx m hm y hy k (by rw[hxo];rfl)⟩);have e2:fin.t k'=st.t k':=lK hM is st hrun (fun m hm y hy=>⟨hplain m hm y hy,ho m hm y hy k' (by rw[hoo];rfl)⟩);have:=zO hap (by simpa using hj) (by simpa using hi) hxo hoo h1 h2;rw[e1,e2] at this;exact this s hk hk'
theorem F8 (hM :E.Pl) (hG:∀g,(E.G g).nm=none) {A:Nat->Nat->Bool} (hD:DrawP ops A) {i:Nat} {o:Oper} (hi:ops[i]?=some o) {post:List Nat} {fin:St} (hap:gB ops.toList fin.t) (hpost:∀j∈post,i<j):∀(pre:List Nat) (st:St),(pre++i::post).Pairwise (· < ·)->
 (∀j∈pre,∀x,ops[j]?=some x->(plainOp x.op=true∧plainOp o.op=true)∧(indepV ops x o=true∧j∉directV o∧(clash x.op o.op=true->∀(k:Nat) (y:Oper),ops[k]?=some y->isG y.op=false))∧(isA o.op=true->x.dst≠o.dst))->(isA o.op=true->∀d,o.dst=some d->noPtrTo d st.t)->
 aopsI E ops (pre++i::post) st=some fin->∃st',ii E ops o st=some st'∧aopsI E ops (pre++post) st'=some fin
 | [],st,_,_,_,h=>by
   simp only[QX,aopsI,hi] at h⊢;split at h
   . rename_i st' hst;exact⟨st',hst,h⟩
   . simp at h
 | j :: pre, st,hsort,hp,hf,h=>by
   have hfull:=h;simp only[QM,aopsI] at h;split at h
   . rename_i x hx;split at h
     . rename_i st1 h1;obtain⟨⟨hpx,ho⟩,⟨hix,hjo,hcl⟩,hdx⟩:=hp j (by simp) x hx;have hsort':(pre++i::post).Pairwise (· < ·):=(Q6.1 hsort).2;have hjall:∀k∈pre++i::post,j<k:=(Q6.1 hsort).1;have hji:j<i:=hjall i (by simp);have hno:isS x.op=true∨isS o.op=true->clash x.op o.op=true->∀k∈j::pre++i::post,∀y,ops[k]?=some y->plainOp y.op=true∧(∀q,ptrSlot x.op=some q->y.dst≠some q)∧∀q,ptrSlot o.op=some q->y.dst≠some q:=by
        intro _ hc k hk y hy;have hg:=hcl hc k y hy;have hpl:=hD.plain k y hy;rw[hg,Si] at hpl;refine⟨hpl,fun q hq=>?_,fun q hq=>?_⟩
        . rcases PY.1 hk with rfl|hk
          . exact hD.late k x k y hx hy (PB _) q hq
          . exact hD.late j x k y hx hy (Sp (hjall k hk)) q hq
        . by_cases hki:k<i
          . have hkm:k∈j::pre:=by
             rcases PU.1 hk with hk|hk
             . exact hk
             . rcases PY.1 hk with rfl|hk
               . exact absurd hki (Nat.lt_irrefl _)
               . have:=hpost k hk;omega
            have hind:=(hp k hkm y hy).2.1.1;intro e;simp only[indepV,e,PG] at hind;have hr:=hind.1.1.1.1.1;simp only[Qx] at hr;have hmem:q∈readsV ops o:=by
             unfold readsV;rw[PU];refine .inl (lF.2 ?_);cases hop:o.op with
             |load t z=>cases z<;>rw[hop] at hq<;>cases hq;simp[Op.operands]
             |store t z w=>cases z<;>rw[hop] at hq<;>cases hq;simp[Op.operands]
             |_=>rw[hop] at hq;cases hq
            have:=hr.1;rw[Ri.2 hmem] at this;cases this
          . exact hD.late i o k y hi hy (by omega) q hq
       have hid:i∉directV x:=fun hm=>by have:=hD.lt j x hx i hm;omega
       have ap1:∀s off us,cU E ops x st=some (.store s off us)->isL o.op=true->∀z∈o.op.operands.toList,∀o',ev E st z≠ .ptr s o':=fun s off us hd hl=>by
        have hS:=dY hd;have hc:clash x.op o.op=true:=by simp[clash,hS,hl]
        have hno:=hno (.inl hS) hc;exact nG hM hG hap hx hi hfull (fun k hk y hy=>(hno k hk y hy).1) (fun k hk y hy=>(hno k hk y hy).2.1) (fun k hk y hy=>(hno k hk y hy).2.2) hid hjo s off us hd hl
       have ap2:∀s off us,cU E ops o st=some (.store s off us)->isL x.op=true->∀z∈x.op.operands.toList,∀o',ev E st z≠ .ptr s o':=fun s off us hd hl=>by
        have hS:=dY hd;have hc:clash x.op o.op=true:=by simp[clash,hS,hl]
        have hno:=hno (.inr hS) hc;exact nG hM hG hap hi hx hfull (fun k hk y hy=>(hno k hk y hy).1) (fun k hk y hy=>(hno k hk y hy).2.2) (fun k hk y hy=>(hno k hk y hy).2.1) hjo hid s off us hd hl
       obtain⟨st1',ha,hrest⟩:=F8 hM hG hD hi hap hpost pre st1 hsort' (fun k hk=>hp k (by simp[hk])) (fun hA d hd=>kH hM hG hpx (by rw[<-hd];exact hdx hA) (hf hA d hd) h1) h;obtain⟨st2,h2,h3⟩:=IJ hM hG hpx ho hix ap1 ap2 hf h1 ha;exact⟨st2,h2,by simp only[QM,aopsI,hx,h3];exact hrest⟩
     . simp at h
   . simp at h
structure InvD (E:Env) (ops:Array Oper) (listed:Array Bool) (rem:List Nat) (st fin:St):Prop where
 isrem:rem=(List.range ops.size).filter fun i=> !listed.getD i true
 size:listed.size=ops.size
 run:aopsI E ops rem st=some fin
 closed:∀i o,ops[i]?=some o->listed.getD i false=true->∀j∈directV o,listed.getD j false=true
 fresh:∀i∈rem,∀o,ops[i]?=some o->isA o.op=true->∀d,o.dst=some d->noPtrTo d st.t
variable {listed:Array Bool}
theorem bV (hs:listed.size=ops.size) {j:Nat} (hj:j<ops.size):listed.getD j true=listed.getD j false:=by simp[P0,PW (show j<listed.size by omega)]
theorem td {A:Nat->Nat->Bool} (hd:DrawP ops A) {listed:Array Bool} (hcl:∀i o,ops[i]?=some o->listed.getD i false=true->∀j∈directV o,listed.getD j false=true):
 ∀(i:Nat) (o:Oper),ops[i]?=some o->(∀k∈directV o,listed.getD k false=true)->∀j,A i j=true->listed.getD j false=true:=by
 intro i
 induction i using Nat.strongRecOn with
 | _ i ih=>
   intro o hi hk j hj;rcases hd.anc i o j hi hj with h3|⟨k,hkm,hjk⟩
   . exact hk j h3
   . have hlt:=hd.lt i o hi k hkm;have hsz:i<ops.size:=(Rq.1 hi).1;have hok:ops[k]?=some ops[k]:=PW (by omega);exact ih k hlt _ hok (hcl k _ hok (hk k hkm)) j hjk
theorem cm {i:Nat}:i∈Region.ready .any ops listed↔listed.getD i true=false∧∃o,ops[i]?=some o∧∀j∈directV o,listed.getD j false=true:=by
 rw[mem_ready];refine Sw fun _=>exists_congr fun o=>Sw fun _=>?_
 unfold directV;constructor
 . intro h j hj;obtain⟨e,he,rfl⟩:=Qi.1 hj;rw[QB] at he;exact h e (R3.1 he.1) he.2
 . intro h e he hb;exact h _ (Qi.2 ⟨e,QB.2 ⟨R3.2 he,hb⟩,rfl⟩)
theorem lL {i:Nat} (h:i<listed.size):(listed.setIfInBounds i true).getD i true=true:=by simp[P0,h]
theorem dq {i:Nat} (h:i<listed.size):(listed.setIfInBounds i true).getD i false=true:=by simp[P0,h]
variable {r:Option Nat}
theorem DJ (hE:EnvX E pm) (hM:E.Pl) (hG:∀g,(E.G g).nm=none) {A:Nat->Nat->Bool} (hd:DrawP ops A) (hdst:de n ops.toList=true) {Q:Exit->Act->World->Prop} {fin:St}
 (hap:gB ops.toList fin.t) (hQ:∀a w m β,Rel E n pm m0 w0 m β fin a w->Q .normal a w):∀(fuel:Nat) (listed:Array Bool) (rem:List Nat) (st:St) (a:Act) (w:World) (m:Lim) (β:Nat->Nat),
 rem.length<=fuel->InvD E ops listed rem st fin->Rel E n pm m0 w0 m β st a w->wpAnyIn (fK r) 0 E.P .any ops Q fuel listed a w:=by
 have hfst:∀{listed:Array Bool} {rem:List Nat} {st:St},InvD E ops listed rem st fin->Region.ready .any ops listed=[]->rem=[]:=by
  intro listed rem st hi hr;cases rem with
  |nil=>rfl
  | cons i rem=>
    exfalso;have hrem:=hi.isrem;have hmem:i∈(List.range ops.size).filter fun i=> !listed.getD i true:=by rw[<-hrem];simp
    rw [QB,Qg] at hmem;obtain⟨hlt,hun⟩:=hmem;have hoi:ops[i]?=some ops[i]:=PW hlt;have:i∈Region.ready .any ops listed:=by
     rw[cm];refine⟨by simpa using hun,_,hoi,fun j hj=>?_⟩;have hji:j<i:=hd.lt i _ hoi j hj;rw[<-bV hi.size (by omega)];cases hl:listed.getD j true with
     |true=>rfl
     | false=>
       exfalso;have hjm:j∈i::rem:=by rw[hrem,QB,Qg];exact⟨by omega,by simp[hl]⟩
       have hsort:(i::rem).Pairwise (· < ·):=by rw[hrem];exact List.Pairwise.filter _ List.pairwise_lt_range
       rw[Q6] at hsort;rcases PY.1 hjm with e|hm
       . omega
       . have:=hsort.1 j hm;omega
    rw[hr] at this;simp at this
 intro fuel
 induction fuel with
 | zero=>
   intro listed rem st a w m β hlen hi h;have h0:rem=[]:=by simpa using hlen
   subst h0;have hrun:=hi.run;simp only[aopsI] at hrun;cases hrun;refine⟨?_,hQ _ _ _ _ h⟩;rw[Rw];intro i him;rw[cm] at him;obtain⟨h1,o,ho,_⟩:=him;have:i∈([]:List Nat):=by rw[hi.isrem,QB,Qg];exact⟨(Rq.1 ho).1,by simp[h1]⟩
   simp at this
 | succ fuel ih=>
   intro listed rem st a w m β hlen hi h;refine⟨fun hr=>?_,fun i him=>?_⟩
   . have h0:=hfst hi hr;subst h0;have hrun:=hi.run;simp only[aopsI] at hrun;cases hrun;exact hQ _ _ _ _ h
   . rw [cm] at him;obtain⟨hun,o,ho,hdir⟩:=him;have hlt:i<ops.size:=(Rq.1 ho).1;have himem:i∈rem:=by rw[hi.isrem,QB,Qg];exact⟨hlt,by simp[hun]⟩
     obtain⟨pre,post,hsplit⟩:=List.append_of_mem himem;have hsort:rem.Pairwise (· < ·):=by rw[hi.isrem];exact List.Pairwise.filter _ List.pairwise_lt_range
     rw[hsplit] at hsort;have hpre:∀j∈pre,j<i:=fun j hj=>(Ry.1 hsort).2.2 j hj i (by simp)
     have hpost:∀j∈post,i<j:=fun j hj=>(Q6.1 (Ry.1 hsort).2.1).1 j hj
     have hplain:∀{k:Nat} {x:Oper},ops[k]?=some x->(plainOp x.op||isG x.op)=true:=fun hk=>hd.plain _ _ hk
     have hadst:∀{k j:Nat} {x y:Oper},ops[k]?=some x->ops[j]?=some y->j≠k->isA x.op=true->y.dst≠x.dst:=fun hk hj hne hA=>hd.dst _ _ _ _ hk hj hne hA
     have hpull:=F8 (E:=E) hM hG hd ho (post:=post) (fin:=fin) hap hpost pre st hsort (fun j hj x hx=>by
      have hjr:j∈rem:=by rw[hsplit];simp[hj]
      rw[hi.isrem,QB,Qg] at hjr;have hjo:j∉directV o:=fun hm=>by have hl:=hdir j hm;rw[bV hi.size hjr.1,hl] at hjr;simp at hjr
      refine(fun hc0:indepV ops x o=true∧(clash x.op o.op=true->∀(k:Nat) (y:Oper),ops[k]?=some y->isG y.op=false)=>⟨by have hi:=hc0.1;simp only[indepV,PG,Qx] at hi;have h1:=hplain hx;have h2:=hplain ho;rw[hi.1.2,Si] at h1;rw[hi.2,Si] at h2;exact⟨h1,h2⟩,⟨hc0.1,hjo,hc0.2⟩,fun hA=>hadst ho hx (QD (hpre j hj)) hA⟩) ?_
      rcases hd.pair i o j x ho hx with h1|h1|h1
      . have:=hpre j hj;omega
      . exfalso;have hl:=td hd hi.closed i o ho hdir j h1;rw[bV hi.size hjr.1,hl] at hjr;simp at hjr
      . exact h1) (fun hA=>hi.fresh i himem o ho hA) (by rw[<-hsplit];exact hi.run)
     obtain⟨st',hst',hrest⟩:=hpull;refine fQ hE h ho (eG hdst (by simpa using PM (by simpa using ho:ops.toList[i]?=some o))) hst' (fun a' w' m' β' h'=>?_);refine ih _ (pre++post) st' a' w' m' β' (by rw[hsplit] at hlen;simp at hlen⊢;omega) ⟨?_,by simp[hi.size],hrest,?_,?_⟩ h'
     . have hset:((List.range ops.size).filter fun j=> !(listed.setIfInBounds i true).getD j true)=rem.filter (fun j=>j !=i):=by
        rw[hi.isrem,List.filter_filter];refine List.filter_congr (fun j hj=>?_);by_cases hji:j=i
        . subst hji;rw[lL (by rw[hi.size];exact hlt)];simp
        . rw[getD_set_ne _ (QT hji)];simp[hji]
       rw[hset,hsplit,List.filter_append,List.filter_cons];have e1:pre.filter (fun j=>j !=i)=pre:=List.filter_eq_self.2 (fun j hj=>by have:=hpre j hj;simp;omega);have e2:post.filter (fun j=>j !=i)=post:=List.filter_eq_self.2 (fun j hj=>by have:=hpost j hj;simp;omega);rw[e1,e2];simp
     . intro k x hk hl j hj;by_cases hji:j=i
       . subst hji;exact dq (by rw[hi.size];exact hlt)
       . rw[getD_set_ne _ (QT hji)];by_cases hki:k=i
         . subst hki;rw[hk] at ho;cases ho;exact hdir j hj
         . rw[getD_set_ne _ (QT hki)] at hl;exact hi.closed k x hk hl j hj
     . intro k hk x hx hA d hxd;have hkne:k≠i:=by
        rcases PU.1 hk with hk|hk
        . exact QD (hpre k hk)
        . exact Nat.ne_of_gt (hpost k hk)
       have hkr:k∈rem:=by rw[hsplit];rcases PU.1 hk with hk|hk<;>simp[hk]
       exact tb hM hG (hplain ho) (by rw[<-hxd];exact hadst hx ho (QT hkne) hA) (hi.fresh k hkr x hx hA d hxd) hst'
theorem iE:∀(l:List Oper) (t:Nat->V),gC l t->∀o∈l,isA o.op=true->∀d,o.dst=some d->noPtrTo d t
 |[],_,_,o,ho=>by simp at ho
 | x ::l,t,h,o,ho=>by
   intro hA d hd;unfold gC at h;split at h
   . rename_i d' hA' hd';rcases PY.1 ho with rfl|hm
     . rw[hd] at hd';cases hd';exact h.1
     . exact iE l t h.2 o hm hA d hd
   . rename_i hne;rcases PY.1 ho with rfl|hm
     . exact absurd hd (by intro hd;exact hne d hA hd)
     . exact iE l t h o hm hA d hd
variable {W:Nat->Bool}
theorem tf (hE:EnvX E pm) (hM:E.Pl) (hG:∀g,(E.G g).nm=none) (hm:E.P.follows .mixedOrders=true) (hd:oI ops=true) {id:Nat} {Q:Exit->Act->World->Prop} {K:St->Prop} (hdst:de n ops.toList=true) (hW:zG W ops.toList=true)
 (h:Rel E n pm m0 w0 m β st a w) (hf:gC ops.toList st.t) (hx:cj E ops ops.toList st fun st'=>gB ops.toList st'.t∧K st')
 (hQ:∀st' a' w' m' β',K st'->Rel E n pm m0 w0 m' β' st' a' w'->Q .normal a' w'):(Code.region id ops true).wpIn (fK r) 0 E.P (fun e a' w'=>Q e a' w'∧(e= .normal->KeepT W a.tmps a'.tmps)) a w:=by
 obtain⟨fin,hs,hap,hk⟩:=ft _ _ hx;refine wpIn_region_any hm ?_;have hrel:Rel E n pm m0 w0 m β st a {w with drawn:=w.drawn+1}:=by have hb:Below w.heap.size w {w with drawn:=w.drawn+1}:=⟨rfl,rfl,rfl,PB _,fun _ _=>rfl⟩;exact h.call hb (fun _ _=>rfl)
 have hrange:((List.range ops.size).filter fun i=> !(Array.replicate ops.size false).getD i true)=List.range ops.size:=by refine List.filter_eq_self.2 (fun i hi=>?_);have:i<ops.size:=Qg.1 hi;simp[P0,this]
 refine eu hW _ _ a _ (KeepT.refl _ _) ?_;refine DJ hE hM hG (DF hd) hdst hap (fun a w m β h=>hQ fin a w m β hk h) ops.size _ (List.range ops.size) st a _ m β (by simp) ⟨hrange.symm,by simp,?_,?_,?_⟩ hrel
 . have:=kG (E:=E) (ops:=ops) ops.toList 0 st (fun j=>by simp);rw[<-hs,this,List.range_eq_range'];simp
 . intro i o ho hl;simp[P0,Rk] at hl;split at hl<;>simp at hl
 . intro i hi o ho hA d hd';exact iE _ _ hf o (PM (by simpa using ho:ops.toList[i]?=some o)) hA d hd'
end
section
variable {E:Env} {n:Nat} {pm:Pm} {m0 m:Lim} {w0 w:World} {β:Nat->Nat} {st:St} {a:Act} {ops:Array Oper}
def V.le (u v:V):Prop:=u= .undef∨u=v∨∃n k n' k',u= .sl true n [] k∧v= .sl true n' [] k'
structure Le (st' st:St):Prop where
 t:∀i,(st'.t i).le (st.t i)
 b:∀s cs',st'.b s=some cs'->∃cs,st.b s=some cs∧cs'.length=cs.length∧∀(i:Nat) (u' u:V),cs'[i]?=some u'->cs[i]?=some u->u'.le u
theorem gD (cs:List V):cs.length=cs.length∧∀(i:Nat) (u' u:V),cs[i]?=some u'->cs[i]?=some u->u'.le u:=⟨rfl,fun i u' u h1 h2=>by rw[h1] at h2;cases h2;exact .inr (.inl rfl)⟩
theorem Le.refl (st:St):Le st st:=⟨fun _=> .inr (.inl rfl),fun _ cs h=>⟨cs,h,gD cs⟩⟩
variable {v:Value} {u:V}
theorem V.le.rd {u':V} (hl:u'.le u) (h:Rd m w v u):Rd m w v u':=by
 rcases hl with rfl|rfl|⟨n1,k1,n2,k2,rfl,rfl⟩
 . exact .undef _
 . exact h
 . rcases h.flat with⟨_,hxv,_⟩|⟨hf,_⟩|⟨_,_,_,_,hf,_⟩
   . rw[hxv];exact .nil _ _
   . cases hf
   . cases hf
theorem Rel.le (h:Rel E n pm m0 w0 m β st a w) {st':St} (hl:Le st' st):Rel E n pm m0 w0 m β st' a w:=by
 refine⟨fun i=>?_,h.size,fun s cs' hs=>?_,fun s s' cs cs' hs hs' heq=>?_,h.below,h.par,h.mold,?_,fun i s sz len cs' hi hs=>?_,h.defers,h.glob,h.j,h.maps.to (fun i s ks vs hi=>⟨⟨i,(by
  rcases hl.t i with h0|h0|⟨n1,k1,n2,k2,h0,h1⟩
  . rw[h0] at hi;cases hi
  . rw[<-h0];exact hi
  . rw[h0] at hi;cases hi)⟩,rfl⟩) (Ext.refl _ _) (fun _ _ _ h _=>⟨h,rfl⟩)⟩
 rotate_right
 . obtain⟨cs,hs,hlen,_⟩:=hl.b s cs' hs;have hi:st.t i= .row s sz len:=by
    rcases hl.t i with h0|h0|⟨n1,k1,n2,k2,h0,h1⟩
    . rw[h0] at hi;cases hi
    . rw[<-h0];exact hi
    . rw[h0] at hi;cases hi
   obtain⟨hf,rest⟩:=h.own i s sz len cs hi hs;exact⟨by omega,rest⟩
 . rcases hl.t i with h0|h0|⟨n1,k1,n2,k2,h0,h1⟩
   . rw[h0];exact .of (.undef _)
   . rw[h0];exact h.tmps i
   . rw[h0];have:=h.tmps i;rw[h1] at this;rcases(this.rd (by intros;simp)).flat with⟨_,hxv,_⟩|⟨hf,_⟩|⟨_,_,_,_,hf,_⟩
     . rw[hxv];exact .of (.nil _ _)
     . cases hf
     . cases hf
 . obtain⟨cs,hs0,hlen,hle⟩:=hl.b s cs' hs;obtain⟨⟨hlim,vals,ty,xs,rest,hh,hx,hr⟩,hge⟩:=h.boxes s cs hs0;refine⟨⟨hlim,vals,ty,xs,rest,hh,hx,RdL.of_get (hr.length.trans hlen.symm) (fun i v u' hv hu=>?_)⟩,hge⟩;have hi:=aM hu;have hu0:cs[i]?=some (cs[i]'(by omega)):=Io (by omega);exact(hle i u' _ hu hu0).rd (hr.get i v _ hv hu0)
 . obtain⟨c1,h1,_⟩:=hl.b _ _ hs;obtain⟨c2,h2,_⟩:=hl.b _ _ hs';exact h.inj _ _ _ _ h1 h2 heq
 . obtain⟨ρ,hr⟩:=h.rows;refine⟨ρ,hr.to (fun v sz es s hi=>hi.from (fun i hi=> .inl ⟨i,?_,rfl⟩) (fun k cs' j h1 h2 h3 h4=>?_)) (fun _ _ _ _ _=>⟨rfl,rfl⟩) (fun v sz es s k cs' hi hk=>?_)⟩
   . rcases hl.t i with h0|h0|⟨n1,k1,n2,k2,h0,h1⟩
     . rw[h0] at hi;cases hi
     . rw[<-h0];exact hi
     . rw[h0] at hi;cases hi
   . obtain⟨cs,h5,hlen,hle⟩:=hl.b k cs' h2;have hj:=aM h3;have h6:cs[j]?=some (cs[j]'(by omega)):=Io (by omega);rcases hle j _ _ h3 h6 with h0|h0|⟨n1,k1,n2,k2,h0,h7⟩
     . cases h0
     . exact .inr ⟨k,cs,j,h1,h5,by rw[h6,<-h0],h4⟩
     . cases h0
   . obtain⟨cs,h5,_⟩:=hl.b k cs' hk;exact hr.box _ _ _ _ _ _ hi h5
end
inductive Ord where
 |fin
 |none
 |alt (i:Nat) (sub next:Ord)
def dA (ops:List Oper):Ord->List Nat->List Nat->Bool
 | .fin,L,acc=>acc.isEmpty&&(List.range ops.length).all fun i=>L.contains i
 | .none,L,acc=> !acc.isEmpty&&(List.range ops.length).all fun i=>L.contains i||acc.contains i|| !(match ops[i]? with|some o=>(directV o).all fun k=>L.contains k|none=>false)
 | .alt i sub next,L,acc=>(match ops[i]? with|some o=>(directV o).all fun k=>L.contains k|none=>false)&& !L.contains i&&dA ops sub (i::L) []&&dA ops next L (i::acc)
def eg (E:Env) (ops:List Oper):Ord->St->(St->Prop)->Prop
 | .fin,st,K=>K st
 | .none,_,_=>True
 | .alt i sub next,st,K=>(match ops[i]? with
  |some o=>cj E ⟨ops⟩ [o] st fun st'=>eg E ops sub st' K
  |none=>False)∧eg E ops next st K
def wR (E:Env) (ops:List Oper) (sub:Ord) (st:St) (K:St->Prop):Option Oper->Prop
 |some o=>cj E ⟨ops⟩ [o] st fun st'=>eg E ops sub st' K
 |none=>False
theorem wS (E:Env) (ops:List Oper) (st:St) (K:St->Prop):eg E ops .fin st K=K st:=rfl
theorem tg (E:Env) (ops:List Oper) (st:St) (K:St->Prop):eg E ops .none st K=True:=rfl
theorem jR (E:Env) (ops:List Oper) (i:Nat) (sub next:Ord) (st:St) (K:St->Prop):eg E ops (.alt i sub next) st K=(wR E ops sub st K ops[i]?∧eg E ops next st K):=by simp only[eg,wR]
theorem wT (E:Env) (ops:List Oper) (sub:Ord) (st:St) (K:St->Prop) (o:Oper):wR E ops sub st K (some o)=cj E ⟨ops⟩ [o] st fun st'=>eg E ops sub st' K:=rfl
theorem th (E:Env) (ops:List Oper) (sub:Ord) (st:St) (K:St->Prop) {o o':Option Oper} (h:o=o'):wR E ops sub st K o=wR E ops sub st K o':=by rw[h]
theorem qc (E:Env) (ops:List Oper) (tr:Ord) (K:St->Prop) {st st':St} (h:st=st'):eg E ops tr st K=eg E ops tr st' K:=by rw[h]
section
variable {E:Env} {ops:List Oper} {n:Nat} {pm:Pm} {m0 m:Lim} {w0 w:World} {β:Nat->Nat} {st:St} {a:Act}
variable {k:Nat}
theorem gY {L:List Nat} {i:Nat} (hi:i<k) (hn:i∉L):((List.range k).filter fun j=> !(i::L).contains j).length+1<=((List.range k).filter fun j=> !L.contains j).length:=by
 have h1:((List.range k).filter fun j=> !(i::L).contains j)=((List.range k).filter fun j=> !L.contains j).filter fun j=>j !=i:=by rw[List.filter_filter];refine List.filter_congr (fun j _=>?_);rw[List.contains_cons,Bool.not_or];rfl
 have h2:i∈(List.range k).filter fun j=> !L.contains j:=by rw[QB,Qg];exact⟨hi,by simpa using hn⟩
 rw [h1];have key:∀l:List Nat,i∈l->(l.filter fun j=>j !=i).length+1<=l.length:=by
  intro l
  induction l with
  |nil=>intro h;cases h
  | cons x l ih=>
    intro h;by_cases e:x=i
    . subst e;rw[List.filter_cons,PS (by simp)];have:=RY (fun j=>j !=x) l;simp only[P5];omega
    . have h3:=ih (by rcases PY.1 h with h|h;exact absurd h.symm e;exact h);rw[List.filter_cons,PO (by simpa using e)];simp only[P5];omega
 exact key _ h2
variable {r:Option Nat}
theorem ti (hE:EnvX E pm) (hdst:de n ops=true) {Q:Exit->Act->World->Prop} {K:St->Prop} (hQ:∀st a w m β,K st->Rel E n pm m0 w0 m β st a w->Q .normal a w):∀(tr:Ord),
 (∀(L:List Nat) (fuel:Nat) (listed:Array Bool) (st:St) (a:Act) (w:World) (m:Lim) (β:Nat->Nat),dA ops tr L []=true->listed.size=ops.length->(∀i,(listed.getD i false=true↔i∈L))->
  ((List.range ops.length).filter fun j=> !L.contains j).length<=fuel->Rel E n pm m0 w0 m β st a w->eg E ops tr st K->wpAnyIn (fK r) 0 E.P .any ⟨ops⟩ Q fuel listed a w)∧
 (∀(L acc:List Nat) (fuel:Nat) (listed:Array Bool) (st:St) (a:Act) (w:World) (m:Lim) (β:Nat->Nat),acc≠[]->dA ops tr L acc=true->listed.size=ops.length->(∀i,(listed.getD i false=true↔i∈L))->
  ((List.range ops.length).filter fun j=> !L.contains j).length<=fuel+1->Rel E n pm m0 w0 m β st a w->eg E ops tr st K->(∀i∈acc,wpOpIn (fK r) 0 E.P ⟨ops⟩ Q i (wpAnyIn (fK r) 0 E.P .any ⟨ops⟩ Q fuel (listed.setIfInBounds i true)) a w)->
  ∀i∈Region.ready .any ⟨ops⟩ listed,wpOpIn (fK r) 0 E.P ⟨ops⟩ Q i (wpAnyIn (fK r) 0 E.P .any ⟨ops⟩ Q fuel (listed.setIfInBounds i true)) a w):=by
 have hone:∀(i:Nat) (sub:Ord),(∀(L:List Nat) (fuel:Nat) (listed:Array Bool) (st:St) (a:Act) (w:World) (m:Lim) (β:Nat->Nat),dA ops sub L []=true->listed.size=ops.length->(∀i,(listed.getD i false=true↔i∈L))->
  ((List.range ops.length).filter fun j=> !L.contains j).length<=fuel->Rel E n pm m0 w0 m β st a w->eg E ops sub st K->wpAnyIn (fK r) 0 E.P .any ⟨ops⟩ Q fuel listed a w)->
  ∀(L:List Nat) (fuel:Nat) (listed:Array Bool) (st:St) (a:Act) (w:World) (m:Lim) (β:Nat->Nat),dA ops sub (i::L) []=true->i<ops.length->i∉L->listed.size=ops.length->(∀i,(listed.getD i false=true↔i∈L))->
  ((List.range ops.length).filter fun j=> !L.contains j).length<=fuel+1->Rel E n pm m0 w0 m β st a w->wR E ops sub st K ops[i]?->wpOpIn (fK r) 0 E.P ⟨ops⟩ Q i (wpAnyIn (fK r) 0 E.P .any ⟨ops⟩ Q fuel (listed.setIfInBounds i true)) a w:=by
  intro i sub ih L fuel listed st a w m β hok hi hn hsz hag hrem h hk;have ho:ops[i]?=some ops[i]:=Io hi;rw[ho] at hk;obtain⟨st',hs,hk'⟩:=ft _ _ hk;simp only[ir] at hs;split at hs
  . rename_i st1 h1;cases hs;refine fQ hE h (by simp) (eG hdst (PM ho)) h1 (fun a' w' m' β' h'=>?_);refine ih (i::L) fuel _ _ a' w' m' β' hok (by simpa using hsz) (fun j=>?_) (by have:=gY hi hn;omega) h' hk';by_cases e:j=i
    . subst e;rw[dq (by omega)];simp
    . rw[getD_set_ne _ (QT e),hag j];simp[e]
  . cases hs
 intro tr
 induction tr with
 | fin=>
   refine⟨fun L fuel listed st a w m β hok hsz hag hrem h hk=>?_,fun L acc fuel listed st a w m β hacc hok=>?_⟩
   . simp only[dA,List.isEmpty_nil,Ru,PJ,Qg] at hok;have hr:Region.ready .any ⟨ops⟩ listed=[]:=by rw[Rw];intro i hi;rw[cm] at hi;obtain⟨h1,o,h2,_⟩:=hi;have hlt:i<ops.length:=aM (l:=ops) (by simpa using h2);have:=(hag i).2 (by simpa using hok i hlt);rw[bV (ops:=⟨ops⟩) hsz hlt,this] at h1;cases h1
     cases fuel with
     |zero=>exact⟨hr,hQ _ _ _ _ _ hk h⟩
     |succ f=>exact⟨fun _=>hQ _ _ _ _ _ hk h,fun i hi=>by rw[hr] at hi;cases hi⟩
   . cases acc with
     |nil=>exact absurd rfl hacc
     |cons x acc=>simp[dA] at hok
 | none=>
   refine⟨fun L fuel listed st a w m β hok=>by simp[dA] at hok,fun L acc fuel listed st a w m β hacc hok hsz hag hrem h hk hA i hi=>?_⟩;rw[cm] at hi;obtain⟨h1,o,h2,h3⟩:=hi;have h2:ops[i]?=some o:=by simpa using h2
   have hlt:i<ops.length:=aM h2;simp only[dA,PG,PJ,Qg] at hok;have:=hok.2 i hlt;rw[h2] at this;have hnl:i∉L:=fun hm=>by have:=(hag i).2 hm;rw[bV (ops:=⟨ops⟩) hsz hlt,this] at h1;cases h1
   have hdl:((directV o).all fun k=>L.contains k)=true:=by rw[PJ];intro k hkm;have h4:=h3 k hkm;simpa using(hag k).1 h4
   simp only[hdl,Rg,Si,QO,Ri] at this;exact hA i (this.resolve_left hnl)
 | alt i0 sub next ihs ihn=>
   refine⟨fun L fuel listed st a w m β hok hsz hag hrem h hk=>?_,fun L acc fuel listed st a w m β hacc hok hsz hag hrem h hk hA=>?_⟩
   . simp only[dA,PG,Qx] at hok;obtain⟨⟨⟨hd,hnl⟩,hs⟩,hn⟩:=hok;have hnl:i0∉L:=fun hm=>by rw[Ri.2 hm] at hnl;cases hnl
     split at hd
     case h_2=>cases hd
     rename_i o ho;have hlt:=aM ho;rw[jR] at hk;have hpos:=gY hlt hnl;obtain⟨f,rfl⟩:∃f,fuel=f+1:=⟨fuel-1,by omega⟩;refine⟨fun hr=>?_,ihn.2 L [i0] f listed st a w m β (by simp) hn hsz hag hrem h hk.2 (fun i hi=>?_)⟩
     . exfalso;have:i0∈Region.ready .any ⟨ops⟩ listed:=by
        rw[cm];refine⟨?_,o,by simpa using ho,fun k hkm=>?_⟩
        . rw[bV (ops:=⟨ops⟩) hsz hlt];cases hg:listed.getD i0 false with
          |false=>rfl
          |true=>exact absurd ((hag i0).1 hg) hnl
        . have hc:=PJ.1 hd k hkm;have hkm2:k∈L:=by simpa using hc
          exact(hag k).2 hkm2
       rw[hr] at this;cases this
     . obtain rfl:i=i0:=by simpa using hi
       exact hone i sub ihs.1 L f listed st a w m β hs hlt hnl hsz hag hrem h hk.1
   . simp only[dA,PG,Qx] at hok;obtain⟨⟨⟨hd,hnl⟩,hs⟩,hn⟩:=hok;have hnl:i0∉L:=fun hm=>by rw[Ri.2 hm] at hnl;cases hnl
     split at hd
     case h_2=>cases hd
     rename_i o ho;have hlt:=aM ho;rw[jR] at hk;refine ihn.2 L (i0::acc) fuel listed st a w m β (by simp) hn hsz hag hrem h hk.2 (fun i hi=>?_);rcases PY.1 hi with rfl|hi
     . exact hone i sub ihs.1 L fuel listed st a w m β hs hlt hnl hsz hag hrem h hk.1
     . exact hA i hi
variable {W:Nat->Bool}
theorem wU (hE:EnvX E pm) (hm:E.P.follows .mixedOrders=true) (hdst:de n ops=true) (hW:zG W ops=true) {id:Nat} {Q:Exit->Act->World->Prop} {K:St->Prop} {tr:Ord} (hok:dA ops tr [] []=true)
 (h:Rel E n pm m0 w0 m β st a w) (hk:eg E ops tr st K) (hQ:∀st' a' w' m' β',K st'->Rel E n pm m0 w0 m' β' st' a' w'->Q .normal a' w'):(Code.region id ⟨ops⟩ true).wpIn (fK r) 0 E.P (fun e a' w'=>Q e a' w'∧(e= .normal->KeepT W a.tmps a'.tmps)) a w:=by
 refine wpIn_region_any hm ?_;have hrel:Rel E n pm m0 w0 m β st a {w with drawn:=w.drawn+1}:=by have hb:Below w.heap.size w {w with drawn:=w.drawn+1}:=⟨rfl,rfl,rfl,PB _,fun _ _=>rfl⟩;exact h.call hb (fun _ _=>rfl)
 refine eu (W:=W) (ops:=⟨ops⟩) hW _ _ a _ (KeepT.refl _ _) ?_;refine(ti hE hdst hQ tr).1 [] _ _ st a _ m β hok (by simp) (fun i=>?_) ?_ hrel hk
 . simp only[P0,Rk];split<;>simp
 . exact tl (RY _ _) (by simp)
def bZ (ops:List Oper) (L i:Nat):Bool:= !L.testBit i&&(match ops[i]? with|some o=>(directV o).all fun k=>L.testBit k|none=>false)
def vN (ops:List Oper) (ps:List (Nat×Nat×Nat)):Bool:=
 (ps.all fun p=>p.2.2==p.1|||2^p.2.1)&&(0::ps.map fun p=>p.2.2).all fun L=>(L==2^ops.length-1||(List.range ops.length).any fun i=>bZ ops L i)&&(List.range ops.length).all fun i=> !bZ ops L i||ps.any fun p=>p.1==L&&p.2.1==i
def F9 (E:Env) (ops:List Oper) (J' J:St):Option Oper->Prop
 |some o=>∃st',ir E ⟨ops⟩ [o] J=some st'∧Le J' st'
 |none=>False
def zQ (E:Env) (ops:List Oper) (J:Nat->St):List (Nat×Nat×Nat)->Prop
 |[]=>True
 |p::r=>F9 E ops (J p.2.2) (J p.1) ops[p.2.1]?∧zQ E ops J r
theorem qd {J:Nat->St}:∀{ps:List (Nat×Nat×Nat)},zQ E ops J ps->∀p∈ps,F9 E ops (J p.2.2) (J p.1) ops[p.2.1]?
 |[],_,p,hp=>by cases hp
 | q::r,h,p,hp=>by
   rcases PY.1 hp with rfl|hp
   . exact h.1
   . exact qd h.2 p hp
theorem wV (hE:EnvX E pm) (hdst:de n ops=true) {J:Nat->St} {ps:List (Nat×Nat×Nat)} (hok:vN ops ps=true) (hstep:zQ E ops J ps) {Q:Exit->Act->World->Prop} (hQ:∀a w m β,Rel E n pm m0 w0 m β (J (2^ops.length-1)) a w->Q .normal a w):
 ∀ (fuel L:Nat) (Ls:List Nat) (listed:Array Bool) (a:Act) (w:World) (m:Lim) (β:Nat->Nat),(L=0∨∃p∈ps,p.2.2=L)->listed.size=ops.length->(∀i,(listed.getD i false=true↔i∈Ls))->(∀i,i∈Ls↔L.testBit i=true)->
   ((List.range ops.length).filter fun j=> !Ls.contains j).length<=fuel->Rel E n pm m0 w0 m β (J L) a w->wpAnyIn (fK r) 0 E.P .any ⟨ops⟩ Q fuel listed a w:=by
 simp only[vN,PG] at hok;obtain⟨hpm,hS⟩:=hok;have hready:∀(L:Nat) (Ls:List Nat) (listed:Array Bool),listed.size=ops.length->(∀i,(listed.getD i false=true↔i∈Ls))->(∀i,i∈Ls↔L.testBit i=true)->∀i,i∈Region.ready .any ⟨ops⟩ listed↔i<ops.length∧bZ ops L i=true:=by
  intro L Ls listed hsz hag hbit i;have hb:∀k,listed.getD k false=true↔L.testBit k=true:=fun k=>(hag k).trans (hbit k)
  rw[cm];constructor
  . rintro⟨h1,o,h2,h3⟩;have h2:ops[i]?=some o:=by simpa using h2
    have hlt:=aM h2;refine⟨hlt,?_⟩;rw[bV (ops:=⟨ops⟩) hsz hlt] at h1;have hn:L.testBit i=false:=by
     cases hb':L.testBit i with
     |false=>rfl
     |true=>rw[(hb i).2 hb'] at h1;cases h1
    simp only[bZ,hn,RJ,Ru,h2,PJ];exact fun k hk=>(hb k).1 (h3 k hk)
  . rintro⟨hlt,hr⟩;simp only[bZ,PG,Qx] at hr;obtain⟨hn,hd⟩:=hr;split at hd
    case h_2=>cases hd
    rename_i o ho;refine⟨?_,o,by simpa using ho,fun k hk=>(hb k).2 (PJ.1 hd k hk)⟩;rw[bV (ops:=⟨ops⟩) hsz hlt];cases hg:listed.getD i false with
    |false=>rfl
    |true=>rw[(hb i).1 hg] at hn;cases hn
 have hSL:∀L,(L=0∨∃p∈ps,p.2.2=L)->(L=2^ops.length-1∨∃i,i<ops.length∧bZ ops L i=true)∧∀i,i<ops.length->bZ ops L i=true->∃p∈ps,p.1=L∧p.2.1=i:=by
  intro L hL;have hm:L∈(0::ps.map fun p=>p.2.2):=by
   rcases hL with rfl|⟨p,hp,rfl⟩
   . simp
   . exact P4 _ (Qi.2 ⟨p,hp,rfl⟩)
  have:=PJ.1 hS L hm;simp only[PG,QO,beq_iff_eq,Q2,PJ,Qg] at this;refine⟨this.1,fun i hi hr=>?_⟩;have:=this.2 i hi;rw[hr] at this;simpa using this
 intro fuel
 induction fuel with
 | zero=>
   intro L Ls listed a w m β hL hsz hag hbit hrem h;have hno:∀i,i<ops.length->i∈Ls:=fun i hi=>by
    have h0:((List.range ops.length).filter fun j=> !Ls.contains j)=[]:=Qu.1 (PV.1 hrem);by_cases hm:i∈Ls
    . exact hm
    . have:i∈((List.range ops.length).filter fun j=> !Ls.contains j):=QB.2 ⟨Qg.2 hi,by simpa using hm⟩;rw[h0] at this;cases this
   have hnr:∀i,i<ops.length->bZ ops L i=false:=fun i hi=>by simp[bZ,(hbit i).1 (hno i hi)]
   have hfull:L=2^ops.length-1:=by
    rcases(hSL L hL).1 with h1|⟨i,hi,hr⟩
    . exact h1
    . rw[hnr i hi] at hr;cases hr
   refine⟨?_,hQ a w m β (hfull▸h)⟩;rw[Rw];intro i hi;obtain⟨h1,h2⟩:=(hready L Ls listed hsz hag hbit i).1 hi;rw[hnr i h1] at h2;cases h2
 | succ f ih=>
   intro L Ls listed a w m β hL hsz hag hbit hrem h;refine⟨fun hr=>?_,fun i hi=>?_⟩
   . have hfull:L=2^ops.length-1:=by
      rcases(hSL L hL).1 with h1|⟨i,hi,hr'⟩
      . exact h1
      . have:=(hready L Ls listed hsz hag hbit i).2 ⟨hi,hr'⟩;rw[hr] at this;cases this
     exact hQ a w m β (hfull▸h)
   . obtain⟨hlt,hr⟩:=(hready L Ls listed hsz hag hbit i).1 hi;obtain⟨p,hp,hp1,hp2⟩:=(hSL L hL).2 i hlt hr;have hone:=qd hstep p hp;have hpe:=PJ.1 hpm p hp;rw[beq_iff_eq] at hpe;have ho:ops[i]?=some ops[i]:=Io hlt;rw[hp1,hp2,ho] at hone;obtain⟨st',hs,hle⟩:=hone;simp only[ir] at hs;split at hs
     . rename_i st1 h1;cases hs;have hn:i∉Ls:=fun hm=>by simp only[bZ,(hbit i).1 hm,Rg,Bool.false_and] at hr;cases hr
       refine fQ hE h (by simp) (eG hdst (PM ho)) h1 (fun a' w' m' β' h'=>?_);refine ih p.2.2 (i::Ls) _ a' w' m' β' (.inr ⟨p,hp,rfl⟩) (by simpa using hsz) (fun j=>?_) (fun j=>?_) (by have:=gY hlt hn;omega) (h'.le hle)
       . by_cases e:j=i
         . subst e;rw[dq (by omega)];simp
         . rw[getD_set_ne _ (QT e),hag j];simp[e]
       . rw[hpe,hp1,hp2,Rv,Rh,QO,<-hbit j,PY,Qa];constructor
         . rintro(rfl|h)
           . exact .inr rfl
           . exact .inl h
         . rintro(h|rfl)
           . exact .inr h
           . exact .inl rfl
     . cases hs
theorem tj (hE:EnvX E pm) (hm:E.P.follows .mixedOrders=true) (hdst:de n ops=true) (hW:zG W ops=true) {id:Nat} {Q:Exit->Act->World->Prop} {J:Nat->St} {ps:List (Nat×Nat×Nat)} (hok:vN ops ps=true)
 (h0:Le (J 0) st) (h:Rel E n pm m0 w0 m β st a w) (hk:zQ E ops J ps) (hQ:∀a' w' m' β',Rel E n pm m0 w0 m' β' (J (2^ops.length-1)) a' w'->Q .normal a' w'):(Code.region id ⟨ops⟩ true).wpIn (fK r) 0 E.P (fun e a' w'=>Q e a' w'∧(e= .normal->KeepT W a.tmps a'.tmps)) a w:=by
 refine wpIn_region_any hm ?_;have hrel:Rel E n pm m0 w0 m β st a {w with drawn:=w.drawn+1}:=by have hb:Below w.heap.size w {w with drawn:=w.drawn+1}:=⟨rfl,rfl,rfl,PB _,fun _ _=>rfl⟩;exact h.call hb (fun _ _=>rfl)
 refine eu (W:=W) (ops:=⟨ops⟩) hW _ _ a _ (KeepT.refl _ _) ?_;refine wV hE hdst hok hk hQ _ 0 [] _ a _ m β (.inl rfl) (by simp) (fun i=>?_) (fun i=>by simp) ?_ (hrel.le h0)
 . simp only[P0,Rk];split<;>simp
 . exact tl (RY _ _) (by simp)
end
section
variable {E:Env} {n:Nat} {pm:Pm} {m0 m:Lim} {w0 w:World} {β:Nat->Nat} {st:St} {a:Act} {ops:Array Oper}
def Env.plain (E:Env):Env:={E with M:=fun _=>false,FP:=fun _=>none,MB:=fun _=>false,X:=fun _ _=>none,FM:=fun _=>none,lit:=fun _=>false,fz:=fun _=>false}
theorem EnvX.plain (h:EnvX E pm):EnvX E.plain pm:=⟨fun f F hF=>h.fn f F hF,(fun f F hF=>by cases hF),h.keep,h.high,(fun f lb F e=>by cases e),.inl (fun _=>rfl),fun f F hF=>by cases hF⟩
noncomputable def wipe (E:Env) (st:St):St:=⟨st.t,vp E st.b⟩
variable {s:Nat} {b:Nat->Option (List V)}
theorem fu {c':List V} (h:vp E b s=some c'):∃c,b s=some c∧c.length=c'.length∧(E.MB s=false∧c'=c∨E.MB s=true∧c'=c.map V.bare):=by
 unfold vp at h;split at h
 . rename_i hM;obtain⟨c,hc,rfl⟩:=PK.1 h;exact⟨c,hc,by simp,.inr ⟨hM,rfl⟩⟩
 . rename_i hM;exact⟨c',h,rfl,.inl ⟨by simpa using hM,rfl⟩⟩
theorem Rel.wipe {E':Env} (hP:E'.G=E.G∧E'.J=E.J∧E'.K=E.K) (h:Rel E' n pm m0 w0 m β st a w):Rel E n pm m0 w0 m β (Go.Proofs.Ytldnpcolhdnkdaa.wipe E st) a w:=by
 obtain⟨hG,hJ,hK⟩:=hP;refine⟨h.tmps,h.size,fun s c' hs=>?_,fun s s' c c' h1 h2 he=>?_,h.below,hK▸h.par,h.mold,?_,fun i s sz len c' hi hs=>?_,h.defers,hG▸h.glob,hJ▸h.j,h.maps⟩
 . obtain⟨c,hc,hl,hor⟩:=fu hs;obtain⟨⟨hlim,vals,ty,xs,rest,hh,hx,hr⟩,hge⟩:=h.boxes s c hc;refine⟨⟨hlim,vals,ty,xs,rest,hh,hx,?_⟩,hge⟩;rcases hor with⟨_,rfl⟩|⟨_,rfl⟩
   . exact hr
   . exact hr.bareL
 . obtain⟨_,hc,_⟩:=fu h1;obtain⟨_,hc',_⟩:=fu h2;exact h.inj _ _ _ _ hc hc' he
 . obtain⟨ρ,hr⟩:=h.rows;refine⟨ρ,hr.to (fun v sz es s hi=>hi.from (fun i hi=> .inl ⟨i,hi,rfl⟩) (fun k c' j h1 h2 h3 h4=>?_)) (fun _ _ _ _ _=>⟨rfl,rfl⟩) (fun v sz es s k' c hi hk=>?_)⟩
   . obtain⟨c,hc,_,hor⟩:=fu h2;rcases hor with⟨hM,_⟩|⟨_,rfl⟩
     . rw[hM] at h1;cases h1
     . rw[PF] at h3;obtain⟨u0,_,he⟩:=PK.1 h3;rw[aX] at he;cases u0<;>cases he
   . obtain⟨_,hc,_⟩:=fu hk;exact hr.box _ _ _ _ _ _ hi hc
 . obtain⟨c,hc,hl,_⟩:=fu hs;obtain⟨hf,rest⟩:=h.own i s sz len c hi hc;exact⟨by omega,rest⟩
theorem Rel.plain (h:Rel E n pm m0 w0 m β st a w):Rel E.plain n pm m0 w0 m β st a w:=⟨h.tmps,h.size,h.boxes,h.inj,h.below,h.par,h.mold,by obtain⟨ρ,hr⟩:=h.rows;exact⟨ρ,hr.to (fun v sz es s hi=>hi.from (fun i hi=> .inl ⟨i,hi,rfl⟩) (fun k c j h1 h2 h3 h4=>by cases h1)) (fun _ _ _ _ _=>⟨rfl,rfl⟩) hr.box⟩,h.own,h.defers,h.glob,h.j,h.maps⟩
theorem Rel.unplain (h:Rel E.plain n pm m0 w0 m β st a w):Rel E n pm m0 w0 m β (Go.Proofs.Ytldnpcolhdnkdaa.wipe E st) a w:=Rel.wipe (E':=E.plain) ⟨rfl,rfl,rfl⟩ h
variable {v:Value} {u:V}
theorem Rd.nm (h:Rd m w v u):u.nm=none:=by cases h<;>rfl
inductive Out where
 |normal|ret|exit (id:Nat)
def qe (body:St->(Out->St->Prop)->Prop) (st:St) (K:Out->St->Prop):Prop:=
 ∃ (X:Type) (I:X->St) (μ:X->Nat) (x0:X),Le (I x0) st∧
   ∀ x,body (I x) fun o st'=>match o with
     | .normal=>∃x',Le (I x') st'∧μ x'<μ x
     |o=>K o st'
def tn (l:List Oper) (K:St->Prop):St->Prop:=fun st=>gB l st.t∧K st
theorem wW (l:List Oper) (K:St->Prop) (st:St):tn l K st=(gB l st.t∧K st):=rfl
def IM (E:Env) (ops:List Oper) (st:St) (K:St->Prop):Prop:=(∃(J:St) (tr:Ord),dA ops tr [] []=true∧eg E ops tr st (fun st'=>Le J st')∧K J)∨
 ∃(J:Nat->St) (ps:List (Nat×Nat×Nat)),vN ops ps=true∧Le (J 0) st∧zQ E ops J ps∧K (J (2^ops.length-1))
def nH (E:Env) (ops:Array Oper) (st:St) (K:Out->St->Prop):Bool->Prop
 |true=>IM E ops.toList st (K .normal)
 |false=>gC ops.toList st.t∧cj E.plain ops ops.toList (wipe E st) (tn ops.toList fun st'=>K .normal (wipe E st'))
def run (E:Env):Code->St->(Out->St->Prop)->Prop
 | .skip,st,K=>K .normal st
 | .region _ ops false,st,K=>cj E ops ops.toList st (K .normal)
 | .region id ops true,st,K=>nH E ops st K (E.any id)
 | .seq a b,st,K=>run E a st fun o st'=>match o with
   | .normal=>run E b st' K
   |o=>K o st'
 | .cond c a b,st,K=>match ev E st c with
   | .x (.bool t)=>(t=true->run E a st K)∧(t=false->run E b st K)
   |_=>False
 | .block id a,st,K=>run E a st fun o st'=>match o with
   | .exit id'=>if id'=id then K .normal st' else K (.exit id') st'
   |o=>K o st'
 | .loop a,st,K=>qe (run E a) st K
 | .label _,st,K=>K .normal st
 | .exit id,st,K=>K (.exit id) st
 | .ret,st,K=>K .ret st
 |_,_,_=>False
def wX (E:Env) (b:Code) (K:Out->St->Prop):Out->St->Prop
 | .normal,st=>run E b st K
 | .ret,st=>K .ret st
 | .exit id,st=>K (.exit id) st
def iF (id:Nat) (K:Out->St->Prop):Out->St->Prop
 | .exit id',st=>if id'=id then K .normal st else K (.exit id') st
 | .normal,st=>K .normal st
 | .ret,st=>K .ret st
def kI (E:Env) (a b:Code) (st:St) (K:Out->St->Prop):V->Prop
 | .x (.bool t)=>(t=true->run E a st K)∧(t=false->run E b st K)
 |_=>False
section
variable (E:Env) (a b:Code) (st:St) (K:Out->St->Prop) (id:Nat)
theorem zR:run E .skip st K=K .normal st:=rfl
theorem tp (ops:List Oper):run E (.region id ⟨ops⟩ false) st K=cj E ⟨ops⟩ ops st (K .normal):=rfl
theorem zS (ops:List Oper):run E (.region id ⟨ops⟩ true) st K=nH E ⟨ops⟩ st K (E.any id):=rfl
theorem tq (ops:List Oper):nH E ⟨ops⟩ st K true=IM E ops st (K .normal):=rfl
theorem qf (ops:List Oper):nH E ⟨ops⟩ st K false=(gC ops st.t∧cj E.plain ⟨ops⟩ ops (wipe E st) (tn ops fun st'=>K .normal (wipe E st'))):=rfl
theorem qg (ops:Array Oper) {o o':Bool} (h:o=o'):nH E ops st K o=nH E ops st K o':=by rw[h]
theorem DK:run E (.seq a b) st K=run E a st (wX E b K):=by show run E a st _=_;congr 1;funext o st';cases o<;>rfl
theorem zT (c:Operand):run E (.cond c a b) st K=kI E a b st K (ev E st c):=by show(match ev E st c with| .x (.bool t)=>(t=true->run E a st K)∧(t=false->run E b st K)|_=>False)=_;unfold kI;split<;>simp_all
theorem wY:run E (.block id a) st K=run E a st (iF id K):=by show run E a st _=_;congr 1;funext o st';cases o<;>rfl
theorem qh:run E (.loop a) st K=qe (run E a) st K:=rfl
theorem wZ (l:Nat):run E (.label l) st K=K .normal st:=rfl
theorem zU:run E (.exit id) st K=K (.exit id) st:=rfl
theorem DL:run E .ret st K=K .ret st:=rfl
theorem qi:wX E b K .normal st=run E b st K:=rfl
theorem zV:wX E b K .ret st=K .ret st:=rfl
theorem xb:wX E b K (.exit id) st=K (.exit id) st:=rfl
theorem mW:iF id K .normal st=K .normal st:=rfl
theorem tt:iF id K .ret st=K .ret st:=rfl
theorem gE (id':Nat):iF id K (.exit id') st=if id'=id then K .normal st else K (.exit id') st:=rfl
variable {o':Out}
theorem tu {o:Out} (h:o=o'):wX E b K o st=wX E b K o' st:=by rw[h]
theorem oL {o:Out} (h:o=o'):iF id K o st=iF id K o' st:=by rw[h]
theorem qj {v v':V} (h:v=v'):kI E a b st K v=kI E a b st K v':=by rw[h]
variable {st':St}
theorem xc (h:st=st'):run E a st K=run E a st' K:=by rw[h]
theorem tw:kI E a b st K (.x (.bool true))=run E a st K:=by simp[kI]
theorem qk:kI E a b st K (.x (.bool false))=run E b st K:=by simp[kI]
end
def cz (any:Nat->Bool) (n:Nat):Code->Bool
 | .region id ops d=>de n ops.toList&&(!d||(any id||oI ops))
 | .seq a b=>cz any n a&&cz any n b
 | .cond _ a b=>cz any n a&&cz any n b
 | .block _ a=>cz any n a
 | .loop a=>cz any n a
 |_=>true
def dZ (E:Env) (n:Nat) (pm:Pm) (m0:Lim) (w0:World) (K:Out->St->Prop):Exit->Act->World->Prop
 | .normal,a,w=>∃st m β,K .normal st∧Rel E n pm m0 w0 m β st a w
 | .ret,a,w=>∃st m β,K .ret st∧Rel E n pm m0 w0 m β st a w
 | .exit id,a,w=>∃st m β,K (.exit id) st∧Rel E n pm m0 w0 m β st a w
 |_,_,_=>False
theorem vO (p:Nat->Prop):∀k,p k->∃k,p k∧∀j,p j->k<=j:=by
 intro k
 induction k using Nat.strongRecOn with
 | _ k ih=>
   intro hk;by_cases h:∃j,j<k∧p j
   . obtain⟨j,hj,hp⟩:=h;exact ih j hj hp
   . exact⟨k,hk,fun j hj=>by
      rcases Ql j k with h'|h'
      . exact absurd ⟨j,h',hj⟩ h
      . exact h'⟩
def xd (W:Nat->Bool):Code->Bool
 | .region _ ops _=>zG W ops.toList
 | .seq a b=>xd W a&&xd W b
 | .cond _ a b=>xd W a&&xd W b
 | .block _ a=>xd W a
 | .loop a=>xd W a
 |_=>true
theorem oM:∀c:Code,xd (fun _=>true) c=true:=by
 intro c
 induction c with
 |region id ops d=>show zG _ _=true;refine PJ.2 (fun o _=>?_);cases o.dst<;>rfl
 |seq a b iha ihb=>simp only[xd,iha,ihb,Bool.and_self]
 |cond o a b iha ihb=>simp only[xd,iha,ihb,Bool.and_self]
 |block id a ih=>exact ih
 |loop a ih=>exact ih
 |_=>rfl
def Ga (W:Nat->Bool) (t:Array Value) (E:Env) (n:Nat) (pm:Pm) (m0:Lim) (w0:World) (K:Out->St->Prop):Exit->Act->World->Prop:=
 fun e a w=>dZ E n pm m0 w0 K e a w∧KeepT W t a.tmps
variable {r:Option Nat} {W:Nat->Bool}
theorem iG (hE:EnvX E pm) (hm:E.P.follows .mixedOrders=true):∀(c:Code) (K:Out->St->Prop) (st:St) (a:Act) (w:World) (m:Lim) (β:Nat->Nat),cz E.any n c=true->xd W c=true->Rel E n pm m0 w0 m β st a w->run E c st K->c.wpIn (fK r) 0 E.P (Ga W a.tmps E n pm m0 w0 K) a w:=by
 intro c
 induction c with
 |skip=>intro K st a w m β _ _ h hr;exact wpIn_skip ⟨⟨st,m,β,hr,h⟩,KeepT.refl _ _⟩
 | region id ops d=>
   intro K st a w m β hok hW h hr;have hW:zG W ops.toList=true:=hW;have fin:∀(a':Act) (w':World) (e:Exit),((match e with| .normal=>dZ E n pm m0 w0 K .normal a' w'|_=>False)∧(e= .normal->KeepT W a.tmps a'.tmps))->Ga W a.tmps E n pm m0 w0 K e a' w':=by intro a' w' e he;cases e<;>first|exact⟨he.1,he.2 rfl⟩|exact he.1.elim
   cases d with
   |false=>simp only[cz,PG] at hok;exact wpIn_mono (oG (Q:=fun e a' w'=>match e with| .normal=>dZ E n pm m0 w0 K .normal a' w'|_=>False) hE hok.1 hW h hr (fun st' a' w' m' β' hk h'=>⟨st',m',β',hk,h'⟩)) (fun e a' w' he=>fin a' w' e he)
   | true=>
     simp only[cz,PG,Rg,RQ] at hok;unfold run at hr;obtain⟨ops⟩:=ops;cases ha:E.any id with
     | true=>
       rw[ha] at hr;rcases hr with⟨J,tr,h1,h2,h3⟩|⟨J,ps,h1,h2,h3,h4⟩
       . exact wpIn_mono (wU (Q:=fun e a' w'=>match e with| .normal=>dZ E n pm m0 w0 K .normal a' w'|_=>False) hE hm hok.1 hW h1 h h2 (fun st' a' w' m' β' hle h'=>⟨J,m',β',h3,h'.le hle⟩)) (fun e a' w' he=>fin a' w' e he)
       . exact wpIn_mono (tj (Q:=fun e a' w'=>match e with| .normal=>dZ E n pm m0 w0 K .normal a' w'|_=>False) hE hm hok.1 hW h1 h2 h h3 (fun a' w' m' β' h'=>⟨_,m',β',h4,h'⟩)) (fun e a' w' he=>fin a' w' e he)
     |false=>rw[ha] at hr hok;have hok2:=hok.2;rw[RQ] at hok2;have hw:Rel E n pm m0 w0 m β (Go.Proofs.Ytldnpcolhdnkdaa.wipe E st) a w:=Rel.wipe (E':=E) ⟨rfl,rfl,rfl⟩ h;exact wpIn_mono (tf (Q:=fun e a' w'=>match e with| .normal=>dZ E n pm m0 w0 K .normal a' w'|_=>False) (E:=E.plain) hE.plain ⟨(fun d=>by cases d<;>rfl),⟨fun _=>⟨rfl,rfl⟩,fun _ _=>rfl⟩,(fun _=>rfl),fun _=>rfl⟩ (fun g=>(h.glob g).nm) hm hok2 hok.1 hW hw.plain hr.1 hr.2 (fun st' a' w' m' β' hk h'=>⟨_,m',β',hk,h'.unplain⟩)) (fun e a' w' he=>fin a' w' e he)
 | seq x y ihx ihy=>
   intro K st a w m β hok hW h hr;simp only[cz,PG] at hok;simp only[xd,PG] at hW;refine wpIn_seq (wpIn_mono (ihx _ st a w m β hok.1 hW.1 h hr) ?_);rintro e a' w' ⟨hp,hk1⟩;cases e<;>simp only[dZ,Exit.then] at hp⊢ <;>first|exact hp.elim|exact⟨hp,hk1⟩|skip
   obtain⟨st',m',β',hk,h'⟩:=hp;exact wpIn_mono (ihy K st' a' w' m' β' hok.2 hW.2 h' hk) (fun e a2 w2 h2=>⟨h2.1,hk1.trans h2.2⟩)
 | cond c x y ihx ihy=>
   intro K st a w m β hok hW h hr;simp only[cz,PG] at hok;simp only[xd,PG] at hW;unfold run at hr;split at hr
   . rename_i t ht;have hv:=(ht▸aA h c).x;exact wpIn_cond_split hv (fun e=>ihx K st a w m β hok.1 hW.1 h (hr.1 e)) (fun e=>ihy K st a w m β hok.2 hW.2 h (hr.2 e))
   . exact hr.elim
 | block id x ih=>
   intro K st a w m β hok hW h hr;refine wpIn_block (wpIn_mono (ih _ st a w m β hok hW h hr) ?_);rintro e a' w' ⟨hp,hk1⟩;cases e<;>simp only[dZ,Exit.inBlock] at hp⊢ <;>first|exact hp.elim|exact⟨hp,hk1⟩|skip
   rename_i id';by_cases hid:id'=id
   . simp only[hid,Qt] at hp⊢;exact⟨hp,hk1⟩
   . simp only[hid,Qr] at hp⊢;exact⟨hp,hk1⟩
 | loop x ih=>
   intro K st a w m β hok hW h hr;obtain⟨X,I,μ,x0,h0,hround⟩:=hr;let S:Act->World->Nat->Prop:=fun a' w k=>(∃x m β,μ x=k∧Rel E n pm m0 w0 m β (I x) a' w)∧KeepT W a.tmps a'.tmps
   let ν:Act->World->Nat:=fun a w=>Classical.epsilon fun k=>S a w k∧∀j,S a w j->k<=j
   have hspec:∀a w,(∃k,S a w k)->S a w (ν a w)∧∀j,S a w j->ν a w<=j:=fun a w ⟨k,hk⟩=>Sl (vO _ k hk)
   refine wpIn_loop (fun a w=>∃k,S a w k) ν ⟨_,⟨x0,m,β,rfl,h.le h0⟩,KeepT.refl _ _⟩ ?_;intro a1 w hS;have hν:=(hspec a1 w hS).1;obtain⟨⟨x,m1,β1,hx,hrel⟩,hk0⟩:=hν;refine wpIn_mono (ih _ (I x) a1 w m1 β1 hok hW hrel (hround x)) ?_;rintro e a' w' ⟨hp,hk1⟩;have hk1:=hk0.trans hk1;cases e<;>simp only[dZ,Exit.then] at hp⊢ <;>first|exact hp.elim|exact⟨hp,hk1⟩|skip
   obtain⟨st',m',β',⟨x',hle,hlt⟩,h'⟩:=hp;have hS':S a' w' (μ x'):=⟨⟨x',m',β',rfl,h'.le hle⟩,hk1⟩;refine⟨⟨_,hS'⟩,?_⟩;have:ν a' w'<=μ x':=(hspec a' w' ⟨_,hS'⟩).2 _ hS';omega
 |label l=>intro K st a w m β _ _ h hr;exact wpIn_label ⟨⟨st,m,β,hr,h⟩,KeepT.refl _ _⟩
 |exit id=>intro K st a w m β _ _ h hr;exact wpIn_exit ⟨⟨st,m,β,hr,h⟩,KeepT.refl _ _⟩
 |ret=>intro K st a w m β _ _ h hr;exact wpIn_ret ⟨⟨st,m,β,hr,h⟩,KeepT.refl _ _⟩
 |_=>intro K st a w m β _ _ h hr;simp[run] at hr
theorem nJ (hE:EnvX E pm) (hm:E.P.follows .mixedOrders=true) (c:Code) (K:Out->St->Prop) (st:St) (a:Act) (w:World) (m:Lim) (β:Nat->Nat) (hok:cz E.any n c=true) (h:Rel E n pm m0 w0 m β st a w) (hr:run E c st K):c.wp E.P (dZ E n pm m0 w0 K) a w:=
 wpIn_wide.1 (wpIn_mono (iG (r:=none) (W:=fun _=>true) hE hm c K st a w m β hok (oM c) h hr) (fun _ _ _ h=>h.1))
end
theorem fR {E:Env} {ops:Array Oper} {K K':St->Prop} (h:∀st,K st->K' st):∀(l:List Oper) (st:St),cj E ops l st K->cj E ops l st K'
 |[],st,hk=>h st hk
 | o ::l,st,hk=>by
   unfold cj at hk⊢;split at hk
   . rename_i b hb;refine⟨fun e=>?_,fun e=>fR h l _ (hk.2 e)⟩;have:=hk.1 e;split at this
     . exact fR h l _ this
     . exact this
   . exact hk
variable {E:Env} {st:St}
theorem lM {c:Code} {K K':Out->St->Prop} (h:∀o st,K o st->K' o st) (hr:run E c st K):run E c st K':=by
 induction c generalizing st K K' with
 |skip=>exact h _ _ hr
 | region id ops d=>
   cases d with
   |false=>exact fR (h .normal) _ _ hr
   | true=>
     unfold run at hr⊢;cases ha:E.any id with
     | true=>
       rw[ha] at hr;rcases hr with⟨J,tr,h1,h2,h3⟩|⟨J,ps,h1,h2,h3,h4⟩
       . exact .inl ⟨J,tr,h1,h2,h _ _ h3⟩
       . exact .inr ⟨J,ps,h1,h2,h3,h _ _ h4⟩
     |false=>rw[ha] at hr;exact⟨hr.1,fR (fun _ hk=>⟨hk.1,h _ _ hk.2⟩) _ _ hr.2⟩
 | seq a b iha ihb=>
   refine iha (fun o st' hk=>?_) hr;cases o with
   |normal=>exact ihb h hk
   |ret=>exact h _ _ hk
   |exit id=>exact h _ _ hk
 | cond c a b iha ihb=>
   unfold run at hr⊢;split at hr
   . exact⟨fun e=>iha h (hr.1 e),fun e=>ihb h (hr.2 e)⟩
   . exact hr.elim
 | block id a ih=>
   refine ih (fun o st' hk=>?_) hr;cases o with
   |normal=>exact h _ _ hk
   |ret=>exact h _ _ hk
   | exit id'=>
     by_cases e:id'=id
     . simp only[e,Qt] at hk⊢;exact h _ _ hk
     . simp only[e,Qr] at hk⊢;exact h _ _ hk
 | loop a ih=>
   obtain⟨X,I,μ,x0,h0,hx⟩:=hr;refine⟨X,I,μ,x0,h0,fun x=>ih (fun o st' hk=>?_) (hx x)⟩;cases o with
   |normal=>exact hk
   |ret=>exact h _ _ hk
   |exit id=>exact h _ _ hk
 |label l=>exact h _ _ hr
 |exit id=>exact h _ _ hr
 |ret=>exact h _ _ hr
 |_=>simp[run] at hr
noncomputable def fS (E:Env) (st:St):ResultVar->Option V
 | .tmp t=>if (st.t t).notPtr=true then some (st.t t).bare else none
 | .cell a t=>(jc E st.b t (st.t a)).map V.bare
noncomputable def oN (E:Env) (st:St):List ResultVar->Option (List V)
 |[]=>some []
 | r::rs=>match fS E st r,oN E st rs with
   |some u,some us=>some (u::us)
   |_,_=>none
noncomputable def fv (E:Env) (st:St) (rs:List ResultVar):Option V:=
 match oN E st rs with
 |some [u]=>some u
 |some us=>some (.tup us)
 |none=>none
def IN (E:Env) (rs:List ResultVar) (r:V):Out->St->Prop
 | .exit _,_=>False
 |_,st=>fv E st rs=some r
def dw:Nat->List V->(Nat->Option (List V))->Option (List (List V))
 |_,[],_=>some []
 | k,.bx _::us,b=>match b (1000+k),dw (k+1) us b with
   |some c,some l=>some (c::l)
   |_,_=>none
 |k,_::us,b=>dw (k+1) us b
def dx:Nat->List V->(Nat->V)->Option (List (List V))
 |_,[],_=>some []
 | k,.mp _ _ _::us,t=>match t k,dx (k+1) us t with
   | .mp s ks vs,some l=>if s=1000+k then some ([.mp 0 ks vs]::l) else none
   |_,_=>none
 |k,_::us,t=>dx (k+1) us t
def kJ (us:List V) (st:St):Option (List (List V)):=
 match dw 0 us st.b,dx 0 us st.t with
 |some a,some b=>some (a++b)
 |_,_=>none
def ql (E:Env) (rs:List ResultVar) (us:List V) (r:V) (outs:List (List V)):Out->St->Prop
 | .exit _,_=>False
 |_,st=>fv E st rs=some r∧kJ us st=some outs
def jj (k:Nat):V->V
 | .bx _=> .ptr (1000+k) 0
 | .sl nl sz es (some _)=> .sl nl sz es (some (1000+k))
 | .mp _ ks vs=> .mp (1000+k) ks vs
 |u=>u
noncomputable def GC:V->Option V
 | .sl nl sz es (some _)=>some (.sl nl sz es (some 0))
 |u=>if u.notPtr=true then some u.bare else none
noncomputable def qn (E:Env) (st:St):List ResultVar->Option V
 |[.tmp t]=>GC (st.t t)
 |rs=>fv E st rs
def IP (E:Env) (rs:List ResultVar) (us:List V) (r:V) (outs:List (List V)):Out->St->Prop
 | .exit _,_=>False
 |_,st=>qn E st rs=some r∧kJ us st=some outs
def fa:Nat->List V->(Nat->V)
 |_,[]=>fun _=> .undef
 |k,u::us=>aw (fa (k+1) us) k (jj k u)
def cS:Nat->List V->(Nat->Option (List V))
 |_,[]=>fun _=>none
 |k,.bx cs::us=>aw (cS (k+1) us) (1000+k) (some cs)
 |k,_::us=>cS (k+1) us
def cA (us:List V):St:=⟨fa 0 us,cS 0 us⟩
def iH:Nat->List V->(Nat->V)
 |_,[]=>fun _=> .undef
 |k,u::us=>aw (iH (k+1) us) k u
def start (us:List V):St:=⟨iH 0 us,fun _=>none⟩
section
variable {E:Env} {n:Nat} {pm:Pm} {m0 m:Lim} {w0 w:World} {β:Nat->Nat} {st:St} {a:Act}
theorem fw:∀(us:List V) (k i:Nat),iH k us (k+i)=(us[i]?).getD .undef
 |[],_,_=>by simp[iH]
 |u::us,k,0=>by simp[iH,aa]
 |u::us,k,i+1=>by simp only[iH];rw[ae _ _ (by omega)];have:=fw us (k+1) i;rw[show k+(i+1)=k+1+i from by omega,this];simp
theorem oO (h:Rel E n pm m0 w0 m β st a w) {r:ResultVar} {u:V} (hr:fS E st r=some u):
 ∃v,(match r with| .tmp t=>pure (a.tmps.getD t Go.undef)| .cell x t=>do loadVar t (<-asAddr (a.tmps.getD x Go.undef)):Sem Value).run E.P w= .ok v w∧Rd m w v u:=by
 cases r with
 | tmp t=>
   simp only[fS] at hr;split at hr
   . rename_i hn;cases hr;exact⟨_,rfl,((h.tmps t).rd (by generalize st.t t=u at hn;cases u<;>first|rfl|(simp[V.notPtr] at hn))).bare⟩
   . simp at hr
 | cell x t=>
   simp only[fS,PK] at hr;obtain⟨u0,hr,rfl⟩:=hr;obtain⟨v,hrun,hv⟩:=ku h (h.tmps x) hr;refine⟨v,?_,hv.bare⟩;show(do loadVar t (<-asAddr (a.tmps.getD x Go.undef)):Sem Value).run E.P w= .ok v w;generalize a.tmps.getD x Go.undef=p at hrun;cases p with
   | pointer q=>cases q with
     |none=>simp[Instr.loadAt,Instr.sureAddr] at hrun
     |some q=>simpa[Instr.loadAt,Instr.sureAddr,asAddr] using hrun
   |_=>simp[Instr.loadAt,Instr.sureAddr] at hrun
theorem lN (h:Rel E n pm m0 w0 m β st a w):∀(rs:List ResultVar) (us:List V),oN E st rs=some us->
 ∃vs,(rs.mapM fun| .tmp t=>pure (a.tmps.getD t Go.undef)| .cell x t=>do loadVar t (<-asAddr (a.tmps.getD x Go.undef)):Sem (List Value)).run E.P w= .ok vs w∧RdL m w vs us
 |[],us,hr=>by simp[oN] at hr;subst hr;exact⟨[],by simp,trivial⟩
 | r::rs,us,hr=>by
   unfold oN at hr;split at hr
   . rename_i u us' h1 h2;cases hr;obtain⟨v,hv,hd⟩:=oO h h1;obtain⟨vs,hvs,hds⟩:=lN h rs us' h2;refine⟨v::vs,?_,hd,hds⟩;rw[R5,Sem.run_bind,hv];simp only[Result.andThen_ok];rw[Sem.run_bind,hvs];rfl
   . simp at hr
theorem fT (h:Rel E n pm m0 w0 m β st a w) {fn:Func} {u:V} (hr:fv E st fn.results.toList=some u):∃v,(results fn a.tmps).run E.P w= .ok v w∧Rd m w v u:=by
 unfold fv at hr;have key:∀us,oN E st fn.results.toList=some us->∃vs,(results fn a.tmps).run E.P w= .ok (if h:vs.toArray.size=1 then vs.toArray[0] else .tuple vs.toArray) w∧RdL m w vs us:=by intro us hus;obtain⟨vs,hvs,hd⟩:=lN h _ _ hus;refine⟨vs,?_,hd⟩;unfold results;rw[R6,Sem.run_bind,Sem.run_map];exact Eq.trans (RB (fun r:Result (List Value)=>(r.andThen fun a w'=>Result.ok a.toArray w').andThen fun a w'=>(pure (if h:a.size=1 then a[0] else Value.tuple a):Sem Value).run E.P w') hvs) rfl
 split at hr
 . rename_i u' hu;cases hr;obtain⟨vs,hrun,hd⟩:=key _ hu
   match vs,hd with
   |[v],hd=>exact⟨v,by rw[hrun];rfl,hd.1⟩
   |_::_::_,hd=>exact hd.2.elim
 . rename_i us hne hu;cases hr;obtain⟨vs,hrun,hd⟩:=key _ hu;refine⟨.tuple vs.toArray,?_,Rd.tup_iff.2 ⟨_,rfl,by simpa using hd⟩⟩;rw[hrun,dif_neg];intro h1;have:=hd.length;simp at h1;obtain⟨u,rfl⟩:=List.length_eq_one_iff.1 (show us.length=1 by omega);exact hne u rfl
 . simp at hr
variable {fn:Func} {us:List V} {k:Nat}
theorem xe {vs:Array Value} (hn:fn.ntmps=n) (hk:k<=n) (hn1:n<=1000) (hl:us.length=k) (hdat:us.all V.dat=true) (hr:RdL m w vs.toList us) (hj:E.J w) (hg:∀g,Rd m w (.pointer (some ⟨g,0,none⟩)) (E.G g)):
 Rel E n ⟨[],id,[],[]⟩ m w m id (start us) {tmps:=vs++Array.replicate (fn.ntmps-vs.size) Go.undef,defers:=[]} w:=by
 have hlen:=hr.length;simp only[PR] at hlen;have hnot:∀i sz es s,(start us).t i= .sl false sz es (some s)->False:=by
  intro i sz es s hi;have hs:(start us).t i=(us[i]?).getD .undef:=by have:=fw us 0 i;simpa[start] using this
  rw[hs] at hi;cases hu:us[i]? with
  |none=>rw[hu] at hi;cases hi
  |some u=>rw[hu] at hi;simp only[QV] at hi;have:=PJ.1 hdat u (PM hu);rw[hi] at this;simp[V.dat] at this
 have hnomp:∀i s ks vs,(start us).t i= .mp s ks vs->False:=by
  intro i s ks vs hi;have hs:(start us).t i=(us[i]?).getD .undef:=by have:=fw us 0 i;simpa[start] using this
  rw[hs] at hi;cases hu:us[i]? with
  |none=>rw[hu] at hi;cases hi
  |some u=>rw[hu] at hi;simp only[QV] at hi;have:=PJ.1 hdat u (PM hu);rw[hi] at this;simp[V.dat] at this
 have hnob:∀v sz es s,Bear E w id (start us) (fun i=>(vs++Array.replicate (fn.ntmps-vs.size) Go.undef).getD i Go.undef) v (.sl false sz es (some s))->False:=by
  intro v sz es s hi;rcases hi with⟨i,h1,_⟩|⟨k',c,j,_,h2,_⟩
  . exact hnot i sz es s h1
  . simp[start] at h2
 have hrel:Rel E n ⟨[],id,[],[]⟩ m w m id (start us) {tmps:=vs++Array.replicate (fn.ntmps-vs.size) Go.undef,defers:=[]} w:=by
  refine⟨fun i=>?_,by simp;omega,fun s cs hs=>by simp[start] at hs,fun s s' cs cs' hs=>by simp[start] at hs,Bel.refl _ _,⟨hn1,fun _ _=>rfl,fun x hx=>by cases hx⟩,⟨fun _ _ _=>rfl,Ext.refl _ _,fun x hx=>by cases hx⟩,⟨id,fun v sz es s hi=>(hnob v sz es s hi).elim,fun v sz es s v' sz' es' s' hi=>(hnob v sz es s hi).elim,fun v sz es s k cs hi=>(hnob v sz es s hi).elim⟩,fun i s sz len cs hi hs=>by simp[start] at hs,rfl,hg,hj,⟨fun i s ks vs hi=>(hnomp i s ks vs hi).elim,fun i j s s' ks vs ks' vs' hi=>(hnomp i s ks vs hi).elim⟩⟩;have hs:(start us).t i=(us[i]?).getD .undef:=by have:=fw us 0 i;simpa[start] using this
  rw[hs];rcases Ql i us.length with h'|h'
  . have hu:us[i]?=some us[i]:=Io h';have hv:vs.toList[i]?=some (vs[i]'(by omega)):=by simp
    rw[hu];have h1:(vs++Array.replicate (fn.ntmps-vs.size) Go.undef).getD i Go.undef=vs[i]'(by omega):=by rw[P0,Qz (by omega),PW (by omega)];rfl
    simp only[h1,QV];exact .of (hr.get i _ _ hv hu)
  . rw[Qc h'];exact .of (.undef _)
 exact hrel
theorem cn (hE:EnvOK E) (hm:E.P.follows .mixedOrders=true) {f:FuncId} {fn:Func} {c:Code} {F:List V->Option V} {k:Nat} (hf:E.P.funcs[f]?=some fn) (hb:fn.body=some c)
 (hcall:∀args w,(callFunc f args).run E.P w= .ok (.enter f args) w) (hn:fn.ntmps=n) (hok:cz E.any n c=true) (hk:k<=n) (hn1:n<=1000)
 (hrun:∀us r,F us=some r->us.all V.dat=true->us.length=k∧run E c (start us) (IN E fn.results.toList r)):Fun E f F:=by
 refine⟨hcall,fun m w vs us r hF hdat hr hj hg=>?_⟩;obtain⟨hl,hrun⟩:=hrun us r hF hdat;have hrel:=xe hn hk hn1 hl hdat hr hj hg;refine calls_of_wp hf hb (wp_mono (nJ (hE.x (.inr (by simp))) hm c _ _ _ _ _ _ hok hrel hrun) ?_);intro e a' w' hp;have done:∀st' m' β',fv E st' fn.results.toList=some r->Rel E n ⟨[],id,[],[]⟩ m w m' β' st' a' w'->a'.defers=[]∧∃v,(results fn a'.tmps).run E.P w'= .ok v w'∧∃v' m',Ending.returned v= .returned v'∧Rd m' w' v' r∧Below w.heap.size w w'∧∀blk,blk<w.heap.size->m' blk=m blk:=by intro st' m' β' h1 h2;obtain⟨v,hv,hd⟩:=fT h2 h1;exact⟨h2.defers,v,hv,v,m',rfl,hd,h2.below.below,fun blk hb=>h2.mold.1 blk hb (by simp)⟩
 cases e with
 |normal=>obtain⟨st',m',β',h1,h2⟩:=hp;exact done st' m' β' h1 h2
 |ret=>obtain⟨st',m',β',h1,h2⟩:=hp;exact done st' m' β' h1 h2
 |exit id=>obtain⟨st',m',β',h1,h2⟩:=hp;exact h1.elim
 |goto l=>exact hp.elim
 |panic ch=>exact hp.elim
 |outgrown=>exact hp.elim
def zW (ks vs:List V):V->Prop
 | .mp _ ks' vs'=>ks'=ks∧vs'=vs
 |_=>False
def IQ (t:Tmp) (ks vs:List V):Out->St->Prop
 | .exit _,_=>False
 |_,st=>zW ks vs (st.t t)
def V.isBx:V->Bool
 | .bx _=>true
 |_=>false
variable {u:V}
theorem zY {nl:Bool} {sz:Nat} {es:List V} {q:Option Nat} (h:jj k u= .sl nl sz es q):∃q',u= .sl nl sz es q'∧(q=none∧q'=none∨q=some (1000+k)∧∃j,q'=some j):=by
 cases u with
 | sl nl' sz' es' tok=>cases tok with
   |none=>cases h;exact⟨none,rfl,.inl ⟨rfl,rfl⟩⟩
   |some j=>cases h;exact⟨some j,rfl,.inr ⟨rfl,j,rfl⟩⟩
 |_=>cases h
def V.isMp:V->Bool
 | .mp .. =>true
 |_=>false
variable {s:Nat}
theorem zZ {ks vs:List V} (h:jj k u= .mp s ks vs):s=1000+k∧∃s0,u= .mp s0 ks vs:=by
 cases u with
 |sl nl' sz' es' tok=>cases tok<;>cases h
 |mp s' k' v'=>cases h;exact⟨rfl,s',rfl⟩
 |_=>cases h
theorem eI {t:Nat->V} (h:u.isMp=false):dx k (u::us) t=dx (k+1) us t:=by cases u<;>first|rfl|cases h
theorem xf {z l:Nat} (h:jj k u= .row s z l):u= .row s z l:=by
 cases u with
 |sl nl' sz' es' tok=>cases tok<;>cases h
 |row s' z' l'=>exact h
 |_=>cases h
theorem z6 (h1:u.isBx=false) (h2:u.unm=true) (h3:u.isMp=false):jj k u=u:=by
 cases u with
 | sl nl' sz' es' tok=>cases tok with
   |none=>rfl
   |some j=>cases h2
 |bx cs=>cases h1
 |mp s ks vs=>cases h3
 |_=>rfl
theorem lO:∀(us:List V) (k i:Nat),fa k us (k+i)=match us[i]? with|some u=>jj (k+i) u|none=> .undef
 |[],_,_=>by simp[fa]
 |u::us,k,0=>by simp[fa,aa]
 |u::us,k,i+1=>by simp only[fa];rw[ae _ _ (by omega)];have:=lO us (k+1) i;rw[show k+(i+1)=k+1+i from by omega,this];simp
theorem iI (h:u.isBx=false):cS k (u::us)=cS (k+1) us:=by cases u<;>first|rfl|cases h
variable {b:Nat->Option (List V)}
theorem eJ (h:u.isBx=false):dw k (u::us) b=dw (k+1) us b:=by cases u<;>first|rfl|cases h
theorem iJ:∀(us:List V) (k s:Nat) (cs:List V),cS k us s=some cs->∃i:Nat,s=1000+(k+i)∧us[i]?=some (.bx cs)
 |[],_,_,_,h=>by simp[cS] at h
 | u ::us,k,s,cs,h=>by
   cases hu:u.isBx with
   |false=>rw[iI hu] at h;obtain⟨i,h1,h2⟩:=iJ us (k+1) s cs h;exact⟨i+1,by omega,by simpa using h2⟩
   | true=>
     cases u<;>first|cases hu|skip
     rename_i cs0;simp only[cS,aD] at h;split at h
     . rename_i e;cases h;exact⟨0,by omega,rfl⟩
     . obtain⟨i,h1,h2⟩:=iJ us (k+1) s cs h;exact⟨i+1,by omega,by simpa using h2⟩
variable {vs:List Value} {bs gs hs:List Nat}
theorem ArgsP.place {K:Nat} (h:ArgsP m w K vs us bs gs hs):(bs++gs).Nodup->hs.Nodup->∀k:Nat,∃γ:Nat->Nat,
 (∀(i:Nat) (cs:List V),us[i]?=some (.bx cs)->vs[i]?=some (.pointer (some ⟨γ (1000+(k+i)),0,none⟩))∧BoxAt m w (γ (1000+(k+i))) cs∧γ (1000+(k+i))∈bs)∧
 (∀(i:Nat) (u:V),us[i]?=some u->u.isBx=false->u.isMp=false->∃v,vs[i]?=some v∧Rd m w v u∧(u.unm=true->u.dat=true)∧∀sz es q,u= .sl false sz es (some q)->RowIs m w v (γ (1000+(k+i))) sz es.length∧γ (1000+(k+i))∈gs)∧
 (∀(b':Nat->Option (List V)) (outs:List (List V)),dw k us b'=some outs->∀(m':Lim) (w':World),(∀(i:Nat) (cs c':List V),us[i]?=some (.bx cs)->b' (1000+(k+i))=some c'->BoxAt m' w' (γ (1000+(k+i))) c')->OutsP m' w' bs outs)∧
 (∀(i j:Nat) (cs cs':List V),us[i]?=some (.bx cs)->us[j]?=some (.bx cs')->γ (1000+(k+i))=γ (1000+(k+j))->i=j)∧
 (∀(i j:Nat) (sz sz' q q':Nat) (es es':List V),us[i]?=some (.sl false sz es (some q))->us[j]?=some (.sl false sz' es' (some q'))->γ (1000+(k+i))=γ (1000+(k+j))->i=j)∧
 (∀x∈bs++gs,K<=x)∧
 (∀(i s:Nat) (ks us':List V),us[i]?=some (.mp s ks us')->vs[i]?=some (.map (some (γ (1000+(k+i)))))∧MapAt m w (γ (1000+(k+i))) ks us'∧γ (1000+(k+i))∈hs)∧
 (∀(t':Nat->V) (outs:List (List V)),dx k us t'=some outs->∀(m':Lim) (w':World),(∀(i s:Nat) (ks us' ks2 us2:List V),us[i]?=some (.mp s ks us')->t' (k+i)= .mp (1000+(k+i)) ks2 us2->MapAt m' w' (γ (1000+(k+i))) ks2 us2)->OutsM m' w' hs outs)∧
 (∀(i j s s':Nat) (ks us' ks2 us2:List V),us[i]?=some (.mp s ks us')->us[j]?=some (.mp s' ks2 us2)->γ (1000+(k+i))=γ (1000+(k+j))->i=j)∧
 ∀x∈hs,K<=x:=by
 have hne:∀k i:Nat,1000+(k+1+i)≠1000+k:=fun k i=>by omega
 have hsh:∀k i:Nat,1000+(k+(i+1))=1000+(k+1+i):=fun k i=>by omega
 have h00:∀k:Nat,1000+(k+0)=1000+k:=fun k=>by omega
 induction h with
 |nil=>intro _ _ k;exact⟨id,fun i cs h=>by simp at h,fun i u h=>by simp at h,fun b' outs h m' w' _=>by cases h;trivial,fun i j cs cs' h=>by simp at h,fun i j sz sz' q q' es es' h=>by simp at h,fun x hx=>(by cases hx),fun i s ks us' h=>(by simp at h),fun t' outs h m' w' _=>(by cases h;trivial),fun i j s s' ks us' ks2 us2 h=>(by simp at h),fun x hx=>(by cases hx)⟩
 | bx hb hK h ih=>
   rename_i b cs0 vs us bs gs hs;intro hn hhn k;rw[QM,QF] at hn;obtain⟨γ,h1,h2,h3,h4,h6,h5,h7,h8,h9,h10⟩:=ih hn.2 hhn (k+1);refine⟨aw γ (1000+k) b,fun i cs hi=>?_,fun i u hi hu hu2=>?_,fun b' outs ho m' w' hbx=>?_,fun i j cs cs' hi hj he=>?_,fun i j sz sz' q q' es es' hi hj he=>?_,fun x hx=>?_,fun i s ks us' hi=>?_,fun t' outs ho m' w' hmp=>?_,fun i j s s' ks us' ks2 us2 hi hj he=>?_,h10⟩
   . cases i with
     |zero=>simp at hi;subst hi;rw[h00,aa];exact⟨rfl,hb,by simp⟩
     |succ i=>rw[hsh k i,ae _ _ (hne k i)];obtain⟨q1,q2,q3⟩:=h1 i cs (by simpa using hi);exact⟨by simpa using q1,q2,by simp[q3]⟩
   . cases i with
     |zero=>simp at hi;subst hi;cases hu
     |succ i=>rw[hsh k i,ae _ _ (hne k i)];obtain⟨v,q1,q2⟩:=h2 i u (by simpa using hi) hu hu2;exact⟨v,by simpa using q1,q2⟩
   . simp only[dw] at ho;split at ho
     . rename_i c l hc hl;cases ho;refine⟨?_,h3 _ _ hl m' w' (fun i cs c' hi hs=>?_)⟩
       . have:=hbx 0 cs0 c rfl hc
         rwa [h00,aa] at this
       . have:=hbx (i+1) cs c' (by simpa using hi) (by rw[hsh k i];exact hs)
         rwa [hsh k i,ae _ _ (hne k i)] at this
     . cases ho
   . cases i with
     | zero=>cases j with
       |zero=>rfl
       |succ j=>rw[h00,hsh k j,aa,ae _ _ (hne k j)] at he;obtain⟨_,_,q3⟩:=h1 j cs' (by simpa using hj);exact absurd (Qp _ (he▸q3)) hn.1
     | succ i=>cases j with
       |zero=>rw[h00,hsh k i,aa,ae _ _ (hne k i)] at he;obtain⟨_,_,q3⟩:=h1 i cs (by simpa using hi);exact absurd (Qp _ (he▸q3)) hn.1
       |succ j=>rw[hsh k i,hsh k j,ae _ _ (hne k i),ae _ _ (hne k j)] at he;rw[h4 i j cs cs' (by simpa using hi) (by simpa using hj) he]
   . cases i with
     |zero=>simp at hi
     | succ i=>cases j with
       |zero=>simp at hj
       |succ j=>rw[hsh k i,hsh k j,ae _ _ (hne k i),ae _ _ (hne k j)] at he;rw[h6 i j sz sz' q q' es es' (by simpa using hi) (by simpa using hj) he]
   . rcases PY.1 hx with rfl|hx
     . exact hK
     . exact h5 x hx
   . cases i with
     |zero=>simp at hi
     |succ i=>rw[hsh k i,ae _ _ (hne k i)];obtain⟨q1,q2⟩:=h7 i s ks us' (by simpa using hi);exact⟨by simpa using q1,q2⟩
   . rw[eI rfl] at ho;exact h8 t' outs ho m' w' (fun i s ks us' ks2 us2 hi ht=>by
      have:=hmp (i+1) s ks us' ks2 us2 (by simpa using hi) (by rw[show k+(i+1)=k+1+i from by omega];rw[show 1000+(k+1+i)=1000+(k+1+i) from rfl];exact ht)
      rwa [hsh k i,ae _ _ (hne k i)] at this)
   . cases i with
     |zero=>simp at hi
     | succ i=>cases j with
       |zero=>simp at hj
       |succ j=>rw[hsh k i,hsh k j,ae _ _ (hne k i),ae _ _ (hne k j)] at he;rw[h9 i j s s' ks us' ks2 us2 (by simpa using hi) (by simpa using hj) he]
 | row hr hi0 hK h ih=>
   rename_i v0 fh g es0 vs us bs gs hs;intro hn hhn k;rw[QJ] at hn;obtain⟨hn1,hn2,hn3⟩:=hn;rw[QF] at hn2;obtain⟨γ,h1,h2,h3,h4,h6,h5,h7,h8,h9,h10⟩:=ih (QJ.2 ⟨hn1,hn2.2,fun x hx y hy=>hn3 x hx y (P4 _ hy)⟩) hhn (k+1);refine⟨aw γ (1000+k) g,fun i cs hi=>?_,fun i u hi hu hu2=>?_,fun b' outs ho m' w' hbx=>?_,fun i j cs cs' hi hj he=>?_,fun i j sz sz' q q' es es' hi hj he=>?_,fun x hx=>?_,fun i s ks us' hi=>?_,fun t' outs ho m' w' hmp=>?_,fun i j s s' ks us' ks2 us2 hi hj he=>?_,h10⟩
   . cases i with
     |zero=>simp at hi
     |succ i=>rw[hsh k i,ae _ _ (hne k i)];obtain⟨q1,q2,q3⟩:=h1 i cs (by simpa using hi);exact⟨by simpa using q1,q2,q3⟩
   . cases i with
     |zero=>simp at hi;subst hi;rw[h00,aa];refine⟨v0,rfl,hr,fun hm=>(by cases hm),fun sz es q e=>?_⟩;cases e;exact⟨hi0,by simp⟩
     |succ i=>rw[hsh k i,ae _ _ (hne k i)];obtain⟨v,q1,q2,q3,q4⟩:=h2 i u (by simpa using hi) hu hu2;exact⟨v,by simpa using q1,q2,q3,fun sz es q e=>⟨(q4 sz es q e).1,by simp[(q4 sz es q e).2]⟩⟩
   . rw[eJ rfl] at ho;exact h3 b' outs ho m' w' (fun i cs c' hi hs=>by
      have:=hbx (i+1) cs c' (by simpa using hi) (by rw[hsh k i];exact hs)
      rwa [hsh k i,ae _ _ (hne k i)] at this)
   . cases i with
     |zero=>simp at hi
     | succ i=>cases j with
       |zero=>simp at hj
       |succ j=>rw[hsh k i,hsh k j,ae _ _ (hne k i),ae _ _ (hne k j)] at he;rw[h4 i j cs cs' (by simpa using hi) (by simpa using hj) he]
   . have hq7:∀(i sz q:Nat) (es:List V),us[i]?=some (.sl false sz es (some q))->γ (1000+(k+1+i))∈gs:=fun i sz q es hi=>by obtain⟨v,_,_,_,q4⟩:=h2 i _ hi rfl rfl;exact(q4 sz es q rfl).2
     cases i with
     | zero=>cases j with
       |zero=>rfl
       |succ j=>rw[h00,hsh k j,aa,ae _ _ (hne k j)] at he;exact absurd (he▸hq7 j sz' q' es' (by simpa using hj)) hn2.1
     | succ i=>cases j with
       |zero=>rw[h00,hsh k i,aa,ae _ _ (hne k i)] at he;exact absurd (he▸hq7 i sz q es (by simpa using hi)) hn2.1
       |succ j=>rw[hsh k i,hsh k j,ae _ _ (hne k i),ae _ _ (hne k j)] at he;rw[h6 i j sz sz' q q' es es' (by simpa using hi) (by simpa using hj) he]
   . rcases PU.1 hx with hx|hx
     . exact h5 x (Qp _ hx)
     . rcases PY.1 hx with rfl|hx
       . exact hK
       . exact h5 x (Rl _ hx)
   . cases i with
     |zero=>simp at hi
     |succ i=>rw[hsh k i,ae _ _ (hne k i)];obtain⟨q1,q2⟩:=h7 i s ks us' (by simpa using hi);exact⟨by simpa using q1,q2⟩
   . rw[eI rfl] at ho;exact h8 t' outs ho m' w' (fun i s ks us' ks2 us2 hi ht=>by
      have:=hmp (i+1) s ks us' ks2 us2 (by simpa using hi) (by rw[show k+(i+1)=k+1+i from by omega];rw[show 1000+(k+1+i)=1000+(k+1+i) from rfl];exact ht)
      rwa [hsh k i,ae _ _ (hne k i)] at this)
   . cases i with
     |zero=>simp at hi
     | succ i=>cases j with
       |zero=>simp at hj
       |succ j=>rw[hsh k i,hsh k j,ae _ _ (hne k i),ae _ _ (hne k j)] at he;rw[h9 i j s s' ks us' ks2 us2 (by simpa using hi) (by simpa using hj) he]
 | no h ih=>
   rename_i vs us bs gs hs;intro hn hhn k;obtain⟨γ,h1,h2,h3,h4,h6,h5,h7,h8,h9,h10⟩:=ih hn hhn (k+1);refine⟨γ,fun i cs hi=>?_,fun i u' hi hu hu2=>?_,fun b' outs ho m' w' hbx=>?_,fun i j cs cs' hi hj he=>?_,fun i j sz sz' q q' es es' hi hj he=>?_,h5,fun i s ks us' hi=>?_,fun t' outs ho m' w' hmp=>?_,fun i j s s' ks us' ks2 us2 hi hj he=>?_,h10⟩
   . cases i with
     |zero=>simp at hi
     |succ i=>rw[hsh k i];obtain⟨q1,q2⟩:=h1 i cs (by simpa using hi);exact⟨by simpa using q1,q2⟩
   . cases i with
     |zero=>simp at hi;subst hi;exact⟨_,rfl,.nil _ _,fun hm=>(by cases hm),fun sz es q e=>by cases e⟩
     |succ i=>rw[hsh k i];obtain⟨v,q1,q2⟩:=h2 i u' (by simpa using hi) hu hu2;exact⟨v,by simpa using q1,q2⟩
   . rw[eJ rfl] at ho;exact h3 b' outs ho m' w' (fun i cs c' hi hs=>by
      have:=hbx (i+1) cs c' (by simpa using hi) (by rw[hsh k i];exact hs)
      rwa [hsh k i] at this)
   . cases i with
     |zero=>simp at hi
     | succ i=>cases j with
       |zero=>simp at hj
       |succ j=>rw[hsh k i,hsh k j] at he;rw[h4 i j cs cs' (by simpa using hi) (by simpa using hj) he]
   . cases i with
     |zero=>simp at hi
     | succ i=>cases j with
       |zero=>simp at hj
       |succ j=>rw[hsh k i,hsh k j] at he;rw[h6 i j sz sz' q q' es es' (by simpa using hi) (by simpa using hj) he]
   . cases i with
     |zero=>simp at hi
     |succ i=>rw[hsh k i];obtain⟨q1,q2⟩:=h7 i s ks us' (by simpa using hi);exact⟨by simpa using q1,q2⟩
   . rw[eI rfl] at ho;exact h8 t' outs ho m' w' (fun i s ks us' ks2 us2 hi ht=>by
      have:=hmp (i+1) s ks us' ks2 us2 (by simpa using hi) (by rw[show k+(i+1)=k+1+i from by omega];rw[show 1000+(k+1+i)=1000+(k+1+i) from rfl];exact ht)
      rwa [hsh k i] at this)
   . cases i with
     |zero=>simp at hi
     | succ i=>cases j with
       |zero=>simp at hj
       |succ j=>rw[hsh k i,hsh k j] at he;rw[h9 i j s s' ks us' ks2 us2 (by simpa using hi) (by simpa using hj) he]
 | mp hm0 hK h ih=>
   rename_i g ks0 us0 vs us bs gs hs;intro hn hhn k;rw[QF] at hhn;obtain⟨γ,h1,h2,h3,h4,h6,h5,h7,h8,h9,h10⟩:=ih hn hhn.2 (k+1);refine⟨aw γ (1000+k) g,fun i cs hi=>?_,fun i u' hi hu hu2=>?_,fun b' outs ho m' w' hbx=>?_,fun i j cs cs' hi hj he=>?_,fun i j sz sz' q q' es es' hi hj he=>?_,h5,fun i s ks us' hi=>?_,fun t' outs ho m' w' hmp=>?_,fun i j s s' ks us' ks2 us2 hi hj he=>?_,fun x hx=>?_⟩
   . cases i with
     |zero=>simp at hi
     |succ i=>rw[hsh k i,ae _ _ (hne k i)];obtain⟨q1,q2⟩:=h1 i cs (by simpa using hi);exact⟨by simpa using q1,q2⟩
   . cases i with
     |zero=>simp at hi;subst hi;cases hu2
     |succ i=>rw[hsh k i,ae _ _ (hne k i)];obtain⟨v,q1,q2⟩:=h2 i u' (by simpa using hi) hu hu2;exact⟨v,by simpa using q1,q2⟩
   . rw[eJ rfl] at ho;exact h3 b' outs ho m' w' (fun i cs c' hi hs=>by
      have:=hbx (i+1) cs c' (by simpa using hi) (by rw[hsh k i];exact hs)
      rwa [hsh k i,ae _ _ (hne k i)] at this)
   . cases i with
     |zero=>simp at hi
     | succ i=>cases j with
       |zero=>simp at hj
       |succ j=>rw[hsh k i,hsh k j,ae _ _ (hne k i),ae _ _ (hne k j)] at he;rw[h4 i j cs cs' (by simpa using hi) (by simpa using hj) he]
   . cases i with
     |zero=>simp at hi
     | succ i=>cases j with
       |zero=>simp at hj
       |succ j=>rw[hsh k i,hsh k j,ae _ _ (hne k i),ae _ _ (hne k j)] at he;rw[h6 i j sz sz' q q' es es' (by simpa using hi) (by simpa using hj) he]
   . cases i with
     |zero=>simp at hi;obtain⟨_,rfl,rfl⟩:=hi;rw[h00,aa];exact⟨rfl,hm0,by simp⟩
     |succ i=>rw[hsh k i,ae _ _ (hne k i)];obtain⟨q1,q2,q3⟩:=h7 i s ks us' (by simpa using hi);exact⟨by simpa using q1,q2,P4 _ q3⟩
   . simp only[dx] at ho;split at ho
     . rename_i s2 ks2 us2 l ht hl;split at ho
       . rename_i e;cases ho;subst e;refine⟨⟨0,ks2,us2,rfl,?_⟩,h8 _ _ hl m' w' (fun i s ks us' ks3 us3 hi ht2=>?_)⟩
         . have:=hmp 0 0 ks0 us0 ks2 us2 rfl (by simpa using ht)
           rwa [h00,aa] at this
         . have:=hmp (i+1) s ks us' ks3 us3 (by simpa using hi) (by rw[show k+(i+1)=k+1+i from by omega];exact ht2)
           rwa [hsh k i,ae _ _ (hne k i)] at this
       . cases ho
     . cases ho
   . cases i with
     | zero=>cases j with
       |zero=>rfl
       |succ j=>rw[h00,hsh k j,aa,ae _ _ (hne k j)] at he;obtain⟨_,_,q3⟩:=h7 j s' ks2 us2 (by simpa using hj);exact absurd (he▸q3) hhn.1
     | succ i=>cases j with
       |zero=>rw[h00,hsh k i,aa,ae _ _ (hne k i)] at he;obtain⟨_,_,q3⟩:=h7 i s ks us' (by simpa using hi);exact absurd (he▸q3) hhn.1
       |succ j=>rw[hsh k i,hsh k j,ae _ _ (hne k i),ae _ _ (hne k j)] at he;rw[h9 i j s s' ks us' ks2 us2 (by simpa using hi) (by simpa using hj) he]
   . rcases PY.1 hx with rfl|hx
     . exact hK
     . exact h10 x hx
 | dat hr hd h ih=>
   rename_i v u vs us bs gs hs;intro hn hhn k;have hu0:u.isBx=false:=by cases u<;>first|rfl|(simp[V.dat] at hd)
   have hu1:∀nl sz es q,u≠ .sl nl sz es (some q):=fun nl sz es q e=>by subst e;cases hd
   have hu2:u.isMp=false:=by cases u<;>first|rfl|(simp[V.dat] at hd)
   obtain⟨γ,h1,h2,h3,h4,h6,h5,h7,h8,h9,h10⟩:=ih hn hhn (k+1);refine⟨γ,fun i cs hi=>?_,fun i u' hi hu hu3=>?_,fun b' outs ho m' w' hbx=>?_,fun i j cs cs' hi hj he=>?_,fun i j sz sz' q q' es es' hi hj he=>?_,h5,fun i s ks us' hi=>?_,fun t' outs ho m' w' hmp=>?_,fun i j s s' ks us' ks2 us2 hi hj he=>?_,h10⟩
   . cases i with
     |zero=>simp at hi;subst hi;cases hu0
     |succ i=>rw[hsh k i];obtain⟨q1,q2⟩:=h1 i cs (by simpa using hi);exact⟨by simpa using q1,q2⟩
   . cases i with
     |zero=>simp at hi;subst hi;exact⟨v,rfl,hr,fun _=>hd,fun sz es q e=>absurd e (hu1 _ _ _ _)⟩
     |succ i=>rw[hsh k i];obtain⟨v,q1,q2⟩:=h2 i u' (by simpa using hi) hu hu3;exact⟨v,by simpa using q1,q2⟩
   . rw[eJ hu0] at ho;exact h3 b' outs ho m' w' (fun i cs c' hi hs=>by
      have:=hbx (i+1) cs c' (by simpa using hi) (by rw[hsh k i];exact hs)
      rwa [hsh k i] at this)
   . cases i with
     |zero=>simp at hi;subst hi;cases hu0
     | succ i=>cases j with
       |zero=>simp at hj;subst hj;cases hu0
       |succ j=>rw[hsh k i,hsh k j] at he;rw[h4 i j cs cs' (by simpa using hi) (by simpa using hj) he]
   . cases i with
     |zero=>simp at hi;exact absurd hi (hu1 _ _ _ _)
     | succ i=>cases j with
       |zero=>simp at hj;exact absurd hj (hu1 _ _ _ _)
       |succ j=>rw[hsh k i,hsh k j] at he;rw[h6 i j sz sz' q q' es es' (by simpa using hi) (by simpa using hj) he]
   . cases i with
     |zero=>simp at hi;subst hi;cases hu2
     |succ i=>rw[hsh k i];obtain⟨q1,q2⟩:=h7 i s ks us' (by simpa using hi);exact⟨by simpa using q1,q2⟩
   . rw[eI hu2] at ho;exact h8 t' outs ho m' w' (fun i s ks us' ks2 us2 hi ht=>by
      have:=hmp (i+1) s ks us' ks2 us2 (by simpa using hi) (by rw[show k+(i+1)=k+1+i from by omega];rw[show 1000+(k+1+i)=1000+(k+1+i) from rfl];exact ht)
      rwa [hsh k i] at this)
   . cases i with
     |zero=>simp at hi;subst hi;cases hu2
     | succ i=>cases j with
       |zero=>simp at hj;subst hj;cases hu2
       |succ j=>rw[hsh k i,hsh k j] at he;rw[h9 i j s s' ks us' ks2 us2 (by simpa using hi) (by simpa using hj) he]
theorem qo (u:V):u.bare.unm=true:=by rw[aX];cases u<;>rfl
theorem tx {x:ResultVar} (h:fS E st x=some u):u.unm=true:=by
 cases x with
 | tmp t=>
   simp only[fS] at h;split at h
   . cases h;exact qo _
   . cases h
 |cell a t=>simp only[fS,PK] at h;obtain⟨u0,_,rfl⟩:=h;exact qo _
theorem z7 {rs:List ResultVar} {r:V} (h:fv E st rs=some r):r.unm=true:=by
 unfold fv at h;split at h
 . rename_i u hu;cases h;cases rs with
   |nil=>cases hu
   | cons x rs=>
     unfold oN at hu;split at hu
     . rename_i u1 us1 h1 h2;cases hu;exact tx h1
     . cases hu
 . cases h;rfl
 . cases h
theorem tz (h:Rel E n pm m0 w0 m β st a w) {fn:Func} {r:V} (hr:qn E st fn.results.toList=some r∨fv E st fn.results.toList=some r):
 ∃v,(results fn a.tmps).run E.P w= .ok v w∧Rd m w v r∧∀sz es k,r= .sl false sz es (some k)->∃g,RowIs m w v g sz es.length∧(w0.heap.size<=g∨g∈pm.Y):=by
 have plain:fv E st fn.results.toList=some r->∃v,(results fn a.tmps).run E.P w= .ok v w∧Rd m w v r∧∀sz es k,r= .sl false sz es (some k)->∃g,RowIs m w v g sz es.length∧(w0.heap.size<=g∨g∈pm.Y):=fun hr=>by obtain⟨v,hv,hd⟩:=fT h hr;refine⟨v,hv,hd,fun sz es k e=>?_⟩;have:=z7 hr;rw[e] at this;cases this
 rcases hr with hr|hr
 case inr=>exact plain hr
 unfold qn at hr;split at hr
 . rename_i t ht;unfold GC at hr;split at hr
   . rename_i nl sz es k hu;cases hr;have hrun:(results fn a.tmps).run E.P w= .ok (a.tmps.getD t Go.undef) w:=by
      have ht':fn.results= #[.tmp t]:=by apply Qe.1;rw[ht]
      unfold results;rw[R6,Sem.run_bind,Sem.run_map,ht'];simp
     have hrd:Rd m w (a.tmps.getD t Go.undef) (.sl nl sz es (some k)):=by have:=h.tmps t;rw[hu] at this;exact this.rd rfl
     refine⟨_,hrun,hrd.remark 0,fun sz' es' k' e=>?_⟩;cases e;obtain⟨ρ,hrw⟩:=h.rows;obtain⟨lo,lim,is⟩:=hrw.row _ _ _ _ (Bear.slot (E:=E) (w:=w) (β:=β) (st:=st) (tm:=fun i=>a.tmps.getD i Go.undef) hu);exact⟨ρ k,⟨lim,is⟩,lo⟩
   . rename_i hno;split at hr
     . rename_i hnp;refine plain ?_;rw[ht];simp only[fv,oN,fS,hnp,Qt];exact hr
     . cases hr
 . exact plain hr
def Gb (E:Env) (rs:List ResultVar) (us:List V) (r:V) (outs:List (List V)):Out->St->Prop
 | .exit _,_=>False
 |_,st=>(qn E st rs=some r∨fv E st rs=some r)∧kJ us st=some outs
theorem ArgsP.len {K:Nat} (h:ArgsP m w K vs us bs gs hs):vs.length=us.length:=by
 induction h with
 |nil=>rfl
 |bx _ _ _ ih=>simp[ih]
 |row _ _ _ _ ih=>simp[ih]
 |no _ ih=>simp[ih]
 |mp _ _ _ ih=>simp[ih]
 |dat _ _ _ ih=>simp[ih]
theorem lP (hmb:∀s,1000<=s->E.MB s=false) (hn1:n<=1000) {m:Lim} {w:World} {vs:Array Value} {us:List V} {bs gs hs:List Nat} (hargs:ArgsP m w E.K vs.toList us bs gs hs) (hnd:(bs++gs).Nodup) (hhnd:hs.Nodup) (hj:E.J w) (hg:∀g,Rd m w (.pointer (some ⟨g,0,none⟩)) (E.G g)) (hsz:vs.size<=n):
 ∃γ,Rel E n ⟨bs++(gs++hs),γ,gs,[]⟩ m w m γ (cA us) {tmps:=vs++Array.replicate (n-vs.size) Go.undef,defers:=[]} w∧vs.size=us.length∧(∀(i:Nat) (cs:List V),us[i]?=some (.bx cs)->vs.toList[i]?=some (.pointer (some ⟨γ (1000+i),0,none⟩))∧BoxAt m w (γ (1000+i)) cs∧γ (1000+i)∈bs)∧(∀(b':Nat->Option (List V)) (outs:List (List V)),dw 0 us b'=some outs->∀(m':Lim) (w':World),(∀(i:Nat) (cs c':List V),us[i]?=some (.bx cs)->b' (1000+i)=some c'->BoxAt m' w' (γ (1000+i)) c')->OutsP m' w' bs outs)∧(∀(t':Nat->V) (outs:List (List V)),dx 0 us t'=some outs->∀(m':Lim) (w':World),(∀(i s:Nat) (ks us' ks2 us2:List V),us[i]?=some (.mp s ks us')->t' i= .mp (1000+i) ks2 us2->MapAt m' w' (γ (1000+i)) ks2 us2)->OutsM m' w' hs outs):=by
 obtain⟨γ,h1,h2,h3,h4,h6,h5,h7,h8,h9,h10⟩:=hargs.place hnd hhnd 0;simp only[Qn] at h1 h2 h3 h4 h6 h7 h8 h9;have hlen:∀{m:Lim} {w:World} {K:Nat} {vs:List Value} {us:List V} {bs gs hs:List Nat},ArgsP m w K vs us bs gs hs->vs.length=us.length:=by
  intro m w K vs us bs gs hs h
  induction h with
  |nil=>rfl
  |bx _ _ _ ih=>simp[ih]
  |row _ _ _ _ ih=>simp[ih]
  |no _ ih=>simp[ih]
  |mp _ _ _ ih=>simp[ih]
  |dat _ _ _ ih=>simp[ih]
 have hlen:=hlen hargs;simp only[PR] at hlen;have hst:∀i,(cA us).t i=match us[i]? with|some u=>jj i u|none=> .undef:=fun i=>by have:=lO us 0 i;simpa[cA] using this
 have hsb:∀s cs,(cA us).b s=some cs->∃i:Nat,s=1000+i∧us[i]?=some (.bx cs):=fun s cs h=>by obtain⟨i,q1,q2⟩:=iJ us 0 s cs h;exact⟨i,by omega,q2⟩
 have hvs:∀(i:Nat) (v:Value),vs.toList[i]?=some v->(vs++Array.replicate (n-vs.size) Go.undef).getD i Go.undef=v:=fun i v hv=>by
  have hi:i<vs.size:=by have:=aM hv;simpa using this
  rw[P0,Qz hi,<-PN,hv];rfl
 have hbear:∀v sz es s,Bear E w γ (cA us) (fun i=>(vs++Array.replicate (n-vs.size) Go.undef).getD i Go.undef) v (.sl false sz es (some s))->∃i q,s=1000+i∧us[i]?=some (.sl false sz es (some q))∧RowIs m w v (γ (1000+i)) sz es.length∧γ (1000+i)∈gs:=by
  intro v sz es s hi;rcases hi with⟨i,q1,q2⟩|⟨k',c,j,q1,q2,_⟩
  . rw [hst i] at q1;split at q1
    . rename_i u hu;obtain⟨q',rfl,hq⟩:=zY q1;rcases hq with⟨hq,_⟩|⟨hq,j,rfl⟩
      . cases hq
      . obtain⟨v0,p7,_,_,p8⟩:=h2 i _ hu rfl rfl;have hvv:v=v0:=by rw[<-q2];exact hvs i v0 p7
        obtain⟨p9,p10⟩:=p8 sz es j rfl;cases hq;exact⟨i,j,rfl,hu,hvv▸p9,p10⟩
    . cases q1
  . obtain⟨i,rfl,_⟩:=hsb k' c q2;rw[hmb _ (by omega)] at q1;cases q1
 have hmps:∀i s ks vs',(cA us).t i= .mp s ks vs'->s=1000+i∧∃s0,us[i]?=some (.mp s0 ks vs'):=by
  intro i s ks vs' hi;rw[hst i] at hi;split at hi
  . rename_i u hu;obtain⟨e,s0,rfl⟩:=zZ hi;exact⟨e,s0,hu⟩
  . cases hi
 have hrel:Rel E n ⟨bs++(gs++hs),γ,gs,[]⟩ m w m γ (cA us) {tmps:=vs++Array.replicate (n-vs.size) Go.undef,defers:=[]} w:=by
  refine⟨fun i=>?_,by simp;omega,fun s cs hs=>?_,fun s s' cs cs' hs hs' he=>?_,Bel.refl _ _,⟨hn1,fun _ _=>rfl,fun x hx=>(by rcases PU.1 hx with hx|hx;exact h5 x (Qp _ hx);rcases PU.1 hx with hx|hx;exact h5 x (Rl _ hx);exact h10 x hx)⟩,⟨fun _ _ _=>rfl,Ext.refl _ _,fun y hy=>Rl _ (Qp _ hy)⟩,⟨γ,fun v sz es s hi=>?_,fun v sz es s v' sz' es' s' hi hi' he=>?_,fun v sz es s k cs hi hk he=>?_⟩,fun i s sz len cs hi hs=>?_,rfl,hg,hj,⟨fun i s ks vs' hi=>?_,fun i j s s' ks vs' ks' vs'' hi hj' he=>?_⟩⟩
  . rw [hst i];rcases Ql i us.length with h'|h'
    . have hu:us[i]?=some us[i]:=Io h';have hv:vs.toList[i]?=some (vs[i]'(by omega)):=by simp
      simp only[hvs i _ hv,hu];cases hbx:(us[i]).isBx with
      | true=>
        have hu2:∃cs,us[i]= .bx cs:=by generalize us[i]=u at hbx;cases u<;>first|exact⟨_,rfl⟩|cases hbx
        obtain⟨cs,hu2⟩:=hu2;rw[hu2] at hu⊢;obtain⟨q1,_,_⟩:=h1 i cs hu;rw[hv] at q1;rw[QE q1];exact .ofPtr _ _
      | false=>
        cases hmq:(us[i]).isMp with
        | true=>
          have hu2:∃s ks us',us[i]= .mp s ks us':=by generalize us[i]=u at hmq;cases u<;>first|exact⟨_,_,_,rfl⟩|cases hmq
          obtain⟨s,ks,us',hu2⟩:=hu2;rw[hu2] at hu⊢;obtain⟨q1,_,_⟩:=h7 i s ks us' hu;rw[hv] at q1;rw[QE q1];exact .ofMp _ _ _
        |false=>
        obtain⟨v,q1,q2,_⟩:=h2 i _ hu hbx hmq;rw[hv] at q1;cases q1;cases hum:(us[i]).unm with
        |true=>rw[z6 hbx hum hmq];exact .of q2
        | false=>
          generalize us[i]=u at hum q2;cases u with
          | sl nl sz es tok=>cases tok with
            |none=>cases hum
            |some j=>exact .of (q2.remark _)
          |_=>cases hum
    . rw[Qc h'];exact .of (.undef _)
  . obtain⟨i,rfl,hi⟩:=hsb s cs hs;obtain⟨_,q2,q3⟩:=h1 i cs hi;exact⟨q2,.inr (Qp _ q3)⟩
  . obtain⟨i,rfl,hi⟩:=hsb s cs hs;obtain⟨j,rfl,hj'⟩:=hsb s' cs' hs';rw[h4 i j cs cs' hi hj' he]
  . obtain⟨i,q,rfl,_,⟨q1,q2⟩,q3⟩:=hbear v sz es s hi;exact⟨.inr q3,q1,q2⟩
  . obtain⟨i,q,rfl,q1,_⟩:=hbear v sz es s hi;obtain⟨j,q',rfl,q1',_⟩:=hbear v' sz' es' s' hi';rw[h6 i j sz sz' q q' es es' q1 q1' he]
  . obtain⟨i,q,rfl,_,_,q3⟩:=hbear v sz es s hi;obtain⟨j,rfl,hj'⟩:=hsb k cs hk;obtain⟨_,_,q4⟩:=h1 j cs hj';exact(QJ.1 hnd).2.2 _ q4 _ q3 he
  . rw[hst i] at hi;split at hi
    . rename_i u hu;have e:=xf hi;subst e;obtain⟨v,_,hr,_⟩:=h2 i _ hu rfl rfl;exact hr.not_row.elim
    . cases hi
  . obtain⟨rfl,s0,hu⟩:=hmps _ _ _ _ hi;obtain⟨_,q2,q3⟩:=h7 i s0 ks vs' hu;exact⟨q2,.inr (Rl _ (Rl _ q3))⟩
  . obtain⟨rfl,s0,hu⟩:=hmps _ _ _ _ hi;obtain⟨rfl,s1,hu'⟩:=hmps _ _ _ _ hj';rw[h9 i j s0 s1 ks vs' ks' vs'' hu hu' he]
 exact⟨γ,hrel,hlen,h1,h3,h8⟩
variable {st':St}
theorem lQ {γ:Nat->Nat} {m':Lim} {w':World} {r:V} {outs:List (List V)} {β':Nat->Nat} {a':Act} (h3:(∀(b':Nat->Option (List V)) (outs:List (List V)),dw 0 us b'=some outs->∀(m':Lim) (w':World),(∀(i:Nat) (cs c':List V),us[i]?=some (.bx cs)->b' (1000+i)=some c'->BoxAt m' w' (γ (1000+i)) c')->OutsP m' w' bs outs)) (h8:(∀(t':Nat->V) (outs:List (List V)),dx 0 us t'=some outs->∀(m':Lim) (w':World),(∀(i s:Nat) (ks us' ks2 us2:List V),us[i]?=some (.mp s ks us')->t' i= .mp (1000+i) ks2 us2->MapAt m' w' (γ (1000+i)) ks2 us2)->OutsM m' w' hs outs))
 (h1':(qn E st' fn.results.toList=some r∨fv E st' fn.results.toList=some r)∧kJ us st'=some outs) (h2':Rel E n ⟨bs++(gs++hs),γ,gs,[]⟩ m w m' β' st' a' w'):
 a'.defers=[]∧∃v,(results fn a'.tmps).run E.P w'= .ok v w'∧Rd m' w' v r∧Bel (bs++(gs++hs)) w w'∧Ext m w m' w'∧(∀blk,blk<w.heap.size->blk∉gs->m' blk=m blk)∧(∃o1 o2,outs=o1++o2∧OutsP m' w' bs o1∧OutsM m' w' hs o2)∧
  ∀sz es k,r= .sl false sz es (some k)->∃g,RowIs m' w' v g sz es.length∧(w.heap.size<=g∨g∈gs):=by
 obtain⟨v,hv,hd,ho⟩:=tz h2' h1'.1;obtain⟨o1,o2,ho1,ho2,rfl⟩:∃o1 o2,dw 0 us st'.b=some o1∧dx 0 us st'.t=some o2∧outs=o1++o2:=by
  have h0:=h1'.2;unfold kJ at h0;split at h0
  . rename_i o1 o2 e1 e2;cases h0;exact⟨o1,o2,e1,e2,rfl⟩
  . cases h0
 refine⟨h2'.defers,v,hv,hd,h2'.below,h2'.mold.2.1,h2'.mold.1,⟨o1,o2,rfl,h3 _ _ ho1 m' w' (fun i cs c' hi hs=>?_),h8 _ _ ho2 m' w' (fun i s ks us' ks2 us2 hi ht=>?_)⟩,ho⟩
 . have:=(h2'.boxes _ _ hs).1
   rwa [h2'.par.2.1 _ (by omega)] at this
 . have:=(h2'.maps.holds _ _ _ _ ht).1
   rwa [h2'.par.2.1 _ (by omega)] at this
theorem Rel.drop {pm:Pm} {m0:Lim} {w0:World} {β:Nat->Nat} {T T':Array Value} {D:List Deferred} (h:Rel E n pm m0 w0 m β st {tmps:=T',defers:=D} w) (hz:T.size=n) (k:Nat) (ht:∀i,i≠k->T.getD i Go.undef=T'.getD i Go.undef):Rel E n pm m0 w0 m β ⟨aw st.t k .undef,st.b⟩ {tmps:=T,defers:=D} w:=by
 have hcut:∀i u,aw st.t k .undef i=u->u≠ .undef->i≠k∧st.t i=u:=by
  intro i u hi hu;by_cases e:i=k
  . subst e;rw[aa] at hi;exact absurd hi.symm hu
  . rw[ae _ _ e] at hi;exact⟨e,hi⟩
 have hBr:∀v sz es s,Bear E w β ⟨aw st.t k .undef,st.b⟩ (fun i=>T.getD i Go.undef) v (.sl false sz es (some s))->Bear E w β st (fun i=>T'.getD i Go.undef) v (.sl false sz es (some s)):=by
  rintro v sz es s (⟨i,h1,h2⟩|h2)
  . obtain⟨h3,h4⟩:=hcut i _ h1 (by intro e;cases e);exact .inl ⟨i,h4,by rw[<-h2];exact(ht i h3).symm⟩
  . exact .inr h2
 refine⟨fun i=>?_,hz,h.boxes,h.inj,h.below,h.par,h.mold,?_,fun i s sz len cs hi hb=>?_,h.defers,h.glob,h.j,h.maps.to (fun i s ks vs hi=>⟨⟨i,(hcut i _ hi (by intro e;cases e)).2⟩,rfl⟩) (Ext.refl _ _) (fun _ _ _ h _=>⟨h,rfl⟩)⟩
 . show Rs m w β (T.getD i Go.undef) (aw st.t k .undef i);by_cases e:i=k
   . subst e;rw[aa];exact .of (.undef _)
   . rw[ae _ _ e,ht i e];exact h.tmps i
 . obtain⟨ρ,hrw⟩:=h.rows;exact⟨ρ,fun v sz es s hi=>hrw.row _ _ _ _ (hBr _ _ _ _ hi),fun v sz es s v' sz' es' s' hi hi' e=>hrw.sep _ _ _ _ _ _ _ _ (hBr _ _ _ _ hi) (hBr _ _ _ _ hi') e,fun v sz es s k cs hi hk'=>hrw.box _ _ _ _ _ _ (hBr _ _ _ _ hi) hk'⟩
 . obtain⟨h3,h4⟩:=hcut i _ hi (by intro e;cases e);show OwnAt w β (T.getD i Go.undef) s sz len cs;rw[ht i h3];exact h.own i s sz len cs h4 hb
theorem kK (hEx:∀pm:Pm,∀bk,pm.b E.xk=bk->(∀f lb F,E.X f lb=some F->FunX E bk f lb F)->EnvX E pm) (hmb:∀s,1000<=s->E.MB s=false) (hm:E.P.follows .mixedOrders=true) {f:FuncId} {fn:Func} {c:Code} {F:List V->Option (V×List (List V))} {k bk:Nat} (hf:E.P.funcs[f]?=some fn) (hb:fn.body=some c)
 (hcall:∀args w,(callFunc f args).run E.P w= .ok (.enter f args) w) (hn:fn.ntmps=n) (hok:cz E.any n c=true) (hk:k<n) (hn1:n<=1000) (hxk:E.xk=1000+k) (hX:∀f lb F,E.X f lb=some F->FunX E bk f lb F)
 (hrun:∀us r outs,F us=some (r,outs)->∃cs,us.length=k+1∧us[k]?=some (.bx cs)∧∃st,Le st ⟨aw (cA us).t k .undef,(cA us).b⟩∧run E c st (Gb E fn.results.toList us r outs)):FunX E bk f [] F:=by
 intro m w vs us bs gs hs r outs hF hargs hnd hhnd hj hg;obtain⟨cs,hl,hcs,st0,hle,hrun⟩:=hrun us r outs hF;have hlen:=hargs.len;simp only[PP,PR,P5,Qk] at hlen;have hargs':ArgsP m w E.K (vs.push (.pointer (some ⟨bk,0,none⟩))).toList us bs gs hs:=by simpa using hargs
 obtain⟨γ,hrel,_,h1,h3,h8⟩:=lP hmb hn1 hargs' hnd hhnd hj hg (by simp;omega);have hγ:γ (1000+k)=bk:=by
  obtain⟨q1,_,_⟩:=h1 k cs hcs;have hkv:k=vs.size:=by omega
  subst hkv;simp at q1;exact q1.symm
 subst hn;have hE:EnvX E ⟨bs++(gs++hs),γ,gs,[]⟩:=hEx _ bk (by rw[hxk];exact hγ) hX;have hrel':=Rel.drop (T:=vs++Array.replicate (fn.ntmps-vs.size) Go.undef) hrel (by simp;omega) k (fun i hi=>by
  have hkv:k=vs.size:=by omega
  subst hkv;simp only[P0];rcases Ql i vs.size with h'|h'
  . rw[Qz h',Qz (by simp;omega),Array.getElem?_push_lt h',PW h']
  . rw[RD h',RD (by simp;omega)];simp only[Array.size_push,Rk];have:i-vs.size<fn.ntmps-vs.size↔i-(vs.size+1)<fn.ntmps-(vs.size+1):=by omega
    by_cases hc:i-vs.size<fn.ntmps-vs.size
    . rw[PO hc,PO (this.1 hc)]
    . rw[PS hc,PS (fun h=>hc (this.2 h))])
 refine .inl ⟨hcall _ _,?_⟩;rw[show vs++(⟨[]⟩:Array Value)=vs from RH];refine calls_of_wp hf hb (wp_mono (nJ hE hm c _ _ _ _ _ _ hok (hrel'.le hle) hrun) ?_);intro e a' w' hp
 have done:∀st' m' β',((qn E st' fn.results.toList=some r∨fv E st' fn.results.toList=some r)∧kJ us st'=some outs)->Rel E fn.ntmps ⟨bs++(gs++hs),γ,gs,[]⟩ m w m' β' st' a' w'->a'.defers=[]∧∃v,(results fn a'.tmps).run E.P w'= .ok v w'∧∃v',Ending.returned v= .returned v'∧∃m',Rd m' w' v' r∧Bel (bs++(gs++hs)) w w'∧Ext m w m' w'∧(∀blk,blk<w.heap.size->blk∉gs->m' blk=m blk)∧(∃o1 o2,outs=o1++o2∧OutsP m' w' bs o1∧OutsM m' w' hs o2)∧
  ∀sz es k,r= .sl false sz es (some k)->∃g,RowIs m' w' v' g sz es.length∧(w.heap.size<=g∨g∈gs):=by
  intro st' m' β' h1' h2';obtain⟨q1,v,q2,q3⟩:=lQ h3 h8 h1' h2';exact⟨q1,v,q2,v,rfl,m',q3⟩
 cases e with
 |normal=>obtain⟨st',m',β',h1,h2⟩:=hp;exact done st' m' β' h1 h2
 |ret=>obtain⟨st',m',β',h1,h2⟩:=hp;exact done st' m' β' h1 h2
 |exit id=>obtain⟨st',m',β',h1,h2⟩:=hp;exact h1.elim
 |goto l=>exact hp.elim
 |panic ch=>exact hp.elim
 |outgrown=>exact hp.elim
end
end Go.Proofs.Ytldnpcolhdnkdaa

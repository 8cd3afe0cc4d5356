/- Further operations by very contents: rows of any cells that are cut and grow, new variables. No program is named here. -/
import Derived.Test.YtldnpcolhdnkdaaMHx
import Derived.Maps.RangeRun
import Derived.Laws.IdiomRangeMap
import Derived.WalkSpells
namespace Go.Proofs.Ytldnpcolhdnkdaa
set_option linter.unusedSimpArgs false
open Go Go.RowKit
def RowV (H:HH) (v:Value) (z:Nat) (cs:List Value):Prop:=
 (cs=[]∧v= .slice none 0 0)∨∃(g off n cap:Nat) (cur:Array Value) (ty:TypeId),v= .slice (some ⟨g,off,none⟩) n cap∧H g=some (.cells cur ty (0,0))∧n<=cap∧off+cap*z<=cur.size∧(cur.toList.drop off).take (n*z)=cs
def aB:Value->Nat
 | .slice _ n _=>n
 |_=>0
variable {H:HH} {v:Value} {z:Nat} {cs:List Value}
theorem RowV.len (h:RowV H v z cs):cs.length=aB v*z:=by
 rcases h with⟨rfl,rfl⟩|⟨g,off,n,cap,cur,ty,rfl,_,h1,h2,rfl⟩
 . simp[aB]
 . have:=Qo z h1;rw[P8,Q1,PR];exact RN (by omega)
def nh:Value->Nat
 | .slice (some ⟨_,off,_⟩) _ _=>off
 |_=>0
variable {H':HH}
theorem RowV.to (h:RowV H v z cs) (hb:∀g,blkOf v=some g->H' g=H g):RowV H' v z cs:=by
 rcases h with h|⟨g,off,n,cap,cur,ty,rfl,h0,h1⟩
 . exact .inl h
 . exact .inr ⟨g,off,n,cap,cur,ty,rfl,(hb g rfl).trans h0,h1⟩
theorem RowV.blk (h:RowV H v z cs) {g:Nat} (hb:blkOf v=some g):∃cur ty,H g=some (.cells cur ty (0,0)):=by
 rcases h with⟨_,rfl⟩|⟨g',off,n,cap,cur,ty,rfl,h0,_⟩
 . cases hb
 . cases hb;exact⟨cur,ty,h0⟩
def Fg (H:HH) (z k:Nat) (cs:List Value):V->Prop
 | .sl true _ es _=>es=[]∧k=0∧cs=[]
 | .sl false z0 es _=>(z0=z∨es=[])∧k=es.length∧yi (es.flatMap V.cells)=some cs
 | .x v=>RowV H v z cs∧aB v=k
 |_=>False
def rx:V->Option Value
 | .x v=>some v
 | .sl true _ [] _=>some (.slice none 0 0)
 |_=>none
def vW (P:Program) (t:TypeId) (z:Nat):Bool:=match P.underlying t with
 | some (.slice el)=>match P.info? el with
   | some i=>match i.zero with
     |some zv=>decide (i.size=z∧zv.cells.size=z∧i.bytes<=4096)
     |none=>false
   |none=>false
 |_=>false
def Fh (P:Program) (t:TypeId) (H:HH) (v:Value) (y:V) (T:V->HH->Prop):Prop:=
 ∃ z k cs cs',vW P t z=true∧RowV H v z cs∧Fg H z k cs' y∧(∀u∈cs',u.oneCell'=true)∧aB v+k<=1000000∧(k=0->T (.x v) H)∧
   (0<k->∀v' g ob,blkOf v'=some g->aB v'=aB v+k->(blkOf v=some g∨H g=none)->(nh v=0->nh v'=0)->RowV (aw H g (some ob)) v' z (cs++cs')->T (.x v') (aw H g (some ob)))
def uD (P:Program) (D:Nat->Bool) (o:Oper) (ρ:Operand->V) (H:HH):Option Tr:=
 match o.op with
 | .call {callee:= .builtin .append,args,argTypes}=>match (o.dst.map D).getD false,args.toList,argTypes.toList with
   | true,[x,y],[t,t']=>match decide (t=t'),rx (ρ x) with
     |true,some v=>some fun T=>Fh P t H v (ρ y) T
     |_,_=>none
   |_,_,_=>none
 |_=>none
section
variable {P:Program} {w:World} {H:HH} {z k:Nat} {v y:Value} {cs cs':List Value}
structure Src3 (P:Program) (w:World) (z:Nat) (y:Value) (k:Nat) (cs:List Value):Prop where
 len:(Builtin.lenOf y).run P w= .ok k w
 fc:(Builtin.firstCells z k y).run P w= .ok cs.toArray w
 cnt:cs.length=k*z
 one:∀u∈cs,u.oneCell'=true
 src:0<k->∃blk off cap,y= .slice (some ⟨blk,off,none⟩) k cap∧∀(j:Nat) (x:Value),cs[j]?=some x->w.cell? ((⟨blk,off,none⟩:Addr).add j)=some x
variable {g n:Nat} {ty:TypeId}
theorem RowV.cell {off:Nat} {cur:Array Value} {fr:Nat×Nat} (hh:w.heap[g]?=some (.cells cur ty fr)) {j:Nat} {x:Value} (hx:((cur.toList.drop off).take (n*z))[j]?=some x):w.cell? ((⟨g,off,none⟩:Addr).add j)=some x:=by
 rw[P9] at hx;split at hx
 . rw[Qm,PN] at hx;rw[aC,Box.cell hh];exact hx
 . cases hx
theorem Fi (h:RowV H y z cs) (hw:∀g ob,H g=some ob->w.heap[g]?=some ob) (h1:∀u∈cs,u.oneCell'=true):Src3 P w z y (aB y) cs:=by
 have hl:=h.len;rcases h with⟨rfl,rfl⟩|⟨g,off,n,cap,cur,ty,rfl,h0,hn,hs,rfl⟩
 . exact⟨rfl,by simpa[aB] using run_firstCells_none (P:=P) w z 0 0 0,by simp[aB],h1,fun h=>absurd h (by simp[aB])⟩
 . have hc:∀(j:Nat) (x:Value),((cur.toList.drop off).take (n*z))[j]?=some x->w.cell? ((⟨g,off,none⟩:Addr).add j)=some x:=fun j x hx=>RowV.cell (n:=n) (hw g _ h0) hx
   exact⟨rfl,run_firstCells_some w z n _ n cap _ hl hc,hl,h1,fun _=>⟨g,off,cap,rfl,hc⟩⟩
variable {m:Lim} {tok:Option Nat}
theorem vX {nl:Bool} {z0:Nat} {es:List V} (h:Rd m w y (.sl nl z0 es tok)) (hs:z0=z∨es=[]) (hx:yi (es.flatMap V.cells)=some cs):Src3 P w z y es.length cs:=by obtain⟨cs0,hf,h1,h2,h3⟩:=zC (P:=P) h hs;obtain⟨rfl,h4⟩:=nS hx (gu es cs0 hf);exact⟨h1,h2,hf.len,fun u hu=>(h4 u hu).1,fun hk=>h3 (by rintro rfl;exact absurd hk (Nat.lt_irrefl 0))⟩
variable {t el:TypeId}
theorem yD {i:TypeInfo} (hu:P.underlying t=some (.slice el)) (hi:P.info? el=some i) (hz:i.size=z) {g off n cap:Nat} {cur:Array Value} {ty':TypeId} (hg:w.heap[g]?=some (.cells cur ty' (0,0))) (hy:Src3 P w z y k cs') (hroom:n+k<=cap) (hfit:off+n*z+cs'.length<=cur.size):
 (Builtin.append_ #[t,t] ty #[.slice (some ⟨g,off,none⟩) n cap,y]).run P w= .ok (.slice (some ⟨g,off,none⟩) (n+k) cap) (w.setRow g (cur.toList.take (off+n*z)++cs'++cur.toList.drop (off+n*z+cs'.length)).toArray):=by
 have hst:=cY P g (off+n*z) ty' (0,0) cs' 0 cur w hg (.inl rfl) (by omega) hy.one;simp only[iO] at hst;have hsz:bg P el=some z:=by simp[bg,hi,hz]
 simp[Builtin.append_,av hu,bl hsz,hy.len,hroom,hy.fc,aC,hst]
theorem BZ {i:TypeInfo} {zv:Value} (hu:P.underlying t=some (.slice el)) (hi:P.info? el=some i) (hz:i.size=z) (hzv:i.zero=some zv) (hzc:zv.cells.size=z) (hby:i.bytes<=4096) (hr:RowV H v z cs) (hw:∀g ob,H g=some ob->w.heap[g]?=some ob) (hy:Src3 P w z y k cs') (hlen:aB v+k<=1000000):
 (k=0->(Builtin.append_ #[t,t] ty #[v,y]).run P w= .ok v w)∧(0<k->∃(v':Value) (w':World) (g:Nat) (ob:Obj),(Builtin.append_ #[t,t] ty #[v,y]).run P w= .ok v' w'∧w'.os=w.os∧w'.tape=w.tape∧w'.output=w.output∧w.heap.size<=w'.heap.size∧blkOf v'=some g∧aB v'=aB v+k∧w'.heap[g]?=some ob∧(∀j,j<w.heap.size->j≠g->w'.heap[j]?=w.heap[j]?)∧(blkOf v=some g∨w.heap.size<=g)∧(nh v=0->nh v'=0)∧∀H',H' g=some ob->RowV H' v' z (cs++cs')):=by
 have hcl:=hr.len;subst hz;have hcnt:=hy.cnt;have hsz:bg P el=some i.size:=by simp[bg,hi]
 have hbb:(aB v+k)*i.bytes<=140737488355328:=tl (Nat.mul_le_mul hlen hby) (by decide);rcases hr with⟨rfl,rfl⟩|⟨g,off,n,cap,cur,tyc,rfl,hg,hn,hs,hc⟩
 . constructor
   . rintro rfl;have hcs:cs'=[]:=Qu.1 (by rw[hcnt,Q4]);subst hcs;have h1:=hy.len;have h2:=hy.fc;simp[Builtin.append_,av hu,bl hsz,h1,h2]
   . intro hk;obtain⟨blk,o2,cap,rfl,hcell⟩:=hy.src hk;simp only[aB,Qn] at hlen hbb;have hrun:=run_append_nil (P:=P) w t ty el i zv hu hi hzv _ k cap cs' hcnt hcell hk (by omega) (by omega);have hge:=grownCap_ge w k 0 el;refine⟨_,_,w.heap.size,_,hrun,rfl,rfl,rfl,?_,rfl,by simp[aB],World.heap_new w.drew _,fun j hj _=>Below.heap_alloc w.drew _ j hj,.inr (PB _),fun _=>rfl,fun H' h'=>?_⟩
     . exact Sp (al (World.heap_new w.drew _))
     . refine .inr ⟨_,0,_,_,_,_,rfl,h',hge,?_,?_⟩
       . simp only[Rj,size_zeroCells,hzc,QC,hcnt,Qn];rw[<-Qs];exact Qo _ (by omega)
       . rw[Rm,Sa,RS,Qy (by omega),<-hcnt,QL,QX]
 . have hh :=hw g _ hg;have hlt:=al hh;simp only[aB] at hcl hlen hbb;have hnz:=Qo i.size hn;by_cases hroom:n+k<=cap
   . have hfit:off+n*i.size+cs'.length<=cur.size:=by have:=Qo i.size hroom;rw[Qs] at this;omega
     have hrun:=yD (ty:=ty) hu hi rfl hh hy hroom hfit;constructor
     . rintro rfl;have hcs:cs'=[]:=Qu.1 (by rw[hcnt,Q4]);subst hcs;rw[hrun];simp only[QS,Qk,iO,Qv,Array.toArray_toList];rw[setRow_self w g cur tyc (0,0) hh]
     . intro hk;refine⟨_,_,g,_,hrun,rfl,rfl,rfl,by simp,rfl,rfl,setRow_heap w g cur _ tyc (0,0) hh,fun j _ hj=>setRow_other w g j _ hj,.inl rfl,id,fun H' h'=>?_⟩;refine .inr ⟨_,off,_,_,_,_,rfl,h',hroom,?_,?_⟩
       . simp only[QC,PP,P8,Q1,PR];omega
       . rw[RS,<-hc,Qs,<-hcnt,QK];apply QI;intro j;rw[P9,Qm];have htl:(cur.toList.take (off+n*i.size)).length=off+n*i.size:=by rw[P8,PR];exact RN (by omega)
         by_cases h1:j<n*i.size
         . rw[PO (by omega),PT (by omega),P9,PO (by omega),PT (by rw[hc,hcl];exact h1),P9,PO h1,Qm]
         . have hR:(List.take (n*i.size) (List.drop off cur.toList)++cs')[j]?=cs'[j-n*i.size]?:=by rw[P6 (by rw[hc,hcl];omega),hc,hcl]
           rw[hR,P6 (by rw[htl];omega),htl];by_cases h2:j<n*i.size+cs'.length
           . rw[PO h2,PT (by omega)];congr 1;omega
           . rw[PS h2,Qc (by omega)]
   . constructor
     . rintro rfl;omega
     . intro hk;obtain⟨blk,o2,cap2,rfl,hcell⟩:=hy.src hk;have hrun:=run_append_grow (P:=P) w t ty el i zv hu hi hzv ⟨g,off,none⟩ n cap cs hcl (fun j u hj=>by rw[<-hc] at hj;exact RowV.cell (n:=n) hh hj) _ k cap2 cs' hcnt hcell (by omega) (by omega) (growslice_fits (by omega) hbb)
       have hge:=grownCap_ge w (n+k) cap el;refine⟨_,_,w.heap.size,_,hrun,rfl,rfl,rfl,?_,rfl,rfl,World.heap_new w.drew _,fun j hj _=>Below.heap_alloc w.drew _ j hj,.inr (PB _),fun _=>rfl,fun H' h'=>?_⟩
       . exact Sp (al (World.heap_new w.drew _))
       . refine .inr ⟨_,0,_,_,_,_,rfl,h',hge,?_,?_⟩
         . simp only[Rj,size_zeroCells,hzc,QC,hcnt,hcl,Qn];rw[<-Qs,<-Qs];exact Qo _ (by omega)
         . rw[Rm,Sa,Sa,RS,RS,Qy (by rw[PP,hcl,hcnt,Qs];exact PB _)];exact Qb (by rw[PP,hcl,hcnt,Qs];exact PB _)
end
section
variable {E:Env} {n:Nat} {B:Xb} {s:XS} {a:Act} {w w':World}
theorem HoldX.wrote1 (hE:EnvOK E) (h:HoldX E n B s a w) {g:Nat} {ob:Obj} (hos:w'.os=w.os) (htp:w'.tape=w.tape) (hou:w'.output=w.output) (hsz:w.heap.size<=w'.heap.size) (hg:w'.heap[g]?=some ob) (hb:∀j,j<w.heap.size->j≠g->w'.heap[j]?=w.heap[j]?) (hx:s.H g≠none∨w.heap.size<=g):HoldX E n B ⟨s.st,aw s.H g (some ob)⟩ a w':=by
 refine h.wrote hE hos htp hou hsz (fun k hk hn=>hb k hk (fun e=>?_)) (fun g' ob' hg'=>?_)
 . subst e;rcases hx with hx|hx
   . exact hx hn
   . exact absurd hk (Qw.2 hx)
 . by_cases e:g'=g
   . subst e;rw[aa] at hg';cases hg';exact⟨hg,hx⟩
   . rw[ae _ _ e] at hg';have hat:=h.at hg';exact⟨(hb g' (al hat) e).trans hat,.inl (by rw[hg'];simp)⟩
theorem HoldX.out (h:HoldX E n B s a w) {g:Nat} (hg:w.heap.size<=g):s.H g=none:=by
 cases e:s.H g with
 |none=>rfl
 |some ob=>exact absurd (al (h.at e)) (Qw.2 hg)
variable {m:Lim} {tok:Option Nat}
theorem Fj (h:Rd m w v (.sl true z [] tok)):v= .slice none 0 0:=by cases h;rfl
theorem ry (h:HoldX E n B s a w) {x:Operand} {v:Value} (hx:rx (ev E s.st x)=some v):a.eval x=v:=by
 unfold rx at hx;split at hx
 . rename_i v' hv;cases hx;exact h.ev x hv
 . rename_i z0 tok hv;cases hx;obtain⟨m,hr⟩:=h.rdx x hv rfl;exact Fj hr
 . cases hx
theorem o7 (hE:EnvOK E) (D:Nat->Bool):iM E (uD E.P D):=by
 refine⟨fun o ρ H c e=>by unfold uD;rw[e],fun n B s a w o R K Q T h hT hd hr hK=>?_⟩;unfold uD at hT;split at hT
 case h_2=>cases hT
 rename_i args ts ho;split at hT
 case h_2=>cases hT
 rename_i x y t t' hdst hargs hts;split at hT
 case h_2=>cases hT
 rename_i v ht hv;obtain rfl:=QA ht;cases hT;obtain⟨z,k,cs,cs',hap,hrow,hsrc,hone,hlen,hr0,hr1⟩:=hr;unfold vW at hap;split at hap
 case h_2=>cases hap
 rename_i el hel;split at hap
 case h_2=>cases hap
 rename_i inf hinf;split at hap
 case h_2=>cases hap
 rename_i zv hzv;obtain⟨s1,s2,s3⟩:=QA hap;have ha:args= #[x,y]:=Qe.1 hargs;have ht:ts= #[t,t]:=Qe.1 hts;subst ha ht;have hx':=ry h hv;have hw:∀g ob,s.H g=some ob->w.heap[g]?=some ob:=fun g ob hg=>h.at hg
 have hsrc3:Src3 E.P w z (a.eval y) k cs':=by
  unfold Fg at hsrc;split at hsrc
  . rename_i z0 es tok hy;obtain⟨rfl,rfl,rfl⟩:=hsrc;obtain⟨m,hrd⟩:=h.rdx y hy rfl;exact vX hrd (.inr rfl) rfl
  . rename_i z0 es tok hy;obtain⟨q1,rfl,q2⟩:=hsrc;obtain⟨m,hrd⟩:=h.rdx y hy rfl;exact vX hrd q1 q2
  . rename_i u hy;obtain⟨q1,rfl⟩:=hsrc;rw[h.ev y hy];exact Fi q1 hw hone
  . exact hsrc.elim
 obtain⟨h0,h1⟩:=BZ (ty:=o.type) hel hinf s1 hzv s2 s3 hrow hw hsrc3 hlen;have hrun:∀(v':Value) (w':World),(Builtin.append_ #[t,t] o.type #[v,a.eval y]).run E.P w= .ok v' w'->(execOp a.eval o).run E.P w= .ok (.value v') w':=fun v' w' hrr=>by simp only[execOp,ho,resolve,Sem.run_bind,Sem.run_pure,Result.andThen_ok,invoke,builtin];rw[show Array.map a.eval #[x,y]= #[v,a.eval y] from by simp[hx'],hrr];rfl
 unfold Oper.wp;rcases Sg k with hk|hk
 . rw[hrun _ _ (h0 hk)];exact hK _ _ _ _ (hr0 hk) (h.put hd (fun m=> .x _))
 . obtain⟨v',w',g,ob,r1,r2,r3,r4,r5,r6,r7,r8,r9,r10,r12,r11⟩:=h1 hk;rw[hrun _ _ r1];have hg:s.H g≠none∨w.heap.size<=g:=r10.imp (fun e=>by obtain⟨cur,ty,e'⟩:=hrow.blk e;rw[e'];simp) id;have hX:=h.wrote1 hE r2 r3 r4 r5 r8 r9 hg;exact hK _ _ _ _ (hr1 hk v' g ob r6 r7 (r10.imp id (fun e=>h.out e)) r12 (r11 _ (aa _ _ _))) (hX.put hd (fun m=> .x _))
end
def B0 (d:Nat):Option V->Option Nat
 |none=>some d
 |some (.x (.int _ i))=>if 0<=i then some i.toNat else none
 |_=>none
def fG (z l h:Nat):Value->Value
 | .slice ad _ cap=> .slice (if cap=l then ad else ad.map (·.add (l*z))) (h-l) (cap-l)
 |v=>v
def Kt (P:Program) (t:TypeId) (H:HH) (v:Value) (lo hi:Option V) (T:V->HH->Prop):Prop:=
 fi (Dp P t) fun z=>fi (B0 0 lo) fun l=>fi (B0 (aB v) hi) fun h=>((∃cs,RowV H v z cs)∧l<=h∧h<=aB v)∧T (.x (fG z l h v)) H
def B4 (P:Program) (D:Nat->Bool) (o:Oper) (ρ:Operand->V) (H:HH):Option Tr:=
 match o.op with
 | .slice t x lo hi none=>match (o.dst.map D).getD false,rx (ρ x) with
   |true,some v=>some fun T=>Kt P t H v (lo.map ρ) (hi.map ρ) T
   |_,_=>none
 |_=>none
def rz (P:Program) (t:TypeId):Option (List Value):=match P.info? t with
 |some i=>i.zero.map fun z=>z.cells.toList
 |none=>none
def uE (P:Program) (D:Nat->Bool) (o:Oper) (_:Operand->V) (H:HH):Option Tr:=
 match o.op with
 | .alloc t=>match (o.dst.map D).getD false with
   |true=>some (BE t H (rz P t))
   |false=>none
 |_=>none
def iZ (f g:Oper->(Operand->V)->HH->Option Tr) (o:Oper) (ρ:Operand->V) (H:HH):Option Tr:=Gh (f o ρ H) (g o ρ H)
variable {E:Env}
theorem bF {f g:Oper->(Operand->V)->HH->Option Tr} (hf:iM E f) (hg:iM E g):iM E (iZ f g):=by
 refine⟨fun o ρ H c e=>by unfold iZ;rw[hf.1 o ρ H c e,hg.1 o ρ H c e];rfl,fun n B s a w o R K Q T h hT=>?_⟩;unfold iZ Gh at hT;split at hT
 . rename_i T' hT';cases hT;exact hf.2 n B s a w o R K Q _ h hT'
 . exact hg.2 n B s a w o R K Q _ h hT
section
variable {E:Env} {n:Nat} {B:Xb} {s:XS} {a:Act} {w w':World}
theorem RowV.cut {l h:Nat} (hr:RowV H v z cs) (h1:l<=h) (h2:h<=aB v):
 blkOf (fG z l h v)=blkOf v∧aB (fG z l h v)=h-l∧RowV H (fG z l h v) z ((cs.take (h*z)).drop (l*z)):=by
 rcases hr with⟨rfl,rfl⟩|⟨g,off,n,cap,cur,ty,rfl,h0,hn,hs,rfl⟩
 . simp only[aB] at h2;obtain rfl:h=0:=by omega
   obtain rfl:l=0:=by omega
   exact⟨rfl,rfl,.inl ⟨by simp,rfl⟩⟩
 . simp only[aB] at h2;refine⟨by simp only[fG];split<;>simp[blkOf,aC],rfl,.inr ?_⟩;have hcut:(List.drop (l*z) (List.take (h*z) (List.take (n*z) (List.drop off cur.toList))))=List.take ((h-l)*z) (List.drop (off+l*z) cur.toList):=by have hle:=Qo z h2;rw[List.take_take,RN hle,List.drop_take,List.drop_drop,Nat.sub_mul]
   rw[hcut];simp only[fG];by_cases e:cap=l
   . rw[PO e];have e0:h-l=0:=by omega
     refine⟨g,off,h-l,cap-l,cur,ty,rfl,h0,by omega,?_,?_⟩
     . rw[e,RZ,Q4];omega
     . rw[e0,Q4];rfl
   . rw[PS e];refine⟨g,off+l*z,h-l,cap-l,cur,ty,by simp[aC],h0,by omega,?_,rfl⟩;have:l*z+(cap-l)*z=cap*z:=by rw[<-Qs];congr 1;omega
     omega
theorem Fk (D:Nat->Bool):iM E (B4 E.P D):=by
 refine⟨fun o ρ H c e=>by unfold B4;rw[e],fun n B s a w o R K Q T h hT hd hr hK=>?_⟩;unfold B4 at hT;split at hT
 case h_2=>cases hT
 rename_i t x lo hi ho;split at hT
 case h_2=>cases hT
 rename_i v hdst hv;cases hT;obtain⟨z,hz,hr⟩:=bE hr;obtain⟨l,hlo,hr⟩:=bE hr;obtain⟨k,hhi,⟨⟨cs,hrow⟩,h1,h2⟩,hr⟩:=bE hr;unfold Dp at hz;split at hz
 case h_2=>cases hz
 rename_i el hel;have hx:=ry h hv;obtain⟨ad,len,cap,rfl,hcl⟩:∃ad len cap,v= .slice ad len cap∧len<=cap:=by
  rcases hrow with⟨_,rfl⟩|⟨g,off,n,cp,cur,ty,rfl,_,hn,_⟩
  . exact⟨_,_,_,rfl,PB _⟩
  . exact⟨_,_,_,rfl,hn⟩
 have hbnd:∀(d j:Nat) (e:Option Operand),B0 d (e.map (ev E s.st))=some j->(e=none∧j=d)∨∃e' kk,e=some e'∧a.eval e'= .int kk (j:Int):=fun d j e he=>by
  cases e with
  |none=>cases he;exact .inl ⟨rfl,rfl⟩
  | some e'=>
    simp only[Qd] at he;unfold B0 at he;split at he
    . rename_i e0;cases e0
    . rename_i kk i e0;split at he
      case isFalse=>cases he
      rename_i h0;cases he;exact .inr ⟨e',kk,rfl,by rw[h.ev e' (QE e0),Int.toNat_of_nonneg h0]⟩
    . cases he
 have hb:(Instr.sliceBounds true len cap (lo.map a.eval) (hi.map a.eval) none).run E.P w= .ok (l,k,cap) w:=by
  simp only[aB] at h2;rcases hbnd _ _ _ hlo with⟨rfl,rfl⟩|⟨e1,k1,rfl,q1⟩<;>rcases hbnd _ _ _ hhi with⟨rfl,rfl⟩|⟨e2,k2,rfl,q2⟩
  . simp[Instr.sliceBounds,aB]
  . simp[Instr.sliceBounds,q2,a6 _ (show k<=cap by omega)]
  . simp[Instr.sliceBounds,q1,aB,a6 _ h1]
  . simp[Instr.sliceBounds,q1,q2,a6 _ (show k<=cap by omega),a6 _ h1]
 refine ik h hd hK ?_ (fun m=> .x _) hr;simp only[execOp,ho,hx,Instr.sliceAt,Sem.run_bind,av hel,Result.andThen_ok,Instr.slice,QR,hb,bl hz,Sem.run_pure];rfl
theorem o8 (hE:EnvOK E) (D:Nat->Bool):iM E (uE E.P D):=by
 refine⟨fun o ρ H c e=>by unfold uE;rw[e],fun n B s a w o R K Q T h hT hd hr hK=>?_⟩;unfold uE at hT;split at hT
 case h_2=>cases hT
 rename_i t ho;split at hT
 case h_2=>cases hT
 cases hT;obtain⟨xs,hxs,hr⟩:=bE hr;unfold rz at hxs;split at hxs
 case h_2=>cases hxs
 rename_i i hi;obtain⟨zv,hzv,rfl⟩:=PK.1 hxs;refine yA hE h hd hK (ob:= .cells zv.cells t) ?_ (by have:=hr w.heap.size h.new;rwa [show rowO zv.cells.toList t= .cells zv.cells t by simp[rowO]] at this);have hz:(zeroValue t).run E.P w= .ok zv w:=by simp[zeroValue,typeInfo,hi,hzv]
 simp only[execOp,ho,Instr.alloc,Sem.run_bind,hz,Result.andThen_ok,newVar,newRow,run_newObj,Sem.run_pure];rfl
end
attribute [go_sem] iZ uD B4 uE rx Kt B0
attribute [go_sem] Option.map_none
def B6 (tbl:List Nat) (o:Oper):List Nat:=tbl++[(directV o).foldl (fun m k=>m|||(2^k|||tbl.getD k 0)) 0]
def HO (ops:List Oper):List Nat:=ops.foldl B6 []
def B7 (ops:List Oper) (i:Nat):Nat:=(HO ops).getD i 0
theorem rA {f:Nat->Nat} {k:Nat}:∀(l:List Nat) (m:Nat),(l.foldl (fun m k=>m|||f k) m).testBit k=true->m.testBit k=true∨∃j∈l,(f j).testBit k=true
 |[],m,h=> .inl h
 | j::l,m,h=>by
   rcases rA l _ h with h|⟨j',hj,h⟩
   . rw[Rv,QO] at h;exact h.imp id fun h=>⟨j,PZ ..,h⟩
   . exact .inr ⟨j',P4 _ hj,h⟩
theorem j7 {ops:List Oper} {L:Nat} (hcl:ClosedM ops L):∀n,n<=ops.length->(((ops.take n).foldl B6 []).length=n∧∀j m:Nat,((ops.take n).foldl B6 [])[j]?=some m->∀o,ops[j]?=some o->(∀k∈directV o,L.testBit k=true)->∀k,m.testBit k=true->L.testBit k=true)
 |0,_=>⟨rfl,fun j m h=>by simp at h⟩
 | n + 1,hn=>by
   have hn':n<ops.length:=by omega
   have hx:=j7 hcl n (by omega);have ht:ops.take (n+1)=ops.take n++[ops[n]'hn']:=(List.take_append_getElem hn').symm;rw[ht,List.foldl_append];clear ht;obtain⟨h1,h2⟩:=hx;generalize (ops.take n).foldl B6 []=tbl at h1 h2;simp only[List.foldl_cons,List.foldl_nil,B6];refine⟨by simp[h1],fun j m hj o ho hd k hk=>?_⟩;by_cases hjn:j<tbl.length
   . rw[PT hjn] at hj;exact h2 j m hj o ho hd k hk
   . rw [P6 (by omega)] at hj;have e:j=n:=by have:=(PE.1 hj).1;simp at this;omega
     subst e;rw[h1,RZ] at hj;cases hj;rw[Io (by omega)] at ho;cases ho;rcases rA (f:=fun k=>2^k|||tbl.getD k 0) _ _ hk with h|⟨k',hk',h⟩
     . simp at h
     . rw [Rv,QO] at h;rcases h with h|h
       . rw[Rh] at h;rw[<-QA h];exact hd k' hk'
       . cases hg:tbl[k']? with
         |none=>rw[RF,hg] at h;simp at h
         | some m'=>
           rw[RF,hg] at h;have hl:k'<ops.length:=by have:=(PE.1 hg).1;omega
           exact h2 k' m' hg _ (Io hl) (fun q hq=>hcl k' _ (Io hl) (hd k' hk') q hq) k h
variable {ops:List Oper}
theorem rB {L i k:Nat} {o:Oper} (hcl:ClosedM ops L) (ho:ops[i]?=some o) (hd:∀k∈directV o,L.testBit k=true) (hk:(B7 ops i).testBit k=true):L.testBit k=true:=by obtain⟨h1,h2⟩:=j7 hcl ops.length (PB _);rw[QL] at h1 h2;unfold B7 HO at hk;have hl:i<ops.length:=(PE.1 ho).1;rw[RF,Io (by rw[h1];exact hl)] at hk;exact h2 i _ (Io (by rw[h1];exact hl)) o ho hd k hk
def uF (ops:List Oper) (W:List Nat) (k:Nat):Bool:=W.any fun i=>match ops[i]? with
 |some o=>o.dst==some k
 |none=>false
def B8 (ops:List Oper) (W:List Nat) (stage:Nat->Nat):Bool:=
 (decide W.Nodup&&(W.all fun i=>decide (i<ops.length))&&((List.range ops.length).all fun i=>W.contains i||(match (ops[i]?).bind (·.dst) with|some d=> !uF ops W d|none=>true)))&&((List.range W.length).all fun t=>match W[t]?,W[t+1]? with
  |some i,some j=>(B7 ops j).testBit i
  |_,_=>true)&&((List.range ops.length).all fun i=>W.contains i||((List.range W.length).all fun t=>decide (t<stage i)||(match W[t]? with
  |some j=>(B7 ops j).testBit i
  |none=>true)))
variable {F:Fx} {s:XS}
theorem aU {K:XS->Prop} (need:Nat->List Nat) (W:List Nat) (stage:Nat->Nat) (J:Nat->HH->(Nat->V)->Prop) (val0:Nat->V) (h1:qU ops=true) (h2:((List.range ops.length).all fun i=>(match ops[i]? with|some o=>(need i).all fun k=>(directV o).any (g3 ops k)|none=>true))=true) (hch:B8 ops W stage=true) (h3:J 0 s.H val0)
 (hread:∀(j i:Nat) (o:Oper) (H:HH) (val:Nat->V) (st:St),ops[i]?=some o->W.contains i=false->j<=stage i->J j H val->(∀k,uF ops W k=false->val k=val0 k)->(∀k∈need i,st.t k=val k)->(∀k,(ops.all fun o=>o.dst !=some k)=true->st.t k=s.st.t k)->st.b=s.st.b->
  ∀K':XS->Prop,(∀st',Le (match o.dst with|some d=>st.put (some d) (val0 d)|none=>st) st'->K' ⟨st',H⟩)->dI E F ⟨ops⟩ [o] ⟨st,H⟩ K')
 (hwrite:∀(j i:Nat) (o:Oper) (H:HH) (val:Nat->V) (st:St),W[j]?=some i->ops[i]?=some o->J j H val->(∀k,uF ops W k=false->val k=val0 k)->(∀k∈need i,st.t k=val k)->(∀k,(ops.all fun o=>o.dst !=some k)=true->st.t k=s.st.t k)->st.b=s.st.b->
  ∀K':XS->Prop,(∀H' v st',J (j+1) H' (match o.dst with|some d=>aw val d v|none=>val)->Le (match o.dst with|some d=>st.put (some d) v|none=>st) st'->K' ⟨st',H'⟩)->dI E F ⟨ops⟩ [o] ⟨st,H⟩ K')
 (hend:∀H val,J W.length H val->(∀k,uF ops W k=false->val k=val0 k)->∃ts bs,jk (mR s.st val ops (2^ops.length-1)) ts∧jl (mR s.st val ops (2^ops.length-1)) bs∧K ⟨fC ts bs,H⟩):yn E F ops s K:=by
 simp only[B8,PG,Qa] at hch;obtain⟨⟨⟨⟨hnd,hlen⟩,hdis⟩,hchain⟩,hstage⟩:=hch;have dstW_ne:∀{t i:Nat} {o:Oper},W[t]?=some i->ops[i]?=some o->∀k,uF ops W k=false->o.dst≠some k:=fun {t i o} ht ho k hk e=>by unfold uF at hk;rw[List.any_eq_false] at hk;have:=hk i (PM ht);rw[ho] at this;simp[e] at this
 refine vV need (fun L H val=>∃j,j<=W.length∧(∀t i,W[t]?=some i->(L.testBit i=true↔t<j))∧J j H val∧∀k,uF ops W k=false->val k=val0 k) val0 h1 h2 ⟨0,PH _,fun t i _=>by simp,h3,fun _ _=>rfl⟩ ?_ ?_
 . rintro L i o H val st ho hb hdd hcl ⟨j,hj,hL,hJ,hv⟩ hn hbase hbb;by_cases hW:W.contains i=true
   . have hmem:i∈W:=by simpa using hW
     obtain⟨t,ht⟩:=Q8.1 hmem;have htl:=(PE.1 ht).1;have h5: ¬t<j:=fun h=>by rw[(hL t i ht).2 h] at hb;cases hb
     have h6:t<=j:=by
      cases t with
      |zero=>exact PH _
      |succ t=>have hp:W[t]?=some W[t]:=Io (by omega);have:=PJ.1 hchain t (Qg.2 (by omega));rw[hp,ht] at this;have:=(hL t _ hp).1 (rB hcl ho hdd this);omega
     obtain rfl:t=j:=by omega
     refine hwrite t i o H val st ht ho hJ hv hn hbase hbb _ fun H' v st' q2 q3=>⟨match o.dst with|some d=>aw val d v|none=>val,fun k hk=>?_,⟨t+1,htl,fun t' i' ht'=>?_,q2,fun k hk=>?_⟩,?_⟩
     . cases hd:o.dst with
       |none=>rfl
       |some d=>exact ae _ _ (fun e=>hk (by rw[hd,e]))
     rotate_left
     . have:=dstW_ne ht ho k hk;cases hd:o.dst with
       |none=>exact hv k hk
       |some d=>show aw val d v k=_;rw[ae _ _ (fun e=>this (by rw[hd,e]))];exact hv k hk
     . cases hd:o.dst with
       |none=>rw[hd] at q3;exact q3
       |some d=>rw[hd] at q3;show Le (st.put (some d) (aw val d v d)) st';rw[aa];exact q3
     by_cases e:i=i'
     . subst e;have:t'=t:=(List.getElem?_inj (PE.1 ht').1 hnd).1 (ht'.trans ht.symm);rw[BD];simp[this]
     . rw[lX L e];have hne:t'≠t:=fun e'=>by subst e';rw[ht] at ht';cases ht';exact e rfl
       rw[hL t' i' ht'];omega
   . have hW':W.contains i=false:=by simpa using hW
     have hil:=(PE.1 ho).1;have hst:j<=stage i:=by
      have:=PJ.1 hstage i (Qg.2 hil);rw[hW',RQ] at this;rcases Ql (stage i) j with h|h
      . have h7:=PJ.1 this (stage i) (Qg.2 (by omega));have hp:W[stage i]?=some W[stage i]:=Io (by omega);rw[hp] at h7;simp only[Nat.lt_irrefl,decide_false,RQ] at h7;have hon:=(hL _ _ hp).2 h;obtain⟨o',ho'⟩:∃o',ops[W[stage i]]?=some o':=by
         cases hh:ops[W[stage i]]? with
         |some o'=>exact⟨o',rfl⟩
         | none=>
           rw[B7,RF,Qc] at h7
           . simp at h7
           . have h9:=(j7 hcl ops.length (PB _)).1;rw[QL] at h9;unfold HO;rw[h9];exact List.getElem?_eq_none_iff.1 hh
        have:=rB hcl ho' (fun k hk=>hcl _ o' ho' hon k hk) h7;rw[hb] at this;cases this
      . exact h
     refine hread j i o H val st ho hW' hst hJ hv hn hbase hbb _ fun st' q=>⟨val,fun _ _=>rfl,⟨j,hj,fun t i' ht=>?_,hJ,hv⟩,?_⟩
     rotate_left
     . have:=PJ.1 hdis i (Qg.2 hil);rw[hW',ho] at this;cases hd:o.dst with
       |none=>rw[hd] at q;exact q
       |some d=>simp only[QQ,hd,RQ,Qx] at this;rw[hd] at q;show Le (st.put (some d) (val d)) _;rw[hv d this];exact q
     have e:i≠i':=fun e=>by subst e;rw[show W.contains i=true from by simpa using PM ht] at hW';cases hW'
     rw[lX L e];exact hL t i' ht
 . rintro H val ⟨j,hj,hL,hJ,hv⟩;have:j=W.length:=by
    rcases Ql j W.length with h|h
    . have hp:W[j]?=some W[j]:=Io h;have hlt:W[j]<ops.length:=QA (PJ.1 hlen _ (R8 h));have hb:(2^ops.length-1).testBit W[j]=true:=by rw[Nat.testBit_two_pow_sub_one];exact PD hlt
      have:=(hL j _ hp).1 hb;omega
    . omega
   subst this;exact hend H val hJ hv
theorem B9 {K:XS->Prop} (need:Nat->List Nat) (Q:Nat->V->Prop) (h1:qU ops=true) (h2:((List.range ops.length).all fun i=>(match ops[i]? with|some o=>(need i).all fun k=>(directV o).any (g3 ops k)|none=>true))=true)
 (hread:∀(i:Nat) (o:Oper) (st:St),ops[i]?=some o->(∀k∈need i,Q k (st.t k))->(∀k,(ops.all fun o=>o.dst !=some k)=true->st.t k=s.st.t k)->st.b=s.st.b->
  ∀K':XS->Prop,(∀v st',(∀d,o.dst=some d->Q d v)->Le (match o.dst with|some d=>st.put (some d) v|none=>st) st'->K' ⟨st',s.H⟩)->dI E F ⟨ops⟩ [o] ⟨st,s.H⟩ K')
 (hend:∀val,(∀k,dh ops (2^ops.length-1) k=true->Q k (val k))->∃ts bs,jk (mR s.st val ops (2^ops.length-1)) ts∧jl (mR s.st val ops (2^ops.length-1)) bs∧K ⟨fC ts bs,s.H⟩):yn E F ops s K:=by
 refine vV need (fun L H val=>H=s.H∧∀k,dh ops L k=true->Q k (val k)) s.st.t h1 h2 ⟨rfl,fun k hk=>by unfold dh at hk;simp at hk⟩ ?_ ?_
 . rintro L i o H val st ho hb hdd hcl ⟨rfl,hq⟩ hn hbase hbb;have hil:=(PE.1 ho).1;refine hread i o st ho (fun k hk=>?_) hbase hbb _ fun v st' hv hle=>⟨match o.dst with|some d=>aw val d v|none=>val,fun k hk=>?_,⟨rfl,fun k hk=>?_⟩,?_⟩
   . rw[hn k hk];refine hq k ?_;have:=PJ.1 h2 i (Qg.2 hil);rw[ho] at this;obtain⟨j,hj,hg⟩:=Q2.1 (PJ.1 this k hk);unfold g3 at hg;unfold dh;refine Q2.2 ⟨j,?_,?_⟩
     . cases hoj:ops[j]? with
       |none=>rw[hoj] at hg;cases hg
       |some o'=>exact Qg.2 (PE.1 hoj).1
     . rw[hdd j hj,Ru];exact hg
   . cases hd:o.dst with
     |none=>rfl
     |some d=>exact ae _ _ (fun e=>hk (by rw[hd,e]))
   . by_cases e:o.dst=some k
     . rw[e];show Q k (aw val k v k);rw[aa];exact hv k e
     . have hk':dh ops L k=true:=by
        unfold dh at hk⊢;obtain⟨j,hj,hx⟩:=Q2.1 hk;refine Q2.2 ⟨j,hj,?_⟩;by_cases ej:i=j
        . subst ej;rw[ho] at hx;simp only[PG,beq_iff_eq] at hx;exact absurd hx.2 e
        . rw[lX L ej] at hx;exact hx
       have:=hq k hk';cases hd:o.dst with
       |none=>exact this
       |some d=>show Q k (aw val d v k);rw[ae _ _ (fun e'=>e (by rw[hd,e']))];exact this
   . cases hd:o.dst with
     |none=>rw[hd] at hle;exact hle
     |some d=>rw[hd] at hle;show Le (st.put (some d) (aw val d v d)) st';rw[aa];exact hle
 . rintro H val ⟨rfl,hq⟩;exact hend val hq
theorem mc {f:FuncId} {C:List V->HH->Tr} {F:List V->Option V} (h:cV E f C) (hc:∀us r,F us=some r->C us (fun _=>none) (fun v _=>v=r)):Fun E f F:=by refine⟨h.1,fun m w vs us r hF hdat hr hj hg=>?_⟩;refine(h.2 m w vs us (fun _=>none) _ (hc us r hF) hdat hr (fun g ob e=>by cases e) hj hg).mono ?_;rintro e w' ⟨v,m',u,H',rfl,hv,rfl,hs,_⟩;exact⟨v,m',rfl,hv,hs.below (fun k _ hn=>hn rfl),fun blk hb=>(hs.same blk hb (fun hn=>hn rfl)).2⟩
open Go.ChangeMaps (setBlock)
def MapE (ents:Array MapEntry) (clock:Nat) (ks vs:List V):Prop:=(∀m w,MapRd m w ents.toList ks vs)∧(∀v∈vs,v.dat=true∧∃x,v.val=some x)∧(∀e∈ents.toList,e.born<clock)∧(ents.toList.map (·.born)).Nodup
def MapH (H:HH) (g:Nat) (ks vs:List V):Prop:=∃ents clock,H g=some (.map ents clock)∧MapE ents clock ks vs
def fj (H:HH) (g i:Nat) (st:Int):Prop:=∃ents clock e,H g=some (.map ents clock)∧ents[i]?=some e∧st=(e.born:Int)
def IterH (H:HH) (r g:Nat) (vis:List Nat):Prop:=∃ents clock,H g=some (.map ents clock)∧H r=some (.mapIter (some g) clock ((vis.map fun i=>((ents[i]?).map (·.born)).getD 0).toArray) clock)∧vis.Nodup∧(∀i∈vis,i<ents.size)∧r≠g
variable {g:Nat} {vs:List V}
theorem MapH.len {ks:List V} (h:MapH H g ks vs):ks.length=vs.length:=by obtain⟨ents,clock,_,h1,_⟩:=h;have:=(h1 (fun _=>none) default).len;omega
theorem MapH.to {ks:List V} (h:MapH H g ks vs) (e:H' g=H g):MapH H' g ks vs:=by obtain⟨ents,clock,h0,h1⟩:=h;exact⟨ents,clock,e.trans h0,h1⟩
variable {r:Nat} {vis:List Nat}
theorem IterH.to (h:IterH H r g vis) (e:H' g=H g) (e':H' r=H r):IterH H' r g vis:=by obtain⟨ents,clock,h0,h1,h2⟩:=h;exact⟨ents,clock,e.trans h0,e'.trans h1,h2⟩
theorem nV:∀{es:List MapEntry} {ks vs:List V} {m:Lim} {w:World},MapRd m w es ks vs->(∀v∈vs,v.dat=true∧∃x,v.val=some x)->∀m' w',MapRd m' w' es ks vs
 |[],[],[],_,_,_,_,_,_=>trivial
 |_::_,_::_,v::_,_,_,h,hv,m',w'=>⟨h.1,⟨h.2.1.1,by obtain⟨x,hx⟩:=(hv v (PZ ..)).2;rw[h.2.1.2.val_is hx];exact dz hx⟩,nV h.2.2 (fun u hu=>hv u (P4 _ hu)) m' w'⟩
def eb (P:Program) (t:TypeId) (ks:List V) (k:V):Nat:=match P.underlying t with
 | some (.map kt _)=>match gf P kt k ks 0 with
   |some (some i)=>i
   |_=>ks.length
 |_=>0
def uG (P:Program) (t:TypeId) (ks vs:List V) (k:V):Option (List V×List V):=match P.underlying t with
 | some (.map kt _)=>if dF P kt k=true then match gf P kt k ks 0 with
   |some (some i)=>some (ks.eraseIdx i,vs.eraseIdx i)
   |some none=>some (ks,vs)
   |none=>none
   else none
 |_=>none
def Iw (D:Nat->Bool) (o:Oper) (_:Operand->V) (H:HH):Option Tr:=
 match o.op with
 | .makeMap _ none=>match (o.dst.map D).getD false with
   |true=>some fun T=>∀g,H g=none->MapH (aw H g (some (.map #[] 0))) g [] []->T (.x (.map (some g))) (aw H g (some (.map #[] 0)))
   |false=>none
 |_=>none
def Gl (P:Program) (t:TypeId) (H:HH) (k:V) (ok:Bool) (T:V->HH->Prop):Option Nat->Prop
 |some g=>∃ks vs u,MapH H g ks vs∧k.dat=true∧ed P t (.mp 0 ks vs) k ok=some u∧T u H
 |none=>∃u,k.dat=true∧ed P t (.mp 0 [] []) k ok=some u∧T u H
def me (P:Program) (o:Oper) (ρ:Operand->V) (H:HH):Option Tr:=
 match o.op with
 | .lookup t x k ok=>match ρ x with
   | .x (.map g)=>some fun T=>Gl P t H (ρ k) ok T g
   |_=>none
 |_=>none
def Ku (P:Program) (t:TypeId) (H:HH) (g:Nat) (k v:V) (T:V->HH->Prop):Prop:=
 ∃ks vs ks' vs',MapH H g ks vs∧k.dat=true∧(v.dat=true∧∃x,v.val=some x)∧putM P t ks vs k v=some (ks',vs')∧∀ob,MapH (aw H g (some ob)) g ks' vs'->T .undef (aw H g (some ob))
def Ca (P:Program) (o:Oper) (ρ:Operand->V) (H:HH):Option Tr:=
 match o.op,o.dst with
 | .mapUpdate t m k x,none=>match ρ m with
   | .x (.map (some g))=>some fun T=>Ku P t H g (ρ k).bare (ρ x).bare T
   |_=>none
 |_,_=>none
def Kv (P:Program) (t:TypeId) (H:HH) (g:Nat) (k:V) (T:V->HH->Prop):Prop:=
 ∃ks vs ks' vs',MapH H g ks vs∧k.dat=true∧uG P t ks vs k=some (ks',vs')∧∀ob,MapH (aw H g (some ob)) g ks' vs'->T (.x (.tuple #[])) (aw H g (some ob))
def Cb (P:Program) (o:Oper) (ρ:Operand->V) (H:HH):Option Tr:=
 match o.op with
 | .call {callee:= .builtin .delete,args,argTypes}=>match args.toList,argTypes.toList with
   | [m,k],t::_=>match ρ m with
     | .x (.map (some g))=>some fun T=>Kv P t H g (ρ k) T
     |_=>none
   |_,_=>none
 |_=>none
def Kw (P:Program) (t:TypeId) (H:HH) (g:Nat) (k:V) (T:V->HH->Prop):Prop:=
 ∃ ks vs ks' vs' v,MapH H g ks vs∧k.dat=true∧(v.dat=true∧∃x,v.val=some x)∧ed P t (.mp 0 ks vs) k false=some v∧putM P t ks vs k v=some (ks',vs')∧
   ∀ob st,MapH (aw H g (some ob)) g ks' vs'->fj (aw H g (some ob)) g (eb P t ks k) st->T (.tup [v,.x (.int .i64 st)]) (aw H g (some ob))
def Cc (P:Program) (o:Oper) (ρ:Operand->V) (H:HH):Option Tr:=
 match o.op with
 | .mapEntry t m k=>match ρ m with
   | .x (.map (some g))=>some fun T=>Kw P t H g (ρ k) T
   |_=>none
 |_=>none
def Kx (H:HH) (g:Nat) (st:Int) (x:V) (T:V->HH->Prop):Prop:=
 ∃ks vs i,MapH H g ks vs∧fj H g i st∧(x.dat=true∧∃y,x.val=some y)∧∀ob,MapH (aw H g (some ob)) g ks (vs.set i x)->T .undef (aw H g (some ob))
def Cd (o:Oper) (ρ:Operand->V) (H:HH):Option Tr:=
 match o.op,o.dst with
 | .entryStore _ m s x,none=>match ρ m,ρ s with
   | .x (.map (some g)),.x (.int _ st)=>some fun T=>Kx H g st (ρ x).bare T
   |_,_=>none
 |_,_=>none
def mf (D:Nat->Bool) (P:Program) (o:Oper) (ρ:Operand->V) (H:HH):Option Tr:=
 match o.op with
 | .range t x=>match (o.dst.map D).getD false,ρ x with
   |true,.x (.map (some g))=>some fun T=>(∃kt et,P.underlying t=some (.map kt et))∧(∃ks vs,MapH H g ks vs)∧∀r ob,H r=none->IterH (aw H r (some ob)) r g []->T (.x (.pointer (some ⟨r,0,none⟩))) (aw H r (some ob))
   |_,_=>none
 |_=>none
def Ce (H:HH) (r:Nat) (T:V->HH->Prop):Prop:=
 ∃ g ks vs vis,MapH H g ks vs∧IterH H r g vis∧((∀i,i<ks.length->i∈vis)->T (.tup [.x (.bool false)]) H)∧
   ∀i k v,ks[i]?=some k->vs[i]?=some v->i∉vis->∀ob,IterH (aw H r (some ob)) r g (vis++[i])->T (.tup [.x (.bool true),k,v]) (aw H r (some ob))
def rC (D:Nat->Bool) (o:Oper) (ρ:Operand->V) (H:HH):Option Tr:=
 match o.op with
 | .next it false=>match (o.dst.map D).getD false,ρ it with
   |true,.x (.pointer (some ⟨r,0,none⟩))=>some fun T=>Ce H r T
   |_,_=>none
 |_=>none
def Ky (P:Program) (o:Oper) (ρ:Operand->V) (H:HH):Option Tr:=
 match o.op with
 | .call {callee:= .builtin .len,args,argTypes}=>match args.toList,argTypes.toList with
   | [x],[t]=>match ρ x with
     | .x (.map (some g))=>some fun T=>(∃kt et,P.underlying t=some (.map kt et))∧∃ks vs,MapH H g ks vs∧T (.x (.int .i64 (ks.length:Int))) H
     | .x (.map none)=>some fun T=>(∃kt et,P.underlying t=some (.map kt et))∧T (.x (.int .i64 0)) H
     |_=>none
   |_,_=>none
 |_=>none
section
variable {E:Env} {n:Nat} {B:Xb} {s:XS} {a:Act} {w w':World} {o:Oper} {R:V->HH->Prop} {K:Act->World->Prop} {Q:Exit->Act->World->Prop}
theorem HoldX.putM (h:HoldX E n B s a w) {d:Option Tmp} (hd:∀k,d=some k->k<n) {v:Value} {u:V} (hv:∀m,(∀g ob,s.H g=some ob->m g=some 0)->Rd m w v u):HoldX E n B ⟨s.st.put d u.bare,s.H⟩ (a.put d v) w:=by
 obtain⟨D,m,O,h1,h2,h3⟩:=h;cases d with
 |none=>exact⟨D,m,O,h1,h2,h3⟩
 |some k=>exact⟨D,m,O,h1.put (hd k rfl) (hv m fun g ob hg=>(h2 g ob hg).2.2.1),h2,h3⟩
theorem HoldX.rdd (h:HoldX E n B s a w) (x:Operand) {u:V} (hx:Go.Proofs.Ytldnpcolhdnkdaa.ev E s.st x=u) (hu:u.dat=true):∃m,(∀g ob,s.H g=some ob->m g=some 0)∧Rd m w (a.eval x) u:=by obtain⟨D,m,O,⟨⟨b,β,hr⟩,_⟩,h2,_⟩:=h;exact⟨m,fun g ob hg=>(h2 g ob hg).2.2.1,(hx▸aA hr x).rd (by cases u<;>first|rfl|cases hu)⟩
variable {ents:Array MapEntry} {clock:Nat} {m:Lim}
theorem MapE.at {ks:List V} (h:MapE ents clock ks vs) (hh:w.heap[g]?=some (.map ents clock)) (hm:m g=some 0):MapAt m w g ks vs:=⟨ents,clock,hh,h.1 m w,h.2.2.1,h.2.2.2,hm⟩
theorem MapAt.e {ks:List V} (h:MapAt m w g ks vs) (hh:w.heap[g]?=some (.map ents clock)) (hv:∀v∈vs,v.dat=true∧∃x,v.val=some x):MapE ents clock ks vs:=by obtain⟨e2,c2,h0,h1,h2,h3,_⟩:=h;rw[hh] at h0;cases h0;exact⟨nV h1 hv,hv,h2,h3⟩
variable {P:Program} {t:TypeId}
theorem yE {ks ks' vs':List V} {k v:V} (h:putM P t ks vs k v=some (ks',vs')) (hv:∀v∈vs,v.dat=true∧∃x,v.val=some x) (hv':v.dat=true∧∃x,v.val=some x):∀v∈vs',v.dat=true∧∃x,v.val=some x:=by
 unfold putM at h;split at h
 case h_2=>cases h
 split at h
 case isFalse=>cases h
 split at h
 . split at h
   case isFalse=>cases h
   cases h;intro u hu;rcases RK hu with hu|rfl
   . exact hv u hu
   . exact hv'
 . cases h;intro u hu;rcases PU.1 hu with hu|hu
   . exact hv u hu
   . rw[PQ.1 hu];exact hv'
 . cases h
theorem HoldX.wroteM (hE:EnvOK E) (h:HoldX E n B s a w) {g:Nat} {ob ob':Obj} (hg:s.H g=some ob'):HoldX E n B ⟨s.st,aw s.H g (some ob)⟩ a {w with heap:=w.heap.setIfInBounds g ob}:=by have hh:=h.at hg;obtain⟨q1,q2⟩:=MapKept.heap_set (o':=ob) hh;exact h.wrote1 hE rfl rfl rfl (by simp) q1 (fun j _ hj=>q2 j hj) (.inl (by rw[hg];simp))
theorem Cf (hE:EnvOK E) (D:Nat->Bool):iM E (Iw D):=by
 refine⟨fun o ρ H c e=>by unfold Iw;rw[e],fun n B s a w o R K Q T h hT hd hr hK=>?_⟩;unfold Iw at hT;split at hT
 case h_2=>cases hT
 rename_i t ho;split at hT
 case h_2=>cases hT
 cases hT;exact yA hE h hd hK (BA ho) (hr _ h.new ⟨#[],0,aa _ _ _,fun _ _=>trivial,(fun v hv=>by cases hv),(fun e he=>by simp at he),by simp⟩)
theorem mh:iM E (me E.P):=by
 refine⟨fun o ρ H c e=>by unfold me;rw[e],fun n B s a w o R K Q T h hT hd hr hK=>?_⟩;unfold me at hT;split at hT
 case h_2=>cases hT
 rename_i t x k ok ho;split at hT
 case h_2=>cases hT
 rename_i mg hx;cases hT;have hx':=h.ev x hx;have key:∀(m:Lim) (v:Value) (u:V),(Instr.lookup t (.map mg) (a.eval k) ok).run E.P w= .ok v w->R u s.H->(∀m,(∀g ob,s.H g=some ob->m g=some 0)->Rd m w v u)->o.wp E.P a w K Q:=fun m v u hrun hR hv=>by unfold Oper.wp;rw[show(execOp a.eval o).run E.P w= .ok (.value v) w by simp only[execOp,ho,hx',Sem.run_bind,hrun,Result.andThen_ok,Sem.run_pure]];exact hK _ _ _ _ hR (h.putM hd hv)
 cases mg with
 | some g=>
   obtain⟨ks,vs,u,⟨ents,clock,h0,h1⟩,hkd,hl,hR⟩:=hr;have hh:=h.at h0;obtain⟨m,hm,hk⟩:=h.rdd k rfl hkd;obtain⟨v,hrun,hv⟩:=kq (h1.at hh (hm g _ h0)) hk hl;refine key m v u hrun hR (fun m' hm'=>?_);obtain⟨kx,hkx⟩:∃x,(ev E s.st k).val=some x:=by
    unfold ed at hl;split at hl
    . split at hl
      . rename_i hok;simp only[dF,PG] at hok;exact nu hok.1
      . cases hl
    . cases hl
   have hk':Rd m' w (a.eval k) (ev E s.st k):=by rw[hk.val_is hkx];exact dz hkx
   obtain⟨v',hrun',hv'⟩:=kq (h1.at hh (hm' g _ h0)) hk' hl;rw[hrun] at hrun';cases hrun';exact hv'
 | none=>
   obtain⟨u,hkd,hl,hR⟩:=hr;obtain⟨m,hm,hk⟩:=h.rdd k rfl hkd;unfold ed at hl;split at hl
   case h_2=>cases hl
   rename_i kt et ks vs hu hkv;cases hkv;split at hl
   case isFalse=>cases hl
   rename_i hok;simp only[gf] at hl;obtain⟨z,hz,rfl⟩:=PK.1 hl;have hck:(Instr.checkKey true 10000 kt (a.eval k)).run E.P w= .ok () w:=by simp only[dF,PG] at hok;exact dv _ 20 kt _ _ hok.2 hk 10000 (by omega)
   obtain⟨zv,hzr,_⟩:=e6 (w:=w) (m:=m) hz;obtain⟨hf,_,_,_⟩:=cJ (es:=[]) (ks:=[]) (vs:=[]) (r:=none) hok hk trivial rfl;refine key m _ _ (by simp only[Instr.lookup,Sem.run_bind,av hu,Result.andThen_ok,Sem.run_pure,show(#[]:Array MapEntry).isEmpty=true from rfl,hck,hf,hzr,QR];rfl) hR (fun m' _=>?_);obtain⟨zv',hzr',hzd'⟩:=e6 (w:=w) (m:=m') hz;rw[hzr] at hzr';cases hzr';cases ok with
   |false=>exact hzd'
   |true=>exact Rd.tup_iff.2 ⟨_,rfl,hzd',.x _,trivial⟩
theorem Fl (hE:EnvOK E):iM E (Ca E.P):=by
 refine⟨fun o ρ H c e=>by unfold Ca;rw[e],fun n B s a w o R K Q T h hT hd hr hK=>?_⟩;unfold Ca at hT;split at hT
 case h_2=>cases hT
 rename_i t m k x ho hdst;split at hT
 case h_2=>cases hT
 rename_i g hm;cases hT;obtain⟨ks,vs,ks',vs',⟨ents,clock,h0,h1⟩,hkd,hvd,hp,hR⟩:=hr;have hm':=h.ev m hm;have hh:=h.at h0;obtain⟨D,mm,O,⟨⟨b,β,hrel⟩,hlt⟩,h2,h3⟩:=id h;have hk:Rd mm w (a.eval k) (ev E s.st k).bare:=(aA hrel k).bare.rd (by revert hkd;generalize (ev E s.st k).bare=u;intro hkd;cases u<;>first|rfl|cases hkd);have hx:Rd mm w (a.eval x) (ev E s.st x).bare:=(aA hrel x).bare.rd (by have hvd:=hvd.1;revert hvd;generalize (ev E s.st x).bare=u;intro hkd;cases u<;>first|rfl|cases hkd);obtain⟨ents',clock',hrun,hat,_⟩:=lr (h1.at hh (h2 g _ h0).2.2.1) hk hx hp;have hX:=h.wroteM hE (ob:= .map ents' clock') h0;have hE':MapE ents' clock' ks' vs':=hat.e (MapKept.heap_set hh).1 (yE hp h1.2.1 hvd);have hrun2:(execOp a.eval o).run E.P w= .ok .skip {w with heap:=w.heap.setIfInBounds g (.map ents' clock')}:=by simp only[execOp,ho,hm',Sem.run_bind,hrun,Result.andThen_ok,Sem.run_pure]
 unfold Oper.wp;rw[hrun2];show K (a.put o.dst undef) _;have:=hK a _ .undef _ (hR _ ⟨ents',clock',aa _ _ _,hE'⟩) (by rw[hdst];exact hX);rw[hdst];exact this
theorem mi:∀{es:List MapEntry} {ks vs:List V} {m:Lim} {w:World},MapRd m w es ks vs->∀i,MapRd m w (es.eraseIdx i) (ks.eraseIdx i) (vs.eraseIdx i)
 |[],[],[],_,_,_,i=>by cases i<;>trivial
 |_::_,_::_,_::_,_,_,h,0=>h.2.2
 |_::_,_::_,_::_,_,_,h,i+1=>⟨h.1,h.2.1,mi h.2.2 i⟩
theorem Fm (hE:EnvOK E):iM E (Cb E.P):=by
 refine⟨fun o ρ H c e=>by unfold Cb;rw[e],fun n B s a w o R K Q T h hT hd hr hK=>?_⟩;unfold Cb at hT;split at hT
 case h_2=>cases hT
 rename_i args ts ho;split at hT
 case h_2=>cases hT
 rename_i m k t tr hargs hts;split at hT
 case h_2=>cases hT
 rename_i g hm;cases hT;obtain⟨ks,vs,ks',vs',⟨ents,clock,h0,h1⟩,hkd,hp,hR⟩:=hr;have ha:args= #[m,k]:=Qe.1 hargs;subst ha;have hm':=h.ev m hm;have hh:=h.at h0;obtain⟨mm,hmm,hk⟩:=h.rdd k rfl hkd;unfold uG at hp;split at hp
 case h_2=>cases hp
 rename_i kt et hu;split at hp
 case isFalse=>cases hp
 rename_i hok;have hck:(Instr.checkKey ents.isEmpty 10000 kt (a.eval k)).run E.P w= .ok () w:=by simp only[dF,PG] at hok;exact dv _ 20 kt _ _ hok.2 hk 10000 (by omega)
 have h00:ts[0]?=some t:=by rw[<-PN,hts];rfl
 have fin:∀(ents':Array MapEntry),MapE ents' clock ks' vs'->(Builtin.delete_ ts o.type #[Value.map (some g),a.eval k]).run E.P w= .ok (.tuple #[]) {w with heap:=w.heap.setIfInBounds g (.map ents' clock)}->o.wp E.P a w K Q:=fun ents' he hrun=>by
  have hX:=h.wroteM hE (ob:= .map ents' clock) h0;have hrun2:(execOp a.eval o).run E.P w= .ok (.value (.tuple #[])) {w with heap:=w.heap.setIfInBounds g (.map ents' clock)}:=by simp only[execOp,ho,resolve,Sem.run_bind,Sem.run_pure,Result.andThen_ok,invoke,builtin];rw[show Array.map a.eval #[m,k]= #[Value.map (some g),a.eval k] from by simp[hm'],hrun];rfl
  unfold Oper.wp;rw[hrun2];exact hK _ _ _ _ (hR _ ⟨ents',clock,aa _ _ _,he⟩) (hX.put hd (fun m=> .x _))
 split at hp
 . rename_i i hg;cases hp;obtain⟨hf,hlt,_,_⟩:=cJ hok hk (h1.1 mm w) hg;have hlt:=hlt i rfl;refine fin (ents.eraseIdxIfInBounds i) ⟨fun m w=>?_,fun v hv=>h1.2.1 v (Se hv),fun e he=>?_,?_⟩ ?_
   . rw[show(ents.eraseIdxIfInBounds i).toList=ents.toList.eraseIdx i from by simp];exact mi (h1.1 m w) i
   . rw[show(ents.eraseIdxIfInBounds i).toList=ents.toList.eraseIdx i from by simp] at he;exact h1.2.2.1 e (Se he)
   . rw[show(ents.eraseIdxIfInBounds i).toList=ents.toList.eraseIdx i from by simp];exact h1.2.2.2.sublist ((Sq ..).map _)
   . simp only[Qd] at hf;simp only[Builtin.delete_,h00,Sem.run_bind,Sem.run_pure,Result.andThen_ok,av hu,MapKept.run_getObj_map hh,hck,hf,MapKept.run_setObj_map _ hh,show(#[Value.map (some g),a.eval k]:Array Value)[0]?=some (Value.map (some g)) from rfl,show(#[Value.map (some g),a.eval k]:Array Value)[1]?=some (a.eval k) from rfl]
 . rename_i hg;cases hp;obtain⟨hf,_,_,_⟩:=cJ hok hk (h1.1 mm w) hg;refine fin ents h1 ?_;simp only[QR] at hf;simp only[Builtin.delete_,h00,Sem.run_bind,Sem.run_pure,Result.andThen_ok,av hu,MapKept.run_getObj_map hh,hck,hf,MapKept.run_setObj_map _ hh,show(#[Value.map (some g),a.eval k]:Array Value)[0]?=some (Value.map (some g)) from rfl,show(#[Value.map (some g),a.eval k]:Array Value)[1]?=some (a.eval k) from rfl]
 . cases hp
theorem yF (hE:EnvOK E) (D:Nat->Bool):iM E (mf D E.P):=by
 refine⟨fun o ρ H c e=>by unfold mf;rw[e],fun n B s a w o R K Q T h hT hd hr hK=>?_⟩;unfold mf at hT;split at hT
 case h_2=>cases hT
 rename_i t x ho;split at hT
 case h_2=>cases hT
 rename_i g hdst hx;cases hT;obtain⟨⟨kt,et,hu⟩,⟨ks,vs,ents,clock,h0,h1⟩,hR⟩:=hr;have hx':=h.ev x hx;have hh:=h.at h0;have hne:w.heap.size≠g:=fun e=>by have:=al hh;omega
 refine yA hE h hd hK (ob:= .mapIter (some g) clock #[] clock) ?_ (hR _ _ h.new ⟨ents,clock,by rw[ae _ _ (QT hne)];exact h0,by rw[aa];rfl,Q3,(fun i hi=>by cases hi),hne⟩);simp only[execOp,ho,hx',Instr.range,Sem.run_bind,av hu,Result.andThen_ok,MapKept.run_getObj_map hh,Sem.run_pure,run_newObj];rfl
theorem Cg (hE:EnvOK E) (D:Nat->Bool):iM E (rC D):=by
 refine⟨fun o ρ H c e=>by unfold rC;rw[e],fun n B s a w o R K Q T h hT hd hr hK=>?_⟩;unfold rC at hT;split at hT
 case h_2=>cases hT
 rename_i it ho;split at hT
 case h_2=>cases hT
 rename_i r hdst hx;cases hT;obtain⟨g,ks,vs,vis,⟨ents,clock,h0,h1⟩,⟨e2,c2,i0,i1,i2,i3,i4⟩,hover,hnext⟩:=hr;rw[h0] at i0;cases i0;have hx':=h.ev it hx;have hh:=h.at h0;have hi:=h.at i1;have hl:=(h1.1 (fun _=>none) w).len;have hcont:∀i,i<ents.size->(((vis.map fun i=>((ents[i]?).map (·.born)).getD 0).toArray.contains ((ents[i]?.map (·.born)).getD 0))=true↔i∈vis):=fun i hil=>by
  simp only[List.contains_toArray,Ri,Qi];constructor
  . rintro⟨j,hj,he⟩;have hjl:=i3 j hj;rw[PW hjl,PW hil] at he;simp only[Qd,QV] at he;have:=(List.getElem_inj (xs:=ents.toList.map (·.born)) (h₀:=by simpa using hjl) (h₁:=by simpa using hil) h1.2.2.2).1 (by simpa using he);rw[<-this];exact hj
  . exact fun hj=>⟨i,hj,rfl⟩
 rcases run_next_at (P:=E.P) w o.type r g clock clock _ ents clock hi hh h1.2.2.1 (PB _) with⟨hz,hrun⟩|⟨e,he,w1,hw1,hrun⟩
 . refine ik h hd hK (v:= .tuple #[.bool false]) (u:= .tup [.x (.bool false)]) ?_ (fun m=>Rd.tup_iff.2 ⟨_,rfl,.x _,trivial⟩) (hover fun i hi=>?_)
   . simp only[execOp,ho,hx',Sem.run_bind,hrun,Result.andThen_ok,Sem.run_pure]
   . have hil:i<ents.size:=by have:=hl.1;rw[PR] at this;omega
     have hz':Go.leftOf ents _= #[]:=Rc hz;unfold Go.leftOf at hz';rw[Array.filter_eq_empty_iff] at hz';have:=hz' ents[i] (by simp);refine(hcont i hil).1 ?_;rw[PW hil];simpa using this
 . obtain⟨hem,hnew⟩:=mem_left he;obtain⟨i,hil,rfl⟩:∃i,∃hil:i<ents.size,ents[i]=e:=by obtain⟨i,hil,rfl⟩:=List.getElem_of_mem hem;exact⟨i,by simpa using hil,by simp⟩
   have hiv:i∉vis:=fun hv=>by have:=(hcont i hil).2 hv;rw[PW hil] at this;simp only[Qd,QV] at this;rw[hnew] at this;cases this
   obtain⟨k,v,hk,hv,⟨_,hkv⟩,_,_⟩:=(h1.1 (fun _=>none) w).get i ents[i] (by simp[hil]);have hseen:((vis.map fun i=>((ents[i]?).map (·.born)).getD 0).toArray.push ents[i].born)=((vis++[i]).map fun i=>((ents[i]?).map (·.born)).getD 0).toArray:=by simp[hil]
   rw[hseen] at hrun;have hrun2:(execOp a.eval o).run E.P w= .ok (.value (.tuple #[.bool true,ents[i].key,ents[i].val])) (setBlock w1 r (.mapIter (some g) clock ((vis++[i]).map fun i=>((ents[i]?).map (·.born)).getD 0).toArray clock)):=by simp only[execOp,ho,hx',Sem.run_bind,hrun,Result.andThen_ok,Sem.run_pure]
   have hs:=Step.iter (m:=fun _=>none) (o:= .mapIter (some g) clock ((vis++[i]).map fun i=>((ents[i]?).map (·.born)).getD 0).toArray clock) hw1 hi;have hX:=h.wrote1 hE hs.os hs.tape hs.output hs.ext.size (m4 hw1 hi) (fun j hj hn=>(hs.same j hj hn).1) (.inl (by rw[i1];simp));unfold Oper.wp;rw[hrun2];obtain⟨xv,hxv⟩:=(h1.2.1 v (PM hv)).2;refine hK _ _ _ _ (hnext i k v hk hv hiv _ ⟨ents,clock,by rw[ae _ _ (QT i4)];exact h0,by rw[aa],?_,?_,i4⟩) (hX.put hd (fun m=>Rd.tup_iff.2 ⟨_,rfl,.x _,dz hkv,?_,trivial⟩))
   . exact QJ.2 ⟨i2,by simp,fun a ha b hb e=>by rw[PQ.1 hb] at e;exact hiv (e▸ha)⟩
   . intro j hj;rcases PU.1 hj with hj|hj
     . exact i3 j hj
     . rw[PQ.1 hj];exact hil
   . obtain⟨k2,v2,hk2,hv2,_,_,hrv⟩:=(h1.1 m w).get i ents[i] (by simp[hil]);rw[hv] at hv2;cases hv2;rw[hrv.val_is hxv];exact dz hxv
theorem rD {es:Array MapEntry} {i:Nat} {e:MapEntry} {f:MapEntry->MapEntry} (h:es[i]?=some e) (hf:f e=e):es.modify i f=es:=by
 apply Array.ext_getElem?;intro j;rw[QY];split
 . rename_i e';subst e';rw[h];simp[hf]
 . rfl
theorem rE {l:List V} {i:Nat} {v:V} (h:l[i]?=some v):l.set i v=l:=by
 apply QI;intro j;rw[RC];split
 . rename_i e;subst e;rw[h];simp[(PE.1 h).1]
 . rfl
theorem Fn (hE:EnvOK E):iM E (Cc E.P):=by
 refine⟨fun o ρ H c e=>by unfold Cc;rw[e],fun n B s a w o R K Q T h hT hd hr hK=>?_⟩;unfold Cc at hT;split at hT
 case h_2=>cases hT
 rename_i t m k ho;split at hT
 case h_2=>cases hT
 rename_i g hm;cases hT;obtain⟨ks,vs,ks',vs',v,⟨ents,clock,h0,h1⟩,hkd,hvd,hl,hp,hR⟩:=hr;have hm':=h.ev m hm;have hh:=h.at h0;obtain⟨mm,hmm,hk⟩:=h.rdd k rfl hkd;have hlen:=(h1.1 mm w).len;unfold eb at hR;unfold ed at hl;unfold putM at hp;split at hp
 case h_2=>cases hp
 rename_i kt et hu;rw[hu] at hl hR;simp only[V.kv] at hl hR;split at hp
 case isFalse=>cases hp
 rename_i hok;rw[PO hok.1] at hl;have hck:(Instr.checkKey false 10000 kt (a.eval k)).run E.P w= .ok () w:=by have:=hok.1;simp only[dF,PG] at this;exact dv _ 20 kt _ _ this.2 hk 10000 (by omega)
 have fin:∀(ents':Array MapEntry) (clock':Nat) (vv:Value) (st:Nat),MapE ents' clock' ks' vs'->(∀m,Rd m w vv v)->(∃e,ents'[(match gf E.P kt (ev E s.st k) ks 0 with|some (some i)=>i|_=>ks.length)]?=some e∧st=e.born)->(Instr.mapEntry t (.map (some g)) (a.eval k)).run E.P w= .ok (.tuple #[vv,goInt st]) {w with heap:=w.heap.setIfInBounds g (.map ents' clock')}->o.wp E.P a w K Q:=fun ents' clock' vv st he hv ⟨e,he2,hst⟩ hrun=>by
  have hX:=h.wroteM hE (ob:= .map ents' clock') h0;have hrun2:(execOp a.eval o).run E.P w= .ok (.value (.tuple #[vv,goInt st])) {w with heap:=w.heap.setIfInBounds g (.map ents' clock')}:=by simp only[execOp,ho,hm',Sem.run_bind,hrun,Result.andThen_ok,Sem.run_pure]
  unfold Oper.wp;rw[hrun2];refine hK _ _ _ _ (hR _ (st:Int) ⟨ents',clock',aa _ _ _,he⟩ ⟨ents',clock',e,aa _ _ _,he2,by rw[hst]⟩) (hX.put hd (fun m=>Rd.tup_iff.2 ⟨_,rfl,?_,.x _,trivial⟩));obtain⟨x,hx⟩:=hvd.2;rw[(hv m).val_is hx];exact dz hx
 split at hp
 . rename_i i hg;rw[hg] at hl fin;split at hp
   case isFalse=>cases hp
   rename_i hki;cases hp;obtain⟨hf,hlt,hxv,hpl⟩:=cJ hok.1 hk (h1.1 mm w) hg;have hlt:=hlt i rfl;have he:ents.toList[i]?=some (ents.toList[i]):=Io hlt;have he':ents[i]?=some (ents.toList[i]):=by rw[<-PN];exact he
   obtain⟨k',v',hk',hv',⟨_,hkv⟩,_,hrv⟩:=(h1.1 mm w).get i _ he;rw[hki] at hk';cases hk';have hvv:vs[i]?=some v:=by simpa using hl
   rw[hvv] at hv';cases hv';have hkey:(ents.toList[i]).key=a.eval k:=by rw[hxv] at hkv;exact(QE hkv).symm
   refine fin ents clock (ents.toList[i]).val (ents.toList[i]).born (by rw[rE hvv];exact h1) (fun m=>?_) ⟨_,he',rfl⟩ ?_
   . obtain⟨x,hx⟩:=hvd.2;rw[hrv.val_is hx];exact dz hx
   . simp only[Qd,he,QV] at hf;have hst:(Instr.keyThatStays (ents.toList[i]).key (a.eval k)).run E.P w= .ok (a.eval k) w:=by rw[hkey];exact nv hpl hxv
     have hmod:(ents.modify i fun e=>{e with key:=a.eval k})=ents:=rD he' (by rw[<-hkey]);simp only[Instr.mapEntry,Sem.run_bind,av hu,Result.andThen_ok,MapKept.run_getObj_map hh,hck,hf,hst,MapKept.run_setObj_map _ hh,hmod,Sem.run_pure,he',Qd,QV]
 . rename_i hg;rw[hg] at hl fin;cases hp;obtain⟨hf,_,hxv,hpl⟩:=cJ hok.1 hk (h1.1 mm w) hg;obtain⟨z,hz,e⟩:=PK.1 hl;simp only[P7,Qr] at e;subst e;obtain⟨zv,hzr,hzd⟩:=e6 (w:=w) (m:=mm) hz;have hzd':∀m,Rd m w zv z:=fun m=>by obtain⟨x,hx⟩:=hvd.2;rw[hzd.val_is hx];exact dz hx
   refine fin (ents.push {key:=a.eval k,val:=zv,born:=clock}) (clock+1) zv clock ⟨fun m w'=>?_,fun u hu=>?_,fun e hm'=>?_,?_⟩ hzd' ⟨_,by rw[show ks.length=ents.size from by rw[<-hlen.1,PR],Array.getElem?_push_size],rfl⟩ ?_
   . rw[RM];exact(h1.1 m w').snoc ⟨hpl,hxv⟩ ⟨hvd.1,by obtain⟨x,hx⟩:=hvd.2;rw[hzd.val_is hx];exact dz hx⟩
   . rcases PU.1 hu with hu|hu
     . exact h1.2.1 u hu
     . rw[PQ.1 hu];exact hvd
   . rw[RM,PU] at hm';rcases hm' with hm'|hm'
     . have:=h1.2.2.1 e hm';omega
     . simp at hm';subst hm';exact Nat.lt_succ_self _
   . rw[RM,Qj];refine QJ.2 ⟨h1.2.2.2,by simp,fun a ha b hb e=>?_⟩;simp at hb;obtain⟨e',he',rfl⟩:=Qi.1 ha;have:=h1.2.2.1 e' he';omega
   . simp only[QR] at hf;simp only[Instr.mapEntry,Sem.run_bind,av hu,Result.andThen_ok,MapKept.run_getObj_map hh,hck,hf,hzr,MapKept.run_setObj_map _ hh,Sem.run_pure]
 . cases hp
theorem Fo (hE:EnvOK E):iM E Cd:=by
 refine⟨fun o ρ H c e=>by unfold Cd;rw[e],fun n B s a w o R K Q T h hT hd hr hK=>?_⟩;unfold Cd at hT;split at hT
 case h_2=>cases hT
 rename_i t m sx x ho hdst;split at hT
 case h_2=>cases hT
 rename_i g kk st hm hst;cases hT;obtain⟨ks,vs,i,⟨ents,clock,h0,h1⟩,⟨e2,c2,e,h0',he,rfl⟩,⟨hxd,y,hy⟩,hR⟩:=hr;rw[h0] at h0';cases h0';have hm':=h.ev m hm;have hst':=h.ev sx hst;have hh:=h.at h0;obtain⟨D,mm,O,⟨⟨b,β,hrel⟩,hlt⟩,h2,h3⟩:=id h;have hx:Rd mm w (a.eval x) (ev E s.st x).bare:=(aA hrel x).bare.rd (by revert hxd;generalize (ev E s.st x).bare=u;intro hkd;cases u<;>first|rfl|cases hkd);have hil:=(Rq.1 he).1;have hei:=(Rq.1 he).2;have hfi:ents.findIdx? (fun e'=>(e'.born:Int)==(e.born:Int))=some i:=by
  rw[Array.findIdx?_eq_some_iff_getElem];refine⟨hil,by simp[hei],fun j hj hb=>?_⟩;have hb':ents[j].born=ents[i].born:=by rw[hei];have h3:=eq_of_beq hb;omega
  have:=(List.getElem_inj (xs:=ents.toList.map (·.born)) (i:=j) (j:=i) (h₀:=by simp;omega) (h₁:=by simpa using hil) h1.2.2.2).1 (by simpa using hb');omega
 have hyv:=hx.val_is hy;have e1:(ents.modify i fun e=>{e with val:=a.eval x}).toList=ents.toList.set i {e with val:=a.eval x}:=by
  apply QI;intro j;rw[PN,QY,RC];by_cases hj:i=j
  . subst hj;simp[he,hil,hei]
  . simp[hj]
 have hME:MapE (ents.modify i fun e=>{e with val:=a.eval x}) clock ks (vs.set i (ev E s.st x).bare):=by
  refine⟨fun m w'=>?_,fun u hu=>?_,fun e' hm'=>?_,?_⟩
  . rw[e1];exact(h1.1 m w').set i ⟨e,by rw[PN];exact he,rfl⟩ ⟨hxd,by rw[hyv];exact dz hy⟩
  . rcases RK hu with hu|rfl
    . exact h1.2.1 u hu
    . exact⟨hxd,y,hy⟩
  . rw[e1] at hm';rcases RK hm' with hm'|rfl
    . exact h1.2.2.1 e' hm'
    . exact h1.2.2.1 e (by rw[R3];exact Array.mem_of_getElem? he)
  . have e3:(ents.modify i fun e=>{e with val:=a.eval x}).toList.map (·.born)=ents.toList.map (·.born):=by
     rw[e1];apply QI;intro j;rw[PF,PF,RC];split
     . rename_i hj;subst hj;rw[PN,he];simp[hil]
     . rfl
    rw[e3];exact h1.2.2.2
 have hX:=h.wroteM hE (ob:= .map (ents.modify i fun e=>{e with val:=a.eval x}) clock) h0;have hrun2:(execOp a.eval o).run E.P w= .ok .skip {w with heap:=w.heap.setIfInBounds g (.map (ents.modify i fun e=>{e with val:=a.eval x}) clock)}:=by simp only[execOp,ho,hm',hst',Sem.run_bind,Instr.entryStore,MapKept.run_getObj_map hh,Result.andThen_ok,asInt,asIntOf,Sem.run_pure,hfi,MapKept.run_setObj_map _ hh]
 unfold Oper.wp;rw[hrun2];show K (a.put o.dst undef) _;have:=hK a _ .undef _ (hR _ ⟨_,clock,aa _ _ _,hME⟩) (by rw[hdst];exact hX);rw[hdst];exact this
end
attribute [go_sem] Iw me Ca Cb Cc Cd mf rC Ky
def rF (P:Program) (o:Oper) (ρ:Operand->V) (H:HH):Option Tr:=
 match o.op with
 | .call {callee:= .builtin .delete,args,argTypes}=>match args.toList,argTypes.toList with
   | [m,k],t::_=>match ρ m with
     | .x (.map none)=>some fun T=>((ρ k).dat=true∧uG P t [] [] (ρ k)=some ([],[]))∧T (.x (.tuple #[])) H
     |_=>none
   |_,_=>none
 |_=>none
def uH (H:HH) (r:Nat) (T:V->HH->Prop):Prop:=∃g ks vs vis i k v,MapH H g ks vs∧IterH H r g (vis++[i])∧ks[i]?=some k∧vs[i]?=some v∧T (.tup [k,v]) H
def iN (o:Oper) (ρ:Operand->V) (H:HH):Option Tr:=
 match o.op with
 | .entry it=>match ρ it with
   | .x (.pointer (some ⟨r,0,none⟩))=>some fun T=>uH H r T
   |_=>none
 |_=>none
def Gm (H:HH) (r:Nat):Prop:=∃a s b,H r=some (.mapIter none a s b)
def ItO (H:HH) (r:Nat):Option Nat->List Nat->Prop
 |some g,vis=>IterH H r g vis
 |none,vis=>Gm H r∧vis=[]
def fU (D:Nat->Bool) (P:Program) (o:Oper) (ρ:Operand->V) (H:HH):Option Tr:=
 match o.op with
 | .range t x=>match (o.dst.map D).getD false,ρ x with
   |true,.x (.map g)=>some fun T=>(∃kt et,P.underlying t=some (.map kt et))∧(∀g',g=some g'->∃ks vs,MapH H g' ks vs)∧∀r ob,H r=none->ItO (aw H r (some ob)) r g []->T (.x (.pointer (some ⟨r,0,none⟩))) (aw H r (some ob))
   |_,_=>none
 |_=>none
def Ci (H:HH) (r:Nat) (T:V->HH->Prop):Prop:=Ce H r T∨(Gm H r∧T (.tup [.x (.bool false)]) H)
def iP (D:Nat->Bool) (o:Oper) (ρ:Operand->V) (H:HH):Option Tr:=
 match o.op with
 | .next it false=>match (o.dst.map D).getD false,ρ it with
   |true,.x (.pointer (some ⟨r,0,none⟩))=>some fun T=>Ci H r T
   |_,_=>none
 |_=>none
def HP:V->V->Option Bool
 | .x (.pointer (some _)),.x (.pointer none)=>some false
 | .x (.map g),.x (.map none)=>some g.isNone
 |_,_=>none
def rG (P:Program) (t:TypeId):V->Bool
 | .x (.pointer _)=>match P.underlying t with
   |some (.pointer _)=>true
   |_=>false
 | .x (.map _)=>match P.underlying t with
   |some (.map _ _)=>true
   |_=>false
 |_=>false
def rH (P:Program) (o:Oper) (ρ:Operand->V) (H:HH):Option Tr:=
 match o.op with
 | .binOp .eql t x y _=>match HP (ρ x) (ρ y) with
   |some b=>some fun T=>rG P t (ρ y)=true∧T (.x (.bool b)) H
   |none=>none
 |_=>none
def mj (o:Oper) (ρ:Operand->V) (H:HH):Option Tr:=
 match o.op with
 | .makeFunc fn ⟨[]⟩ ⟨[b]⟩=>match ρ b with
   | .x v=>some fun T=>T (.x (.func fn #[] #[v])) H
   |_=>none
 |_=>none
def ml (F:FuncId->Option (List V->HH->Tr)) (o:Oper) (ρ:Operand->V) (H:HH):Option Tr:=
 match o.op with
 | .call {callee:= .value c,args,argTypes:=_}=>match ρ c with
   | .x (.func (.func f) ⟨[]⟩ ⟨[v]⟩)=>match F f with
     |some C=>some fun T=>((args.toList.map fun x=>(ρ x).bare).all V.dat=true∧(V.x v).dat=true)∧C ((args.toList.map fun x=>(ρ x).bare)++[.x v]) H T
     |none=>none
   |_=>none
 |_=>none
variable {P:Program} {ty:TypeId}
theorem ni {w:World} {c1 c3:Nat} {c2:Array Nat} (h:w.heap[r]?=some (.mapIter none c1 c2 c3)):(Instr.next (.pointer (some ⟨r,0,none⟩)) false ty).run P w= .ok (.tuple #[.bool false]) w:=by simp only[Instr.next,getObj,Sem.run_bind,Go.Sem.run,h,Result.andThen];rfl
section
variable {E:Env} {n:Nat} {B:Xb} {s:XS} {a:Act} {w w':World} {o:Oper} {R:V->HH->Prop} {K:Act->World->Prop} {Q:Exit->Act->World->Prop}
theorem Cj:iM E (rF E.P):=by
 refine⟨fun o ρ H c e=>by unfold rF;rw[e],fun n B s a w o R K Q T h hT hd hr hK=>?_⟩;unfold rF at hT;split at hT
 case h_2=>cases hT
 rename_i args ts ho;split at hT
 case h_2=>cases hT
 rename_i m k t tr hargs hts;split at hT
 case h_2=>cases hT
 rename_i hm;cases hT;obtain⟨⟨hkd,hp⟩,hR⟩:=hr;have ha:args= #[m,k]:=Qe.1 hargs;subst ha;have hm':=h.ev m hm;obtain⟨mm,hmm,hk⟩:=h.rdd k rfl hkd;unfold uG at hp;split at hp
 case h_2=>cases hp
 rename_i kt et hu;split at hp
 case isFalse=>cases hp
 rename_i hok;have hck:(Instr.checkKey true 10000 kt (a.eval k)).run E.P w= .ok () w:=by simp only[dF,PG] at hok;exact dv _ 20 kt _ _ hok.2 hk 10000 (by omega)
 have h00:ts[0]?=some t:=by rw[<-PN,hts];rfl
 refine ik h hd hK (v:= .tuple #[]) (u:= .x (.tuple #[])) ?_ (fun m=> .x _) hR;simp only[execOp,ho,resolve,Sem.run_bind,Sem.run_pure,Result.andThen_ok,invoke,builtin];rw[show Array.map a.eval #[m,k]= #[Value.map none,a.eval k] from by simp[hm']];simp only[Builtin.delete_,h00,Sem.run_bind,Sem.run_pure,Result.andThen_ok,av hu,hck,show(#[Value.map none,a.eval k]:Array Value)[0]?=some (Value.map none) from rfl,show(#[Value.map none,a.eval k]:Array Value)[1]?=some (a.eval k) from rfl]
theorem j8:iM E iN:=by
 refine⟨fun o ρ H c e=>by unfold iN;rw[e],fun n B s a w o R K Q T h hT hd hr hK=>?_⟩;unfold iN at hT;split at hT
 case h_2=>cases hT
 rename_i it ho;split at hT
 case h_2=>cases hT
 rename_i r hx;cases hT;obtain⟨g,ks,vs,vis,i,k,v,⟨ents,clock,h0,h1⟩,⟨e2,c2,i0,i1,i2,i3,i4⟩,hk,hv,hR⟩:=hr;rw[h0] at i0;cases i0;have hx':=h.ev it hx;have hil:i<ents.size:=i3 i (by simp);have hseen:((vis++[i]).map fun i=>((ents[i]?).map (·.born)).getD 0).toArray=((vis.map fun i=>((ents[i]?).map (·.born)).getD 0).toArray.push ents[i].born):=by simp[hil]
 rw[hseen] at i1;have hrun:=run_entry_at (P:=E.P) w r g clock _ ents clock ents[i] (h.at i1) (h.at h0) (by simp) h1.2.2.2;obtain⟨xv,hxv⟩:=(h1.2.1 v (PM hv)).2;refine ik h hd hK (v:= .tuple #[ents[i].key,ents[i].val]) (u:= .tup [k,v]) (by simp only[execOp,ho,hx',Sem.run_bind,hrun,Result.andThen_ok,Sem.run_pure]) (fun m=>?_) hR;obtain⟨k2,v2,hk2,hv2,⟨_,hkv⟩,_,hrv⟩:=(h1.1 m w).get i ents[i] (by simp[hil]);rw[hk] at hk2;cases hk2;rw[hv] at hv2;cases hv2;refine Rd.tup_iff.2 ⟨_,rfl,dz hkv,?_,trivial⟩;rw[hrv.val_is hxv];exact dz hxv
theorem iQ (hE:EnvOK E) (D:Nat->Bool):iM E (fU D E.P):=by
 refine⟨fun o ρ H c e=>by unfold fU;rw[e],fun n B s a w o R K Q T h hT hd hr hK=>?_⟩;unfold fU at hT;split at hT
 case h_2=>cases hT
 rename_i t x ho;split at hT
 case h_2=>cases hT
 rename_i g hdst hx;cases hT;obtain⟨⟨kt,et,hu⟩,hm,hR⟩:=hr;cases g with
 |some g=>exact(yF hE D).2 n B s a w o R K Q (fun T=>(∃kt et,E.P.underlying t=some (.map kt et))∧(∃ks vs,MapH s.H g ks vs)∧∀r ob,s.H r=none->IterH (aw s.H r (some ob)) r g []->T (.x (.pointer (some ⟨r,0,none⟩))) (aw s.H r (some ob))) h (by unfold mf;rw[ho];simp only[hdst,hx]) hd ⟨⟨kt,et,hu⟩,hm g rfl,hR⟩ hK
 |none=>have hx':=h.ev x hx;refine yA hE h hd hK (ob:= .mapIter none 0 #[] 0) ?_ (hR _ _ h.new ⟨⟨0,#[],0,by rw[aa]⟩,rfl⟩);simp only[execOp,ho,hx',Sem.run_bind,Go.run_range_nilMap (P:=E.P) w t kt et hu,Result.andThen_ok,Sem.run_pure]
theorem j9 (hE:EnvOK E) (D:Nat->Bool):iM E (iP D):=by
 refine⟨fun o ρ H c e=>by unfold iP;rw[e],fun n B s a w o R K Q T h hT hd hr hK=>?_⟩;unfold iP at hT;split at hT
 case h_2=>cases hT
 rename_i it ho;split at hT
 case h_2=>cases hT
 rename_i r hdst hx;cases hT;rcases hr with hr|⟨⟨c1,c2,c3,hi⟩,hr⟩
 . exact(Cg hE D).2 n B s a w o R K Q (fun T=>Ce s.H r T) h (by unfold rC;rw[ho];simp only[hdst,hx]) hd hr hK
 . have hx':=h.ev it hx;have hi':=h.at hi;refine ik h hd hK (v:= .tuple #[.bool false]) (u:= .tup [.x (.bool false)]) ?_ (fun m=>Rd.tup_iff.2 ⟨_,rfl,.x _,trivial⟩) hr;simp only[execOp,ho,hx',Sem.run_bind,ni hi',Result.andThen_ok,Sem.run_pure]
theorem k6:iM E (rH E.P):=by
 refine⟨fun o ρ H c e=>by unfold rH;rw[e],fun n B s a w o R K Q T h hT hd hr hK=>?_⟩;unfold rH at hT;split at hT
 case h_2=>cases hT
 rename_i t x y t2 ho;split at hT
 case h_2=>cases hT
 rename_i b hb;cases hT;obtain⟨hn,hR⟩:=hr;unfold HP at hb;split at hb
 . rename_i ad hx hy;cases hb;have hx':=h.ev x hx;have hy':=h.ev y hy;rw[hy] at hn;unfold rG at hn;simp only at hn;split at hn
   case h_2=>cases hn
   rename_i e ht;refine ik h hd hK (v:= .bool false) (u:= .x (.bool false)) ?_ (fun m=> .x _) hR;obtain⟨v,hrun,hv⟩:=ow (P:=E.P) (m:=fun _=>none) (w:=w) (op:= .eql) (t:=t) (xo:=x) (yo:=y) (u:= .x (.bool false)) (ad:=ad) rfl (by rw[ht]);cases hv;simp only[execOp,ho,hx',hy'];rw[Sem.run_bind,hrun];rfl
 . rename_i g hx hy;cases hb;have hx':=h.ev x hx;have hy':=h.ev y hy;rw[hy] at hn;unfold rG at hn;simp only at hn;split at hn
   case h_2=>cases hn
   rename_i kt et ht;refine ik h hd hK (v:= .bool g.isNone) (u:= .x (.bool g.isNone)) ?_ (fun m=> .x _) hR;have hrun:=Go.run_eql_map_nil (P:=E.P) w t kt et g ht;have hg:(eqGuard .eql t x y (.map g) (.map none)).run E.P w= .ok () w:=by simp[eqGuard]
   simp only[execOp,ho,hx',hy',Sem.run_bind,hg,hrun,Result.andThen_ok,Sem.run_pure]
 . cases hb
theorem mn:iM E mj:=by
 refine⟨fun o ρ H c e=>by unfold mj;rw[e],fun n B s a w o R K Q T h hT hd hr hK=>?_⟩;unfold mj at hT;split at hT
 case h_2=>cases hT
 rename_i fn b ho;split at hT
 case h_2=>cases hT
 rename_i v hx;cases hT;have hx':=h.ev b hx;refine ik h hd hK (v:= .func fn #[] #[v]) (u:= .x (.func fn #[] #[v])) ?_ (fun m=> .x _) hr;simp[execOp,ho,hx',Instr.makeFunc]
theorem yG (hE:EnvOK E) {F:FuncId->Option (List V->HH->Tr)} (hF:∀f C,F f=some C->cV E f C):iM E (ml F):=by
 refine⟨fun o ρ H c e=>by unfold ml;rw[e],fun n B s a w o R K Q T h hT hd hr hK=>?_⟩;unfold ml at hT;split at hT
 case h_2=>cases hT
 rename_i c args ts ho;split at hT
 case h_2=>cases hT
 rename_i f v hf;split at hT
 case h_2=>cases hT
 rename_i C hC;cases hT;obtain⟨⟨hdat,hvd⟩,hr⟩:=hr;obtain⟨hcall,hfun⟩:=hF f C hC;have hc:a.eval c= .func (.func f) #[] #[v]:=h.ev c hf;have hrun:(execOp a.eval o).run E.P w= .ok (.enter f (args.map a.eval++ #[v])) w:=by simp only[execOp,ho,resolve,Sem.run_bind,hc,Deferred.ofValue,Sem.run_pure,Result.andThen_ok,invoke];rw[hcall];simp
 obtain⟨D,m,O,q1,q2,q4,q5,q6⟩:=h;obtain⟨⟨b,β,hrel⟩,hlt⟩:=q1;unfold Oper.wp;rw[hrun];have q1:Now E n D O m s.st a w:=⟨⟨b,β,hrel⟩,hlt⟩;have hda:((args.toList.map fun x=>(ev E s.st x).bare)++[V.x v]).all V.dat=true:=by simp only[List.all_append,hdat,Rf,List.all_nil,Ru,Rn];exact hvd
 have hra:RdL m w (args.map a.eval++ #[v]).toList ((args.toList.map fun x=>(ev E s.st x).bare)++[V.x v]):=by rw[Sa];exact RdL.append (by simpa using gV hrel args.toList hdat) ⟨.x _,trivial⟩
 refine(hfun m w _ _ s.H R hr hda hra (fun g ob hg=>⟨(q2 g ob hg).2.1,(q2 g ob hg).2.2.1,(q2 g ob hg).2.2.2.2⟩) q1.J hrel.glob).mono ?_;rintro e w' ⟨v,m',u,H',rfl,hv,hR,hs,hH⟩;obtain⟨_,O',k1,k2,k3,k4,k5⟩:=HoldX.stepped hE q1 q2 q4 q5 q6 hs hH;refine hK (a.put o.dst v) w' u H' hR ?_;cases hdst:o.dst with
 |none=>exact⟨D,m',O',k1,k2,k3,k4,k5⟩
 |some d=>exact⟨D,m',O',k1.put (hd d hdst) hv,k2,k3,k4,k5⟩
end
variable {n:Nat}
theorem fH {i:Nat} (hi:i<n) (hv:i∉vis):((List.range n).filter fun j=>decide (j∉vis++[i])).length<((List.range n).filter fun j=>decide (j∉vis)).length:=by
 have e:((List.range n).filter fun j=>decide (j∉vis++[i]))=((List.range n).filter fun j=>decide (j∉vis)).filter fun j=>decide (j≠i):=by
  rw[List.filter_filter];refine List.filter_congr fun j _=>?_
  simp only[PU,PQ,not_or,ne_eq,Bool.decide_and,Bool.and_comm]
 rw[e,List.length_filter_lt_length_iff_exists];exact⟨i,QB.2 ⟨Qg.2 hi,PD hv⟩,by simp⟩
theorem mo {r:V} {T:V->HH->Prop} (hk:∀y ob,H y=some ob->H' y=some ob) (hT:T r H):uA r H' T:=by
 refine⟨fun y=>(H y).isNone,r,fun m w v _ _ h=>h,?_⟩;have e:(fun g=>if (H g).isNone=true then none else H' g)=H:=by
  funext g;cases hg:H g with
  |none=>simp
  |some ob=>simp[hk g ob hg]
 rw[e];exact hT
theorem Ck (g:Option Nat):jV (.x (.map g))=some [.map g]:=rfl
attribute [go_sem] Ck
attribute [go_sem] rF iN fU iP HP rG rH mj ml
end Go.Proofs.Ytldnpcolhdnkdaa

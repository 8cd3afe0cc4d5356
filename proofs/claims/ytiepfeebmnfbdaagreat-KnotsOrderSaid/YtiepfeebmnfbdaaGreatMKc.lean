/- MKc -/
import Derived.Test.YtiepfeebmnfbdaaGreatMKb
namespace Go.Proofs.YtiepfeebmnfbdaaGreat
set_option linter.unusedSimpArgs false
set_option maxRecDepth 100000
open Go Go.RowKit
variable{W:List Int}{h:Int}
theorem EA{i:Int}{v:Int}(h0:0<=h)(hl:h.toNat<W.length)(i0:0<=i):atI (W.set i.toNat v) h=if h=i then v else atI W h:=by
 unfold atI;rw[adX];by_cases e:h=i
 . subst e;rw[adl rfl,adl hl,adl rfl];rfl
 . rw[adq A0b,adq e]
def kx(hs:List Int)(h:Int)(p:Int->Bool)(row:List Int):Nat:=row.countP fun r=>decide (atI hs r≠h)&&p (atI hs r)
theorem Mp(hs:List Int)(a:Int)(row:List Int):∀W:List Int,(row.foldl (w1 hs a) W).length=W.length:=by
 induction row with
 |nil=>intro W;rfl
 | cons r row ih=>
   intro W;rw[aeh,ih];unfold w1;split
   . rfl
   . rw[adV]
variable{hs:List Int}
theorem YV{a:Int}(ha:0<=a)(h0:0<=h)(row:List Int):∀W:List Int,h.toNat<W.length->atI (row.foldl (w1 hs a) W) h=atI W h+if a=h then (kx hs h (fun _=>true) row:Int) else 0:=by
 induction row with
 |nil=>intro W _;simp[kx]
 | cons r row ih=>
   intro W hl;rw[aeh,ih _ (by have:=Mp hs a [r] W;simp only[aeh,afm] at this;rw[this];exact hl)];unfold w1 kx;rw[afU];by_cases e:atI hs r=a
   . rw[adl e];by_cases e2:a=h
     . subst e2;simp[e]
     . simp[e2]
   . rw[adq e,EA h0 hl ha];by_cases e2:a=h
     . subst e2;simp[e];omega
     . rw[adq (fun k=>e2 k.symm)];simp[e2]
def wt(hs:List Int)(R:List (List Int))(n:Nat)(p:Int->Bool)(h:Int):Int:=((List.range n).map fun i:Nat=>if atI hs (i:Int)=h then (kx hs h p (rowZ R (i:Int)):Int) else 0).sum
theorem zA(l:List Int)(x:Int):(l++[x]).sum=l.sum+x:=A0k
variable{R:List (List Int)}
theorem ky(hh:∀x∈hs,0<=x∧x.toNat<hs.length){h:Int}(h0:0<=h)(hn:h.toNat<hs.length):∀k:Nat,k<=hs.length->(bq R hs k).length=hs.length∧atI (bq R hs k) h=wt hs R k (fun _=>true) h:=by
 intro k
 induction k with
 |zero=>intro _;exact⟨by simp[bq],by simp[bq,wt,atI,hn]⟩
 | succ k ih=>
   intro hk;obtain⟨a,b⟩:=ih A0b;have hak:0<=atI hs (k:Int):=by have hx:hs[k]?=some hs[k]:=io A0b;rw[fW hx];exact(hh _ (adR _)).1
   rw[oH];unfold PT;refine⟨by rw[Mp,a],?_⟩;rw[YV hak h0 _ _ (by rw[a];exact hn),b];unfold wt;rw[afs,adK,adL,afr,zA]
def d1(q:List Int×List Int)(y:Int):List Int×List Int:=(q.1.set y.toNat (atI q.1 y-1),if atI q.1 y-1=0 then q.2++[y] else q.2)
def zB(S:List (List Int))(hs ps:List Int):List Int:=ps.flatMap fun p=>((rowZ S p).map (atI hs)).filter fun y=>decide (y≠atI hs p)
theorem Qb(S:List (List Int))(hs:List Int)(p:Int)(q:List Int×List Int):Mh S hs q p=(((rowZ S p).map (atI hs)).filter fun y=>decide (y≠atI hs p)).foldl d1 q:=by
 unfold Mh;generalize rowZ S p=row
 induction row generalizing q with
 |nil=>rfl
 | cons r row ih=>
   rw[aeh,ih,Q5,adL];by_cases e:atI hs r=atI hs p
   . rw[adl e,List.filter_cons_of_neg (by simp[e])]
   . rw[adq e,agm (by simp[e]),aeh];rfl
theorem Mq(S:List (List Int))(hs W ps:List Int):cV S hs W ps=(zB S hs ps).foldl d1 (W,[]):=by
 unfold cV zB;generalize ((W,[]):List Int×List Int)=q
 induction ps generalizing q with
 |nil=>rfl
 |cons p ps ih=>rw[aeh,ih,Qb,aeg,aeT]
theorem EB :∀(ys W o:List Int),(∀y∈ys,0<=y∧y.toNat<W.length)->(∀y∈ys,(ys.count y:Int)<=atI W y)->
 (ys.foldl d1 (W,o)).1.length=W.length∧(∀h:Int,0<=h->h.toNat<W.length->atI (ys.foldl d1 (W,o)).1 h=atI W h-ys.count h)∧∃o2,(ys.foldl d1 (W,o)).2=o++o2∧o2.Nodup∧∀z,z∈o2↔z∈ys∧atI W z=ys.count z
 |[],W,o,_,_=>⟨rfl,fun h _ _=>by simp,[],A0k,ad3,fun z=>by simp⟩
 | y :: t, W,o,hr,hc=>by
   obtain⟨y0,yl⟩:=hr y (adP ..);have hat:∀h:Int,0<=h->h.toNat<W.length->atI (W.set y.toNat (atI W y-1)) h=if h=y then atI W y-1 else atI W h:=fun h h0 hl=>EA h0 hl y0
   have hcy:=hc y (adP ..);rw[List.count_cons_self] at hcy;rw[aeh];obtain⟨a1,a2,o2,a3,a4,a5⟩:=EB t (W.set y.toNat (atI W y-1)) (if atI W y-1=0 then o++[y] else o) (fun z hz=>by rw[adV];exact hr z (adE _ hz)) (fun z hz=>by
    obtain⟨z0,zl⟩:=hr z (adE _ hz);have:=hc z (adE _ hz);rw[hat z z0 zl];rw[List.count_cons] at this;by_cases e:z=y
    . subst e;rw[adl rfl];omega
    . rw[adq e];simp[aeM e] at this;exact this)
   rw[adV] at a1 a2;refine⟨a1,fun h h0 hl=>?_,?_⟩
   . refine(a2 h h0 hl).trans ?_;rw[hat h h0 hl,List.count_cons];by_cases e:h=y
     . subst e;rw[adl rfl];simp;omega
     . rw[adq e];simp[aeM e]
   have hmem:∀z,z∈t->(atI (W.set y.toNat (atI W y-1)) z=t.count z↔atI W z=(y::t).count z):=fun z hz=>by
    obtain⟨z0,zl⟩:=hr z (adE _ hz);rw[hat z z0 zl,List.count_cons];by_cases e:z=y
    . subst e;rw[adl rfl];simp;omega
    . rw[adq e];simp[aeM e]
   by_cases hz:atI W y-1=0
   . have ht:y∉t:=fun h=>by have:=agn.2 h;omega
     refine⟨y::o2,?_,adY.2 ⟨fun h=>ht ((a5 y).1 h).1,a4⟩,fun z=>?_⟩
     . show(t.foldl d1 (W.set y.toNat (atI W y-1),if atI W y-1=0 then o++[y] else o)).2=_;rw[a3,adl hz,aef];rfl
     . rw [adA,adA,a5];by_cases e:z=y
       . subst e;have:t.count z=0:=List.count_eq_zero.2 ht;simp[this];omega
       . constructor
         . rintro(h|⟨h1,h2⟩)
           . exact absurd h e
           . exact⟨.inr h1,(hmem z h1).1 h2⟩
         . rintro⟨h|h1,h2⟩
           . exact absurd h e
           . exact .inr ⟨h1,(hmem z h1).2 h2⟩
   . refine⟨o2,?_,a4,fun z=>?_⟩
     . show(t.foldl d1 (W.set y.toNat (atI W y-1),if atI W y-1=0 then o++[y] else o)).2=_;rw[a3,adq hz]
     . rw [adA,a5];constructor
       . rintro⟨h1,h2⟩;exact⟨.inr h1,(hmem z h1).1 h2⟩
       . rintro⟨h1,h2⟩;have ht:z∈t:=by
          rcases h1 with rfl|h1
          . rw[List.count_cons_self] at h2;exact agn.1 A0b
          . exact h1
         exact⟨ht,(hmem z ht).2 h2⟩
def ey(n:Nat)(f:Nat->Nat):Nat:=((List.range n).map f).sum
theorem tw(f:Nat->Nat):ey 0 f=0:=rfl
theorem cA(n:Nat)(f:Nat->Nat):ey (n+1) f=ey n f+f n:=by unfold ey;rw[afs,adK,List.sum_append];simp
theorem qZ(n:Nat)(f g:Nat->Nat):ey n (fun i=>f i+g i)=ey n f+ey n g:=by
 induction n with
 |zero=>rfl
 |succ n ih=>rw[cA,cA,cA,ih];omega
variable{n:Nat}{f:Nat->Nat}
theorem eo{g:Nat->Nat}(h:∀i,i<n->f i=g i):ey n f=ey n g:=by
 induction n with
 |zero=>rfl
 |succ n ih=>rw[cA,cA,ih (fun i hi=>h i A0b),h n A0b]
theorem kT(n:Nat):ey n (fun _=>0)=0:=by
 induction n with
 |zero=>rfl
 |succ n ih=>rw[cA,ih]
theorem Hz(n m:Nat)(f:Nat->Nat->Nat):ey n (fun a=>ey m (f a))=ey m (fun b=>ey n (fun a=>f a b)):=by
 induction n with
 |zero=>simp only[tw];exact(kT m).symm
 |succ n ih=>simp only[cA];rw[ih,qZ]
theorem EC(n:Nat)(c:Prop)[Decidable c](f:Nat->Nat):(if c then ey n f else 0)=ey n (fun i=>if c then f i else 0):=by
 split
 . rfl
 . exact(kT n).symm
theorem zD{k:Nat}(c:Nat)(h:k<n):ey n (fun i=>if i=k then c else 0)=c:=by
 induction n with
 |zero=>omega
 | succ n ih=>
   rw[cA];by_cases e:k=n
   . subst e;rw[adl rfl,eo (g:=fun _=>0) (fun i hi=>adq A0b),kT];omega
   . rw[ih A0b,adq A0b,aeq]
theorem tx{n:Nat}{f:Int->Bool}:∀{row:List Int},row.Nodup->(∀r∈row,0<=r∧r.toNat<n)->row.countP f=ey n fun i=>if f (i:Int)=true∧(i:Int)∈row then 1 else 0
 |[],_,_=>by simp[kT]
 | r ::t,hn,hr=>by
   obtain⟨h1,h2⟩:=adY.1 hn;obtain⟨r0,rn⟩:=hr r (adP ..);rw[afU,tx h2 (fun x hx=>hr x (adE _ hx))];have e:(if f r=true then 1 else 0)=ey n fun i=>if i=r.toNat then (if f r=true then 1 else 0) else 0:=(zD _ rn).symm
   rw[e,<-qZ];refine eo fun i hi=>?_
   by_cases ei:i=r.toNat
   . have:(i:Int)=r:=A0b
     rw[this,adl ei];simp[h1]
   . have hne:(i:Int)≠r:=A0b
     rw[adq ei];simp[hne]
variable{S:List (List Int)}
theorem HA(hR:bU n R)(hS:bU n S)(hrev:zx n R S)(hRn:∀l∈R,l.Nodup)(hSn:∀l∈S,l.Nodup)(hs:List Int)(g h:Int):
 ey n (fun q=>if atI hs (q:Int)=g then (rowZ S (q:Int)).countP (fun r=>decide (atI hs r=h)) else 0)=ey n (fun i=>if atI hs (i:Int)=h then (rowZ R (i:Int)).countP (fun r=>decide (atI hs r=g)) else 0):=by
 have hrow:∀(A:List (List Int)),bU n A->(∀l∈A,l.Nodup)->∀(f:Int->Bool) (q:Nat),(rowZ A (q:Int)).countP f=ey n fun i=>if f (i:Int)=true∧(i:Int)∈rowZ A (q:Int) then 1 else 0:=fun A hA hn f q=>by
  refine tx ?_ (fun r hr=>mf hA hr);unfold rowZ;cases e:A[(q:Int).toNat]? with
  |none=>exact ad3
  |some l=>exact hn l (adg e)
 have h1:∀q:Nat,(if atI hs (q:Int)=g then (rowZ S (q:Int)).countP (fun r=>decide (atI hs r=h)) else 0)=ey n fun i=>if atI hs (q:Int)=g∧atI hs (i:Int)=h∧(i:Int)∈rowZ S (q:Int) then 1 else 0:=fun q=>by
  rw[hrow S hS hSn,EC];refine eo fun i _=>?_
  by_cases e:atI hs (q:Int)=g<;>simp[e]
 have h2:∀i:Nat,(if atI hs (i:Int)=h then (rowZ R (i:Int)).countP (fun r=>decide (atI hs r=g)) else 0)=ey n fun q=>if atI hs (i:Int)=h∧atI hs (q:Int)=g∧(q:Int)∈rowZ R (i:Int) then 1 else 0:=fun i=>by
  rw[hrow R hR hRn,EC];refine eo fun q _=>?_
  by_cases e:atI hs (i:Int)=h<;>simp[e]
 simp only[h1,h2];rw[Hz];refine eo fun i hi=>eo fun q hq=>?_
 have:=hrev (i:Int) (q:Int) A0b A0b A0b A0b;have e:((i:Int)∈rowZ S (q:Int))↔((q:Int)∈rowZ R (i:Int)):=this;by_cases a:atI hs (q:Int)=g<;>by_cases b:atI hs (i:Int)=h<;>simp[a,b,e]
theorem u9(hs:List Int)(R:List (List Int))(n:Nat)(p:Int->Bool)(h:Int):wt hs R n p h=(ey n (fun i=>if atI hs (i:Int)=h then kx hs h p (rowZ R (i:Int)) else 0):Nat):=by
 induction n with
 |zero=>rfl
 |succ n ih=>unfold wt at ih⊢;rw[afs,adK,adL,afr,zA,ih,cA];split<;>simp
variable{g:Int}{p:Int->Bool}
theorem HB(hg:p g=true)(hne:g≠h)(row:List Int):kx hs h p row=kx hs h (fun y=>p y&&decide (y≠g)) row+row.countP (fun r=>decide (atI hs r=g)):=by
 induction row with
 |nil=>rfl
 | cons r t ih=>
   unfold kx at ih⊢;rw[afU,afU,afU,ih];by_cases e:atI hs r=g
   . simp[e,hg,hne];omega
   . simp[e];omega
theorem Qc(hg:p g=true)(hne:g≠h):wt hs R n p h=wt hs R n (fun y=>p y&&decide (y≠g)) h+(ey n (fun i=>if atI hs (i:Int)=h then (rowZ R (i:Int)).countP (fun r=>decide (atI hs r=g)) else 0):Nat):=by
 rw[u9,u9,<-Int.natCast_add,<-qZ];congr 1;refine eo fun i _=>?_
 split
 . exact HB hg hne _
 . rfl
def bL(hs:List Int)(n:Nat)(g:Int):List Int:=((List.range n).filter fun(i:Nat)=>decide (atI hs (i:Int)=g)).map fun(i:Nat)=>(i:Int)
theorem tz(hs:List Int)(n:Nat)(g:Int):bL hs (n+1) g=bL hs n g++if atI hs (n:Int)=g then [(n:Int)] else []:=by unfold bL;rw[afs,afW,adK];by_cases e:atI hs (n:Int)=g<;>simp[e]
theorem CM(hne:g≠h)(n:Nat):(zB S hs (bL hs n g)).count h=ey n (fun q=>if atI hs (q:Int)=g then (rowZ S (q:Int)).countP (fun r=>decide (atI hs r=h)) else 0):=by
 induction n with
 |zero=>rfl
 | succ n ih=>
   rw[tz,cA,<-ih];unfold zB;rw[List.flatMap_append,List.count_append];congr 1;by_cases e:atI hs (n:Int)=g
   . rw [adl e,adl e,aeg,afT,aep,e];generalize rowZ S (n:Int)=row
     induction row with
     |nil=>rfl
     | cons r t ih=>
       rw[adL,afU,<-ih];by_cases e2:atI hs r=h
       . rw[agm (by simp[e2,aeM hne]),e2,List.count_cons_self];simp
       . by_cases e3:atI hs r=g
         . rw[List.filter_cons_of_neg (by simp[e3])];simp[e2]
         . rw[agm (by simp[e3]),List.count_cons_of_ne e2];simp[e2]
   . rw[adq e,adq e];rfl
theorem Mr(n:Nat):g∉zB S hs (bL hs n g):=fun h=>by unfold zB bL at h;simp only[List.mem_flatMap,ads,adZ,adU,adS] at h;obtain⟨p,⟨i,⟨_,hi⟩,rfl⟩,⟨r,_,hr⟩,hne⟩:=h;exact hne (hi.symm)
theorem Qd(hh:∀x∈hs,0<=x∧x.toNat<hs.length)(g0:0<=g)(gn:g.toNat<hs.length):∀k:Nat,k<=hs.length->(fe hs k)[g.toNat]?=some (bL hs k g):=by
 intro k
 induction k with
 |zero=>intro _;simp[fe,bL,gn]
 | succ k ih=>
   intro hk;have hx:hs[k]?=some hs[k]:=io A0b;obtain⟨a0,an⟩:=hh _ (adR (show k<hs.length by omega));rw[kS,tz];unfold m1;rw[fW hx,adX];by_cases e:hs[k]=g
   . rw[adl A08,adl (by rw[gX];exact an),adl e];unfold rowZ;rw[e,ih A0b];rfl
   . rw[adq A0b,adq e,ih A0b,aep]
def untold(ts:List Int)(y:Int):Bool:=decide (y∉ts)
theorem oK(ts:List Int)(g:Int):untold (ts++[g])=fun y=>untold ts y&&decide (y≠g):=by funext y;unfold untold;by_cases a:y∈ts<;>by_cases b:y=g<;>simp[a,b]
def OrdOK(hs:List Int)(R:List (List Int))(n:Nat)(ts:List Int):Prop:=
 ∀i g,ts[i]?=some g->g∈hs∧g∉ts.take i∧wt hs R n (untold (ts.take i)) g=0∧∀h∈hs,h∉ts.take i->wt hs R n (untold (ts.take i)) h=0->g<=h
def Y9(W:List Int):Prop:=∀x∈W,0<=x∧x<=100000000000
structure KInv (hs:List Int) (R:List (List Int)) (n:Nat) (ts W es:List Int):Prop where
 len:W.length=n
 w:∀h:Int,0<=h->h.toNat<n->h∉ts->atI W h=wt hs R n (untold ts) h
 z:∀h∈ts,wt hs R n (untold ts) h=0
 nd:es.Nodup
 es:∀h,h∈es↔h∈hs∧h∉ts∧wt hs R n (untold ts) h=0
 ord:OrdOK hs R n ts
theorem YW(hs:List Int)(R:List (List Int))(n:Nat)(p:Int->Bool)(h:Int):0<=wt hs R n p h:=by rw[u9];omega
theorem Qe{g:Nat->Nat}(h:∀i,i<n->f i<=g i):ey n f<=ey n g:=by
 induction n with
 |zero=>exact adp _
 |succ n ih=>rw[cA,cA];have:=ih (fun i hi=>h i A0b);have:=h n A0b;omega
theorem Qf{q:Int->Bool}(hpq:∀y,q y=true->p y=true)(h:Int):wt hs R n q h<=wt hs R n p h:=by
 rw[u9,u9];refine Int.ofNat_le.2 (Qe fun i _=>?_);split
 . unfold kx;refine List.countP_mono_left fun x _ hx=>?_
   simp only[ado] at hx⊢;exact⟨hx.1,hpq _ hx.2⟩
 . exact adp _
theorem KInv.step{hs:List Int}{R S:List (List Int)}{ts W es rest:List Int}{g:Int}(hh:∀x∈hs,0<=x∧x.toNat<hs.length)(hR:bU hs.length R)(hS:bU hs.length S)(hrev:zx hs.length R S)(hRn:∀l∈R,l.Nodup)(hSn:∀l∈S,l.Nodup)
 (hK:KInv hs R hs.length ts W es) (hp:es.Perm (g::rest)) (hle:∀x∈rest,g<=x):KInv hs R hs.length (ts++[g]) (cV S hs W (bL hs hs.length g)).1 (rest++(cV S hs W (bL hs hs.length g)).2)∧(Y9 W->Y9 (cV S hs W (bL hs hs.length g)).1):=by
 have hge:g∈es:=hp.symm.subset (adP ..);obtain⟨hgh,hgt,hgw⟩:=(hK.es g).1 hge;have hgu:untold ts g=true:=ac0 hgt;have hnd2:=(List.Perm.nodup_iff hp).1 hK.nd;obtain⟨hgr,hrn⟩:=adY.1 hnd2;obtain⟨D,hD⟩:∃D,D=zB S hs (bL hs hs.length g):=⟨_,rfl⟩;have hcnt:∀h,h≠g->wt hs R hs.length (untold ts) h=wt hs R hs.length (untold (ts++[g])) h+(D.count h:Int):=fun h hne=>by rw[oK,Qc hgu (aeM hne),hD,CM (aeM hne),HA hR hS hrev hRn hSn]
 have hgD:g∉D:=by rw[hD];exact Mr _
 have hge0:=fun h=>YW hs R hs.length (untold (ts++[g])) h
 have hDt:∀y∈D,y∉ts:=fun y hy ht=>by have h1:=hcnt y (fun e=>hgD (e▸hy));rw[hK.z y ht] at h1;have:=agn.2 hy;have:=hge0 y;omega
 have hat:∀i:Nat,i<hs.length->atI hs (i:Int)∈hs:=fun i hi=>by rw[fW (io hi)];exact adR _
 have hDh:∀y∈D,y∈hs:=fun y hy=>by
  rw[hD] at hy;unfold zB at hy;simp only[List.mem_flatMap,ads,adZ] at hy;obtain⟨p,_,⟨r,hr,rfl⟩,_⟩:=hy;have:=mf hS hr;have e:=hat r.toNat this.2
  rwa [aec this.1] at e
 have hdc:∀y∈D,(D.count y:Int)<=atI W y:=fun y hy=>by obtain⟨y0,yn⟩:=hh y (hDh y hy);rw[hK.w y y0 yn (hDt y hy),hcnt y (fun e=>hgD (e▸hy))];have:=hge0 y;omega
 obtain⟨a1,a2,o2,a3,a4,a5⟩:=EB D W [] (fun y hy=>by rw[hK.len];exact hh y (hDh y hy)) hdc;rw[Mq,<-hD];rw[aex] at a3;rw[a3];rw[hK.len] at a1 a2;have hmono:∀h,wt hs R hs.length (untold (ts++[g])) h<=wt hs R hs.length (untold ts) h:=fun h=>by rw[oK];exact Qf (fun y hy=>by simp only[ado] at hy;exact hy.1) h
 have ho2:∀h,h∈o2↔h∈D∧wt hs R hs.length (untold (ts++[g])) h=0:=fun h=>by
  rw[a5];constructor
  . rintro⟨b1,b2⟩;obtain⟨y0,yn⟩:=hh h (hDh h b1);have:=hcnt h (fun e=>hgD (e▸b1));rw[hK.w h y0 yn (hDt h b1)] at b2;exact⟨b1,A0b⟩
  . rintro⟨b1,b2⟩;obtain⟨y0,yn⟩:=hh h (hDh h b1);have:=hcnt h (fun e=>hgD (e▸b1));exact⟨b1,by rw[hK.w h y0 yn (hDt h b1)];omega⟩
 refine⟨⟨a1,fun h h0 hn hh'=>?_,fun h hh'=>?_,?_,fun h=>?_,?_⟩,fun hb x hx=>?_⟩
 . rw[adv,adj,not_or] at hh';rw[a2 h h0 hn,hK.w h h0 hn hh'.1,hcnt h hh'.2];omega
 . have h1:=hmono h;have h2:=hge0 h;rw[adv,adj] at hh';rcases hh' with hh'|rfl
   . have:=hK.z h hh';omega
   . omega
 . refine aeH.2 ⟨hrn,a4,fun a ha b hb=>?_⟩;rintro rfl;have hae:a∈es:=hp.symm.subset (adE _ ha);have h1:=((hK.es a).1 hae).2.2;have hb1:=((ho2 a).1 hb).1;have:=hcnt a (fun e=>hgD (e▸hb1));have:=agn.2 hb1;have:=hge0 a;omega
 . rw [adv,ho2,adv,adj,not_or];constructor
   . rintro(h1|⟨h1,h2⟩)
     . obtain⟨b1,b2,b3⟩:=(hK.es h).1 (hp.symm.subset (adE _ h1));have:=hmono h;have:=hge0 h;exact⟨b1,⟨b2,fun e=>hgr (e▸h1)⟩,A0b⟩
     . exact⟨hDh h h1,⟨hDt h h1,fun e=>hgD (e▸h1)⟩,h2⟩
   . rintro⟨b1,⟨b2,b3⟩,b4⟩;by_cases hd:h∈D
     . exact .inr ⟨hd,b4⟩
     . have h1:=hcnt h b3;rw[List.count_eq_zero.2 hd,b4] at h1;have h2:=hp.subset ((hK.es h).2 ⟨b1,b2,h1⟩);rcases adA.1 h2 with e|e
       . exact absurd e b3
       . exact .inl e
 . intro i g' hi;rcases jI hi with⟨hil,hi⟩|⟨rfl,rfl⟩
   . rw[ael A0b];exact hK.ord i g' hi
   . rw[ael (adp _),aei];refine⟨hgh,hgt,hgw,fun h b1 b2 b3=>?_⟩;have h2:=hp.subset ((hK.es h).2 ⟨b1,b2,b3⟩);rcases adA.1 h2 with e|e
     . omega
     . exact hle h e
 . obtain⟨j,hj⟩:=ad8.1 hx;have hjl:j<hs.length:=by have:=(iO.1 hj).1;omega
   have h1:=a2 (j:Int) A0b (by rw[tl];exact hjl);rw[fW hj] at h1;obtain⟨y,hy⟩:∃y,W[j]?=some y:=⟨_,io (by rw[hK.len];exact hjl)⟩;have h2:=hb y (adg hy);rw[fW hy] at h1;by_cases hd:(j:Int)∈D
   . have h3:=hdc _ hd;rw[fW hy] at h3;omega
   . rw[List.count_eq_zero.2 hd] at h1;omega
def HeadsOK(R:List (List Int))(n:Nat)(hs:List Int):Prop:=hs.length=n∧∀x:Int,0<=x->x.toNat<n->∃hd,hs[x.toNat]?=some hd∧u7 R n x hd
theorem HeadsOK.at(h:HeadsOK R n hs){x:Int}(hx:0<=x∧x.toNat<n):u7 R n x (atI hs x):=by obtain⟨hd,h1,h2⟩:=h.2 x hx.1 hx.2;rw[fw h1];exact h2
theorem HeadsOK.same(h:HeadsOK R n hs){x y:Int}(hx:0<=x∧x.toNat<n)(hy:0<=y∧y.toNat<n):atI hs x=atI hs y↔SC R x y:=by obtain⟨a1,a2,a3⟩:=h.at hx;obtain⟨b1,b2,b3⟩:=h.at hy;refine⟨fun e=>by rw[e] at a1;exact a1.trans b1.symm,fun e=>?_⟩;have h1:=a3 _ b2.1 b2.2 (e.trans b1);have h2:=b3 _ a2.1 a2.2 (e.symm.trans a1);omega
theorem HeadsOK.mem(h:HeadsOK R n hs){g:Int}:g∈hs↔(0<=g∧g.toNat<n)∧atI hs g=g:=by
 constructor
 . intro hg;obtain⟨i,hi⟩:=ad8.1 hg;have hil:=(iO.1 hi).1;rw[h.1] at hil;have hx:(0:Int)<=(i:Int)∧((i:Int)).toNat<n:=⟨A0b,A0b⟩;have h1:=h.at hx;rw[fW hi] at h1;refine⟨h1.2.1,?_⟩;have h2:=(h.same hx h1.2.1).2 h1.1;rw[fW hi] at h2;exact h2.symm
 . rintro⟨hg,e⟩;obtain⟨hd,h1,_⟩:=h.2 g hg.1 hg.2;rw[fw h1] at e;subst e;exact adg h1
theorem HeadsOK.in(h:HeadsOK R n hs):∀x∈hs,0<=x∧x.toNat<hs.length:=fun x hx=>by rw[h.1];exact(h.mem.1 hx).1
theorem CN{P:Nat->Prop}:∀(n:Nat),(∃k,P k)->(∀k,P k->k<n)->∃k,P k∧∀j,P j->j<=k
 |0,⟨k,hk⟩,hb=>absurd (hb k hk) (afe _)
 | n+1,he,hb=>by
   by_cases h:P n
   . exact⟨n,h,fun j hj=>by have:=hb j hj;omega⟩
   . exact CN n he (fun k hk=>by
      have h1:=hb k hk;have:k≠n:=fun e=>h (e▸hk)
      omega)
theorem Ms(h:ey n f≠0):∃i,i<n∧f i≠0:=by
 induction n with
 |zero=>exact absurd rfl h
 | succ n ih=>
   rw[cA] at h;by_cases e:f n=0
   . obtain⟨i,h1,h2⟩:=ih A0b;exact⟨i,A0b,h2⟩
   . exact⟨n,A0b,e⟩
theorem Tt(hw:wt hs R n p h≠0):∃v w:Int,(0<=v∧v.toNat<n)∧atI hs v=h∧w∈rowZ R v∧atI hs w≠h∧p (atI hs w)=true:=by
 rw[u9] at hw;obtain⟨i,hi,hf⟩:=Ms (fun e=>hw (by rw[e];rfl));split at hf
 . rename_i e;unfold kx at hf;obtain⟨w,hw1,hw2⟩:=List.countP_pos_iff.1 (Nat.pos_of_ne_zero hf);simp only[ado,adS] at hw2;exact⟨(i:Int),w,⟨A0b,A0b⟩,e,hw1,hw2.1,hw2.2⟩
 . exact absurd rfl hf
variable{ts:List Int}
theorem KInv.all{out:List Int}(hF:FinOK R n out)(hR:bU n R)(hH:HeadsOK R n hs)(hK:KInv hs R n ts W []):∀h∈hs,h∈ts:=by
 have key :∀(k:Nat) (x:Int),out[k]?=some x->(∀j y,out[j]?=some y->SC R x y->j<=k)->atI hs x∈ts:=by
  intro k
  induction k using Nat.strongRecOn with
  | ind k ih=>
    intro x hx hlast;have hxr:=(hF.mem x).1 (adg hx);by_cases ht:atI hs x∈ts
    . exact ht
    have hhs:atI hs x∈hs:=by obtain⟨hd,h1,_⟩:=hH.2 x hxr.1 hxr.2;rw[fw h1];exact adg h1
    have hw:wt hs R n (untold ts) (atI hs x)≠0:=fun e=>by have:=(hK.es (atI hs x)).2 ⟨hhs,ht,e⟩;cases this
    obtain⟨v,w,hv,hvx,hwv,hwx,hwu⟩:=Tt hw;have hwr:=mf hR hwv;have hsv:SC R v x:=(hH.same hv hxr).1 hvx;have hnv: ¬SC R v w:=fun e=>hwx (((hH.same hv hwr).2 e).symm.trans hvx)
    obtain⟨iv,hiv⟩:=ad8.1 ((hF.mem v).2 hv);obtain⟨iw,hiw⟩:=ad8.1 ((hF.mem w).2 hwr);have hivk:=hlast iv v hiv hsv.symm;have hlt:iw<iv:=by
     rcases hF.F iv v hiv w hwv with e|e
     . obtain⟨q,hq⟩:=ad8.1 e;have hql:q<iv:=by have:=(iO.1 hq).1;rw[adz] at this;omega
       rw[agj hql] at hq;rw[Ey hF.nd hiw hq];exact hql
     . exact absurd (.inr ⟨.one hwv,e⟩) hnv
    obtain⟨k',⟨y,hy,hwy⟩,hmax⟩:=CN (P:=fun k'=>∃y,out[k']?=some y∧SC R w y) out.length ⟨iw,w,hiw,.refl _⟩ (fun k' ⟨y,hy,_⟩=>(iO.1 hy).1);have hk':k'<k:=by
     rcases aeb k' k with e|e
     . exact e
     . exfalso;rcases Nat.eq_or_lt_of_le (show iv<=k' by omega) with e2|e2
       . subst e2;rw[hiv] at hy;cases hy;exact hnv hwy.symm
       . have hr:ReachI R w y:=by
          rcases hwy with rfl|hwy
          . have:=Ey hF.nd hiw hy;omega
          . exact hwy.1
         have:=hF.K iw iv k' w v y hiw hiv hy hlt e2 hr;exact hnv (.inr ⟨.one hwv,this⟩)
    have hyr:=(hF.mem y).1 (adg hy);have h1:=ih k' hk' y hy (fun j z hz hs'=>hmax j ⟨z,hz,hwy.trans hs'⟩);rw[<-(hH.same hwr hyr).2 hwy] at h1;have h2:atI hs w∉ts:=adQ hwu;exact absurd h1 h2
 intro h hh;obtain⟨hhr,hhe⟩:=hH.mem.1 hh;obtain⟨i,hi⟩:=ad8.1 ((hF.mem h).2 hhr);obtain⟨k,⟨y,hy,hs'⟩,hmax⟩:=CN (P:=fun k=>∃y,out[k]?=some y∧SC R h y) out.length ⟨i,h,hi,.refl _⟩ (fun k ⟨y,hy,_⟩=>(iO.1 hy).1);have h1:=key k y hy (fun j z hz hsz=>hmax j ⟨z,hz,hs'.trans hsz⟩);have hyr:=(hF.mem y).1 (adg hy)
 rwa [<-(hH.same hhr hyr).2 hs',hhe] at h1
theorem KInv.zero{es:List Int}(hh:∀x∈hs,0<=x∧x.toNat<hs.length)(hnd:es.Nodup)(hes:∀h,h∈es↔h∈hs∧atI (bq R hs hs.length) h=0):KInv hs R hs.length [] (bq R hs hs.length) es:=by
 have hu:untold []=fun _=>true:=by funext y;simp[untold]
 have hw:∀h:Int,0<=h->h.toNat<hs.length->atI (bq R hs hs.length) h=wt hs R hs.length (untold []) h:=fun h h0 hn=>by rw[hu];exact(ky hh h0 hn hs.length (adp _)).2
 have hl:(bq R hs hs.length).length=hs.length:=by
  cases e:hs with
  |nil=>rfl
  |cons a t=>obtain⟨a0,an⟩:=hh a (by rw[e];exact adP ..);rw[<-e];exact(ky hh a0 an hs.length (adp _)).1
 refine⟨hl,fun h h0 hn _=>hw h h0 hn,fun h hh'=>(by cases hh'),hnd,fun h=>?_,fun i g hi=>by simp at hi⟩;rw[hes];constructor
 . rintro⟨a,b⟩;obtain⟨h0,hn⟩:=hh h a;exact⟨a,A0k,by rw[<-hw h h0 hn];exact b⟩
 . rintro⟨a,_,b⟩;obtain⟨h0,hn⟩:=hh h a;exact⟨a,by rw[hw h h0 hn];exact b⟩
theorem Qg{ts':List Int}(h:OrdOK hs R n ts)(h':OrdOK hs R n ts')(ha:∀g∈hs,g∈ts)(ha':∀g∈hs,g∈ts'):ts=ts':=by
 have step:∀k,ts.take k=ts'.take k->ts[k]?=ts'[k]?:=fun k he=>by
  cases e:ts[k]? with
  | some g=>
    obtain⟨a,b,c,d⟩:=h k g e;cases e':ts'[k]? with
    |some g'=>obtain⟨a',b',c',d'⟩:=h' k g' e';rw[<-he] at b' c' d';have h1:=d g' a' b' c';have h2:=d' g a b c;rw[show g=g' by omega]
    |none=>have hl:=agc.1 e';rw[he,ady hl] at b;exact absurd (ha' g a) b
  | none=>
    have hl:=agc.1 e;cases e':ts'[k]? with
    |some g'=>obtain⟨a',b',_,_⟩:=h' k g' e';rw[<-he,ady hl] at b';exact absurd (ha g' a') b'
    |none=>rfl
 have all:∀k,ts.take k=ts'.take k:=fun k=>by
  induction k with
  |zero=>rfl
  |succ k ih=>rw[af5,af5,ih,step k ih]
 refine aeB fun k=>step k (all k)

/- Chapter 13: how often a knot waits, plainly: what waits and freed reckon. -/
import Derived.Test.YtmfojhkjbkombaaGreatMKb
namespace Go.Proofs.YtmfojhkjbkombaaGreat
set_option linter.unusedSimpArgs false
set_option maxRecDepth 100000
open Go Go.RowKit
variable {W:List Int} {h:Int}
theorem A2 {i:Int} {v:Int} (h0:0<=h) (hl:h.toNat<W.length) (i0:0<=i):atI (W.set i.toNat v) h=if h=i then v else atI W h:=by
 unfold atI;rw[Zg];by_cases e:h=i
 . subst e;rw[YG rfl,YG hl,YG rfl];rfl
 . rw[YL A0b,YL e]
def ly (hs:List Int) (h:Int) (p:Int->Bool) (row:List Int):Nat:=row.countP fun r=>decide (atI hs r≠h)&&p (atI hs r)
theorem Ik (hs:List Int) (a:Int) (row:List Int):∀W:List Int,(row.foldl (w1 hs a) W).length=W.length:=by
 induction row with
 |nil=>intro W;rfl
 | cons r row ih=>
   intro W;rw[ZR,ih];unfold w1;split
   . rfl
   . rw[Za]
variable {hs:List Int}
theorem Tn {a:Int} (ha:0<=a) (h0:0<=h) (row:List Int):∀W:List Int,h.toNat<W.length->atI (row.foldl (w1 hs a) W) h=atI W h+if a=h then (ly hs h (fun _=>true) row:Int) else 0:=by
 induction row with
 |nil=>intro W _;simp[ly]
 | cons r row ih=>
   intro W hl;rw[ZR,ih _ (by have:=Ik hs a [r] W;simp only[ZR,aaI] at this;rw[this];exact hl)];unfold w1 ly;rw[aa1];by_cases e:atI hs r=a
   . rw[YG e];by_cases e2:a=h
     . subst e2;simp[e]
     . simp[e2]
   . rw[YL e,A2 h0 hl ha];by_cases e2:a=h
     . subst e2;simp[e];omega
     . rw[YL (fun k=>e2 k.symm)];simp[e2]
def wt (hs:List Int) (R:List (List Int)) (n:Nat) (p:Int->Bool) (h:Int):Int:=((List.range n).map fun i:Nat=>if atI hs (i:Int)=h then (ly hs h p (rowZ R (i:Int)):Int) else 0).sum
theorem vH (l:List Int) (x:Int):(l++[x]).sum=l.sum+x:=A0j
variable {R:List (List Int)}
theorem iX (hh:∀x∈hs,0<=x∧x.toNat<hs.length) {h:Int} (h0:0<=h) (hn:h.toNat<hs.length):∀k:Nat,k<=hs.length->(bf R hs k).length=hs.length∧atI (bf R hs k) h=wt hs R k (fun _=>true) h:=by
 intro k
 induction k with
 |zero=>intro _;exact⟨by simp[bf],by simp[bf,wt,atI,hn]⟩
 | succ k ih=>
   intro hk;obtain⟨a,b⟩:=ih A0b;have hak:0<=atI hs (k:Int):=by have hx:hs[k]?=some hs[k]:=io A0b;rw[eS hx];exact(hh _ (Y5 _)).1
   rw[mc];unfold Lh;refine⟨by rw[Ik,a],?_⟩;rw[Tn hak h0 _ _ (by rw[a];exact hn),b];unfold wt;rw[aaC,Y4,Y0,aah,vH]
def d1 (q:List Int×List Int) (y:Int):List Int×List Int:=(q.1.set y.toNat (atI q.1 y-1),if atI q.1 y-1=0 then q.2++[y] else q.2)
def vI (S:List (List Int)) (hs ps:List Int):List Int:=ps.flatMap fun p=>((rowZ S p).map (atI hs)).filter fun y=>decide (y≠atI hs p)
theorem Ly (S:List (List Int)) (hs:List Int) (p:Int) (q:List Int×List Int):Ic S hs q p=(((rowZ S p).map (atI hs)).filter fun y=>decide (y≠atI hs p)).foldl d1 q:=by
 unfold Ic;generalize rowZ S p=row
 induction row generalizing q with
 |nil=>rfl
 | cons r row ih=>
   rw[ZR,ih,Mj,Y0];by_cases e:atI hs r=atI hs p
   . rw[YG e,List.filter_cons_of_neg (by simp[e])]
   . rw[YL e,abv (by simp[e]),ZR];rfl
theorem Il (S:List (List Int)) (hs W ps:List Int):co S hs W ps=(vI S hs ps).foldl d1 (W,[]):=by
 unfold co vI;generalize ((W,[]):List Int×List Int)=q
 induction ps generalizing q with
 |nil=>rfl
 |cons p ps ih=>rw[ZR,ih,Ly,ZG,aan]
theorem A3 :∀(ys W o:List Int),(∀y∈ys,0<=y∧y.toNat<W.length)->(∀y∈ys,(ys.count y:Int)<=atI W y)->
 (ys.foldl d1 (W,o)).1.length=W.length∧(∀h:Int,0<=h->h.toNat<W.length->atI (ys.foldl d1 (W,o)).1 h=atI W h-ys.count h)∧∃o2,(ys.foldl d1 (W,o)).2=o++o2∧o2.Nodup∧∀z,z∈o2↔z∈ys∧atI W z=ys.count z
 |[],W,o,_,_=>⟨rfl,fun h _ _=>by simp,[],A0j,ZD,fun z=>by simp⟩
 | y :: t, W,o,hr,hc=>by
   obtain⟨y0,yl⟩:=hr y (Zc ..);have hat:∀h:Int,0<=h->h.toNat<W.length->atI (W.set y.toNat (atI W y-1)) h=if h=y then atI W y-1 else atI W h:=fun h h0 hl=>A2 h0 hl y0
   have hcy:=hc y (Zc ..);rw[List.count_cons_self] at hcy;rw[ZR];obtain⟨a1,a2,o2,a3,a4,a5⟩:=A3 t (W.set y.toNat (atI W y-1)) (if atI W y-1=0 then o++[y] else o) (fun z hz=>by rw[Za];exact hr z (YY _ hz)) (fun z hz=>by
    obtain⟨z0,zl⟩:=hr z (YY _ hz);have:=hc z (YY _ hz);rw[hat z z0 zl];rw[List.count_cons] at this;by_cases e:z=y
    . subst e;rw[YG rfl];omega
    . rw[YL e];simp[ZY e] at this;exact this)
   rw[Za] at a1 a2;refine⟨a1,fun h h0 hl=>?_,?_⟩
   . refine(a2 h h0 hl).trans ?_;rw[hat h h0 hl,List.count_cons];by_cases e:h=y
     . subst e;rw[YG rfl];simp;omega
     . rw[YL e];simp[ZY e]
   have hmem:∀z,z∈t->(atI (W.set y.toNat (atI W y-1)) z=t.count z↔atI W z=(y::t).count z):=fun z hz=>by
    obtain⟨z0,zl⟩:=hr z (YY _ hz);rw[hat z z0 zl,List.count_cons];by_cases e:z=y
    . subst e;rw[YG rfl];simp;omega
    . rw[YL e];simp[ZY e]
   by_cases hz:atI W y-1=0
   . have ht:y∉t:=fun h=>by have:=abw.2 h;omega
     refine⟨y::o2,?_,Zj.2 ⟨fun h=>ht ((a5 y).1 h).1,a4⟩,fun z=>?_⟩
     . show(t.foldl d1 (W.set y.toNat (atI W y-1),if atI W y-1=0 then o++[y] else o)).2=_;rw[a3,YG hz,Zw];rfl
     . rw [YT,YT,a5];by_cases e:z=y
       . subst e;have:t.count z=0:=List.count_eq_zero.2 ht;simp[this];omega
       . constructor
         . rintro(h|⟨h1,h2⟩)
           . exact absurd h e
           . exact⟨.inr h1,(hmem z h1).1 h2⟩
         . rintro⟨h|h1,h2⟩
           . exact absurd h e
           . exact .inr ⟨h1,(hmem z h1).2 h2⟩
   . refine⟨o2,?_,a4,fun z=>?_⟩
     . show(t.foldl d1 (W.set y.toNat (atI W y-1),if atI W y-1=0 then o++[y] else o)).2=_;rw[a3,YL hz]
     . rw [YT,a5];constructor
       . rintro⟨h1,h2⟩;exact⟨.inr h1,(hmem z h1).1 h2⟩
       . rintro⟨h1,h2⟩;have ht:z∈t:=by
          rcases h1 with rfl|h1
          . rw[List.count_cons_self] at h2;exact abw.1 A0b
          . exact h1
         exact⟨ht,(hmem z ht).2 h2⟩
def dy (n:Nat) (f:Nat->Nat):Nat:=((List.range n).map f).sum
theorem qn (f:Nat->Nat):dy 0 f=0:=rfl
theorem ca (n:Nat) (f:Nat->Nat):dy (n+1) f=dy n f+f n:=by unfold dy;rw[aaC,Y4,List.sum_append];simp
theorem oC (n:Nat) (f g:Nat->Nat):dy n (fun i=>f i+g i)=dy n f+dy n g:=by
 induction n with
 |zero=>rfl
 |succ n ih=>rw[ca,ca,ca,ih];omega
variable {n:Nat} {f:Nat->Nat}
theorem dq {g:Nat->Nat} (h:∀i,i<n->f i=g i):dy n f=dy n g:=by
 induction n with
 |zero=>rfl
 |succ n ih=>rw[ca,ca,ih (fun i hi=>h i A0b),h n A0b]
theorem jm (n:Nat):dy n (fun _=>0)=0:=by
 induction n with
 |zero=>rfl
 |succ n ih=>rw[ca,ih]
theorem DO (n m:Nat) (f:Nat->Nat->Nat):dy n (fun a=>dy m (f a))=dy m (fun b=>dy n (fun a=>f a b)):=by
 induction n with
 |zero=>simp only[qn];exact(jm m).symm
 |succ n ih=>simp only[ca];rw[ih,oC]
theorem A4 (n:Nat) (c:Prop) [Decidable c] (f:Nat->Nat):(if c then dy n f else 0)=dy n (fun i=>if c then f i else 0):=by
 split
 . rfl
 . exact(jm n).symm
theorem vJ {k:Nat} (c:Nat) (h:k<n):dy n (fun i=>if i=k then c else 0)=c:=by
 induction n with
 |zero=>omega
 | succ n ih=>
   rw[ca];by_cases e:k=n
   . subst e;rw[YG rfl,dq (g:=fun _=>0) (fun i hi=>YL A0b),jm];omega
   . rw[ih A0b,YL A0b,ZE]
theorem qo {n:Nat} {f:Int->Bool}:∀{row:List Int},row.Nodup->(∀r∈row,0<=r∧r.toNat<n)->row.countP f=dy n fun i=>if f (i:Int)=true∧(i:Int)∈row then 1 else 0
 |[],_,_=>by simp[jm]
 | r ::t,hn,hr=>by
   obtain⟨h1,h2⟩:=Zj.1 hn;obtain⟨r0,rn⟩:=hr r (Zc ..);rw[aa1,qo h2 (fun x hx=>hr x (YY _ hx))];have e:(if f r=true then 1 else 0)=dy n fun i=>if i=r.toNat then (if f r=true then 1 else 0) else 0:=(vJ _ rn).symm
   rw[e,<-oC];refine dq fun i hi=>?_
   by_cases ei:i=r.toNat
   . have:(i:Int)=r:=A0b
     rw[this,YG ei];simp[h1]
   . have hne:(i:Int)≠r:=A0b
     rw[YL ei];simp[hne]
variable {S:List (List Int)}
theorem DQ (hR:bK n R) (hS:bK n S) (hrev:vF n R S) (hRn:∀l∈R,l.Nodup) (hSn:∀l∈S,l.Nodup) (hs:List Int) (g h:Int):
 dy n (fun q=>if atI hs (q:Int)=g then (rowZ S (q:Int)).countP (fun r=>decide (atI hs r=h)) else 0)=dy n (fun i=>if atI hs (i:Int)=h then (rowZ R (i:Int)).countP (fun r=>decide (atI hs r=g)) else 0):=by
 have hrow:∀(A:List (List Int)),bK n A->(∀l∈A,l.Nodup)->∀(f:Int->Bool) (q:Nat),(rowZ A (q:Int)).countP f=dy n fun i=>if f (i:Int)=true∧(i:Int)∈rowZ A (q:Int) then 1 else 0:=fun A hA hn f q=>by
  refine qo ?_ (fun r hr=>lw hA hr);unfold rowZ;cases e:A[(q:Int).toNat]? with
  |none=>exact ZD
  |some l=>exact hn l (YB e)
 have h1:∀q:Nat,(if atI hs (q:Int)=g then (rowZ S (q:Int)).countP (fun r=>decide (atI hs r=h)) else 0)=dy n fun i=>if atI hs (q:Int)=g∧atI hs (i:Int)=h∧(i:Int)∈rowZ S (q:Int) then 1 else 0:=fun q=>by
  rw[hrow S hS hSn,A4];refine dq fun i _=>?_
  by_cases e:atI hs (q:Int)=g<;>simp[e]
 have h2:∀i:Nat,(if atI hs (i:Int)=h then (rowZ R (i:Int)).countP (fun r=>decide (atI hs r=g)) else 0)=dy n fun q=>if atI hs (i:Int)=h∧atI hs (q:Int)=g∧(q:Int)∈rowZ R (i:Int) then 1 else 0:=fun i=>by
  rw[hrow R hR hRn,A4];refine dq fun q _=>?_
  by_cases e:atI hs (i:Int)=h<;>simp[e]
 simp only[h1,h2];rw[DO];refine dq fun i hi=>dq fun q hq=>?_
 have:=hrev (i:Int) (q:Int) A0b A0b A0b A0b;have e:((i:Int)∈rowZ S (q:Int))↔((q:Int)∈rowZ R (i:Int)):=this;by_cases a:atI hs (q:Int)=g<;>by_cases b:atI hs (i:Int)=h<;>simp[a,b,e]
theorem vK (hs:List Int) (R:List (List Int)) (n:Nat) (p:Int->Bool) (h:Int):wt hs R n p h=(dy n (fun i=>if atI hs (i:Int)=h then ly hs h p (rowZ R (i:Int)) else 0):Nat):=by
 induction n with
 |zero=>rfl
 |succ n ih=>unfold wt at ih⊢;rw[aaC,Y4,Y0,aah,vH,ih,ca];split<;>simp
variable {g:Int} {p:Int->Bool}
theorem DR (hg:p g=true) (hne:g≠h) (row:List Int):ly hs h p row=ly hs h (fun y=>p y&&decide (y≠g)) row+row.countP (fun r=>decide (atI hs r=g)):=by
 induction row with
 |nil=>rfl
 | cons r t ih=>
   unfold ly at ih⊢;rw[aa1,aa1,aa1,ih];by_cases e:atI hs r=g
   . simp[e,hg,hne];omega
   . simp[e];omega
theorem Lz (hg:p g=true) (hne:g≠h):wt hs R n p h=wt hs R n (fun y=>p y&&decide (y≠g)) h+(dy n (fun i=>if atI hs (i:Int)=h then (rowZ R (i:Int)).countP (fun r=>decide (atI hs r=g)) else 0):Nat):=by
 rw[vK,vK,<-Int.natCast_add,<-oC];congr 1;refine dq fun i _=>?_
 split
 . exact DR hg hne _
 . rfl
def dc (hs:List Int) (n:Nat) (g:Int):List Int:=((List.range n).filter fun(i:Nat)=>decide (atI hs (i:Int)=g)).map fun(i:Nat)=>(i:Int)
theorem qp (hs:List Int) (n:Nat) (g:Int):dc hs (n+1) g=dc hs n g++if atI hs (n:Int)=g then [(n:Int)] else []:=by unfold dc;rw[aaC,List.filter_append,Y4];by_cases e:atI hs (n:Int)=g<;>simp[e]
theorem zm (hne:g≠h) (n:Nat):(vI S hs (dc hs n g)).count h=dy n (fun q=>if atI hs (q:Int)=g then (rowZ S (q:Int)).countP (fun r=>decide (atI hs r=h)) else 0):=by
 induction n with
 |zero=>rfl
 | succ n ih=>
   rw[qp,ca,<-ih];unfold vI;rw[List.flatMap_append,List.count_append];congr 1;by_cases e:atI hs (n:Int)=g
   . rw [YG e,YG e,ZG,List.flatMap_nil,Z9,e];generalize rowZ S (n:Int)=row
     induction row with
     |nil=>rfl
     | cons r t ih=>
       rw[Y0,aa1,<-ih];by_cases e2:atI hs r=h
       . rw[abv (by simp[e2,ZY hne]),e2,List.count_cons_self];simp
       . by_cases e3:atI hs r=g
         . rw[List.filter_cons_of_neg (by simp[e3])];simp[e2]
         . rw[abv (by simp[e3]),List.count_cons_of_ne e2];simp[e2]
   . rw[YL e,YL e];rfl
theorem Im (n:Nat):g∉vI S hs (dc hs n g):=fun h=>by unfold vI dc at h;simp only[List.mem_flatMap,YR,Zq,Ze,Zh] at h;obtain⟨p,⟨i,⟨_,hi⟩,rfl⟩,⟨r,_,hr⟩,hne⟩:=h;exact hne (hi.symm)
theorem LA (hh:∀x∈hs,0<=x∧x.toNat<hs.length) (g0:0<=g) (gn:g.toNat<hs.length):∀k:Nat,k<=hs.length->(dX hs k)[g.toNat]?=some (dc hs k g):=by
 intro k
 induction k with
 |zero=>intro _;simp[dX,dc,gn]
 | succ k ih=>
   intro hk;have hx:hs[k]?=some hs[k]:=io A0b;obtain⟨a0,an⟩:=hh _ (Y5 (show k<hs.length by omega));rw[jk,qp];unfold m1;rw[eS hx,Zg];by_cases e:hs[k]=g
   . rw[YG A0U,YG (by rw[fC];exact an),YG e];unfold rowZ;rw[e,ih A0b];rfl
   . rw[YL A0b,YL e,ih A0b,Z9]
def untold (ts:List Int) (y:Int):Bool:=decide (y∉ts)
theorem mh (ts:List Int) (g:Int):untold (ts++[g])=fun y=>untold ts y&&decide (y≠g):=by funext y;unfold untold;by_cases a:y∈ts<;>by_cases b:y=g<;>simp[a,b]
def OrdOK (hs:List Int) (R:List (List Int)) (n:Nat) (ts:List Int):Prop:=
 ∀i g,ts[i]?=some g->g∈hs∧g∉ts.take i∧wt hs R n (untold (ts.take i)) g=0∧∀h∈hs,h∉ts.take i->wt hs R n (untold (ts.take i)) h=0->g<=h
def TC (W:List Int):Prop:=∀x∈W,0<=x∧x<=100000000000
structure KInv (hs:List Int) (R:List (List Int)) (n:Nat) (ts W es:List Int):Prop where
 len:W.length=n
 w:∀h:Int,0<=h->h.toNat<n->h∉ts->atI W h=wt hs R n (untold ts) h
 z:∀h∈ts,wt hs R n (untold ts) h=0
 nd:es.Nodup
 es:∀h,h∈es↔h∈hs∧h∉ts∧wt hs R n (untold ts) h=0
 ord:OrdOK hs R n ts
theorem To (hs:List Int) (R:List (List Int)) (n:Nat) (p:Int->Bool) (h:Int):0<=wt hs R n p h:=by rw[vK];omega
theorem LB {g:Nat->Nat} (h:∀i,i<n->f i<=g i):dy n f<=dy n g:=by
 induction n with
 |zero=>exact YJ _
 |succ n ih=>rw[ca,ca];have:=ih (fun i hi=>h i A0b);have:=h n A0b;omega
theorem LC {q:Int->Bool} (hpq:∀y,q y=true->p y=true) (h:Int):wt hs R n q h<=wt hs R n p h:=by
 rw[vK,vK];refine Int.ofNat_le.2 (LB fun i _=>?_);split
 . unfold ly;refine List.countP_mono_left fun x _ hx=>?_
   simp only[YH] at hx⊢;exact⟨hx.1,hpq _ hx.2⟩
 . exact YJ _
theorem KInv.step {hs:List Int} {R S:List (List Int)} {ts W es rest:List Int} {g:Int} (hh:∀x∈hs,0<=x∧x.toNat<hs.length) (hR:bK hs.length R) (hS:bK hs.length S) (hrev:vF hs.length R S) (hRn:∀l∈R,l.Nodup) (hSn:∀l∈S,l.Nodup)
 (hK:KInv hs R hs.length ts W es) (hp:es.Perm (g::rest)) (hle:∀x∈rest,g<=x):KInv hs R hs.length (ts++[g]) (co S hs W (dc hs hs.length g)).1 (rest++(co S hs W (dc hs hs.length g)).2)∧(TC W->TC (co S hs W (dc hs hs.length g)).1):=by
 have hge:g∈es:=hp.symm.subset (Zc ..);obtain⟨hgh,hgt,hgw⟩:=(hK.es g).1 hge;have hgu:untold ts g=true:=Yz hgt;have hnd2:=(List.Perm.nodup_iff hp).1 hK.nd;obtain⟨hgr,hrn⟩:=Zj.1 hnd2;obtain⟨D,hD⟩:∃D,D=vI S hs (dc hs hs.length g):=⟨_,rfl⟩;have hcnt:∀h,h≠g->wt hs R hs.length (untold ts) h=wt hs R hs.length (untold (ts++[g])) h+(D.count h:Int):=fun h hne=>by rw[mh,Lz hgu (ZY hne),hD,zm (ZY hne),DQ hR hS hrev hRn hSn]
 have hgD:g∉D:=by rw[hD];exact Im _
 have hge0:=fun h=>To hs R hs.length (untold (ts++[g])) h
 have hDt:∀y∈D,y∉ts:=fun y hy ht=>by have h1:=hcnt y (fun e=>hgD (e▸hy));rw[hK.z y ht] at h1;have:=abw.2 hy;have:=hge0 y;omega
 have hat:∀i:Nat,i<hs.length->atI hs (i:Int)∈hs:=fun i hi=>by rw[eS (io hi)];exact Y5 _
 have hDh:∀y∈D,y∈hs:=fun y hy=>by
  rw[hD] at hy;unfold vI at hy;simp only[List.mem_flatMap,YR,Zq] at hy;obtain⟨p,_,⟨r,hr,rfl⟩,_⟩:=hy;have:=lw hS hr;have e:=hat r.toNat this.2
  rwa [ZI this.1] at e
 have hdc:∀y∈D,(D.count y:Int)<=atI W y:=fun y hy=>by obtain⟨y0,yn⟩:=hh y (hDh y hy);rw[hK.w y y0 yn (hDt y hy),hcnt y (fun e=>hgD (e▸hy))];have:=hge0 y;omega
 obtain⟨a1,a2,o2,a3,a4,a5⟩:=A3 D W [] (fun y hy=>by rw[hK.len];exact hh y (hDh y hy)) hdc;rw[Il,<-hD];rw[aak] at a3;rw[a3];rw[hK.len] at a1 a2;have hmono:∀h,wt hs R hs.length (untold (ts++[g])) h<=wt hs R hs.length (untold ts) h:=fun h=>by rw[mh];exact LC (fun y hy=>by simp only[YH] at hy;exact hy.1) h
 have ho2:∀h,h∈o2↔h∈D∧wt hs R hs.length (untold (ts++[g])) h=0:=fun h=>by
  rw[a5];constructor
  . rintro⟨b1,b2⟩;obtain⟨y0,yn⟩:=hh h (hDh h b1);have:=hcnt h (fun e=>hgD (e▸b1));rw[hK.w h y0 yn (hDt h b1)] at b2;exact⟨b1,A0b⟩
  . rintro⟨b1,b2⟩;obtain⟨y0,yn⟩:=hh h (hDh h b1);have:=hcnt h (fun e=>hgD (e▸b1));exact⟨b1,by rw[hK.w h y0 yn (hDt h b1)];omega⟩
 refine⟨⟨a1,fun h h0 hn hh'=>?_,fun h hh'=>?_,?_,fun h=>?_,?_⟩,fun hb x hx=>?_⟩
 . rw[YM,YF,not_or] at hh';rw[a2 h h0 hn,hK.w h h0 hn hh'.1,hcnt h hh'.2];omega
 . have h1:=hmono h;have h2:=hge0 h;rw[YM,YF] at hh';rcases hh' with hh'|rfl
   . have:=hK.z h hh';omega
   . omega
 . refine aaa.2 ⟨hrn,a4,fun a ha b hb=>?_⟩;rintro rfl;have hae:a∈es:=hp.symm.subset (YY _ ha);have h1:=((hK.es a).1 hae).2.2;have hb1:=((ho2 a).1 hb).1;have:=hcnt a (fun e=>hgD (e▸hb1));have:=abw.2 hb1;have:=hge0 a;omega
 . rw [YM,ho2,YM,YF,not_or];constructor
   . rintro(h1|⟨h1,h2⟩)
     . obtain⟨b1,b2,b3⟩:=(hK.es h).1 (hp.symm.subset (YY _ h1));have:=hmono h;have:=hge0 h;exact⟨b1,⟨b2,fun e=>hgr (e▸h1)⟩,A0b⟩
     . exact⟨hDh h h1,⟨hDt h h1,fun e=>hgD (e▸h1)⟩,h2⟩
   . rintro⟨b1,⟨b2,b3⟩,b4⟩;by_cases hd:h∈D
     . exact .inr ⟨hd,b4⟩
     . have h1:=hcnt h b3;rw[List.count_eq_zero.2 hd,b4] at h1;have h2:=hp.subset ((hK.es h).2 ⟨b1,b2,h1⟩);rcases YT.1 h2 with e|e
       . exact absurd e b3
       . exact .inl e
 . intro i g' hi;rcases im hi with⟨hil,hi⟩|⟨rfl,rfl⟩
   . rw[Zx A0b];exact hK.ord i g' hi
   . rw[Zx (YJ _),Zy];refine⟨hgh,hgt,hgw,fun h b1 b2 b3=>?_⟩;have h2:=hp.subset ((hK.es h).2 ⟨b1,b2,b3⟩);rcases YT.1 h2 with e|e
     . omega
     . exact hle h e
 . obtain⟨j,hj⟩:=Zo.1 hx;have hjl:j<hs.length:=by have:=(iO.1 hj).1;omega
   have h1:=a2 (j:Int) A0b (by rw[tl];exact hjl);rw[eS hj] at h1;obtain⟨y,hy⟩:∃y,W[j]?=some y:=⟨_,io (by rw[hK.len];exact hjl)⟩;have h2:=hb y (YB hy);rw[eS hy] at h1;by_cases hd:(j:Int)∈D
   . have h3:=hdc _ hd;rw[eS hy] at h3;omega
   . rw[List.count_eq_zero.2 hd] at h1;omega
def HeadsOK (R:List (List Int)) (n:Nat) (hs:List Int):Prop:=hs.length=n∧∀x:Int,0<=x->x.toNat<n->∃hd,hs[x.toNat]?=some hd∧rU R n x hd
theorem HeadsOK.at (h:HeadsOK R n hs) {x:Int} (hx:0<=x∧x.toNat<n):rU R n x (atI hs x):=by obtain⟨hd,h1,h2⟩:=h.2 x hx.1 hx.2;rw[eu h1];exact h2
theorem HeadsOK.same (h:HeadsOK R n hs) {x y:Int} (hx:0<=x∧x.toNat<n) (hy:0<=y∧y.toNat<n):atI hs x=atI hs y↔SC R x y:=by obtain⟨a1,a2,a3⟩:=h.at hx;obtain⟨b1,b2,b3⟩:=h.at hy;refine⟨fun e=>by rw[e] at a1;exact a1.trans b1.symm,fun e=>?_⟩;have h1:=a3 _ b2.1 b2.2 (e.trans b1);have h2:=b3 _ a2.1 a2.2 (e.symm.trans a1);omega
theorem HeadsOK.mem (h:HeadsOK R n hs) {g:Int}:g∈hs↔(0<=g∧g.toNat<n)∧atI hs g=g:=by
 constructor
 . intro hg;obtain⟨i,hi⟩:=Zo.1 hg;have hil:=(iO.1 hi).1;rw[h.1] at hil;have hx:(0:Int)<=(i:Int)∧((i:Int)).toNat<n:=⟨A0b,A0b⟩;have h1:=h.at hx;rw[eS hi] at h1;refine⟨h1.2.1,?_⟩;have h2:=(h.same hx h1.2.1).2 h1.1;rw[eS hi] at h2;exact h2.symm
 . rintro⟨hg,e⟩;obtain⟨hd,h1,_⟩:=h.2 g hg.1 hg.2;rw[eu h1] at e;subst e;exact YB h1
theorem HeadsOK.in (h:HeadsOK R n hs):∀x∈hs,0<=x∧x.toNat<hs.length:=fun x hx=>by rw[h.1];exact(h.mem.1 hx).1
theorem zn {P:Nat->Prop}:∀(n:Nat),(∃k,P k)->(∀k,P k->k<n)->∃k,P k∧∀j,P j->j<=k
 |0,⟨k,hk⟩,hb=>absurd (hb k hk) (aaB _)
 | n+1,he,hb=>by
   by_cases h:P n
   . exact⟨n,h,fun j hj=>by have:=hb j hj;omega⟩
   . exact zn n he (fun k hk=>by
      have h1:=hb k hk;have:k≠n:=fun e=>h (e▸hk)
      omega)
theorem In (h:dy n f≠0):∃i,i<n∧f i≠0:=by
 induction n with
 |zero=>exact absurd rfl h
 | succ n ih=>
   rw[ca] at h;by_cases e:f n=0
   . obtain⟨i,h1,h2⟩:=ih A0b;exact⟨i,A0b,h2⟩
   . exact⟨n,A0b,e⟩
theorem Og (hw:wt hs R n p h≠0):∃v w:Int,(0<=v∧v.toNat<n)∧atI hs v=h∧w∈rowZ R v∧atI hs w≠h∧p (atI hs w)=true:=by
 rw[vK] at hw;obtain⟨i,hi,hf⟩:=In (fun e=>hw (by rw[e];rfl));split at hf
 . rename_i e;unfold ly at hf;obtain⟨w,hw1,hw2⟩:=List.countP_pos_iff.1 (Nat.pos_of_ne_zero hf);simp only[YH,Zh] at hw2;exact⟨(i:Int),w,⟨A0b,A0b⟩,e,hw1,hw2.1,hw2.2⟩
 . exact absurd rfl hf
variable {ts:List Int}
theorem KInv.all {out:List Int} (hF:FinOK R n out) (hR:bK n R) (hH:HeadsOK R n hs) (hK:KInv hs R n ts W []):∀h∈hs,h∈ts:=by
 have key :∀(k:Nat) (x:Int),out[k]?=some x->(∀j y,out[j]?=some y->SC R x y->j<=k)->atI hs x∈ts:=by
  intro k
  induction k using Nat.strongRecOn with
  | ind k ih=>
    intro x hx hlast;have hxr:=(hF.mem x).1 (YB hx);by_cases ht:atI hs x∈ts
    . exact ht
    have hhs:atI hs x∈hs:=by obtain⟨hd,h1,_⟩:=hH.2 x hxr.1 hxr.2;rw[eu h1];exact YB h1
    have hw:wt hs R n (untold ts) (atI hs x)≠0:=fun e=>by have:=(hK.es (atI hs x)).2 ⟨hhs,ht,e⟩;cases this
    obtain⟨v,w,hv,hvx,hwv,hwx,hwu⟩:=Og hw;have hwr:=lw hR hwv;have hsv:SC R v x:=(hH.same hv hxr).1 hvx;have hnv: ¬SC R v w:=fun e=>hwx (((hH.same hv hwr).2 e).symm.trans hvx)
    obtain⟨iv,hiv⟩:=Zo.1 ((hF.mem v).2 hv);obtain⟨iw,hiw⟩:=Zo.1 ((hF.mem w).2 hwr);have hivk:=hlast iv v hiv hsv.symm;have hlt:iw<iv:=by
     rcases hF.F iv v hiv w hwv with e|e
     . obtain⟨q,hq⟩:=Zo.1 e;have hql:q<iv:=by have:=(iO.1 hq).1;rw[YQ] at this;omega
       rw[abq hql] at hq;rw[AZ hF.nd hiw hq];exact hql
     . exact absurd (.inr ⟨.one hwv,e⟩) hnv
    obtain⟨k',⟨y,hy,hwy⟩,hmax⟩:=zn (P:=fun k'=>∃y,out[k']?=some y∧SC R w y) out.length ⟨iw,w,hiw,.refl _⟩ (fun k' ⟨y,hy,_⟩=>(iO.1 hy).1);have hk':k'<k:=by
     rcases Zu k' k with e|e
     . exact e
     . exfalso;rcases Nat.eq_or_lt_of_le (show iv<=k' by omega) with e2|e2
       . subst e2;rw[hiv] at hy;cases hy;exact hnv hwy.symm
       . have hr:ReachI R w y:=by
          rcases hwy with rfl|hwy
          . have:=AZ hF.nd hiw hy;omega
          . exact hwy.1
         have:=hF.K iw iv k' w v y hiw hiv hy hlt e2 hr;exact hnv (.inr ⟨.one hwv,this⟩)
    have hyr:=(hF.mem y).1 (YB hy);have h1:=ih k' hk' y hy (fun j z hz hs'=>hmax j ⟨z,hz,hwy.trans hs'⟩);rw[<-(hH.same hwr hyr).2 hwy] at h1;have h2:atI hs w∉ts:=Y9 hwu;exact absurd h1 h2
 intro h hh;obtain⟨hhr,hhe⟩:=hH.mem.1 hh;obtain⟨i,hi⟩:=Zo.1 ((hF.mem h).2 hhr);obtain⟨k,⟨y,hy,hs'⟩,hmax⟩:=zn (P:=fun k=>∃y,out[k]?=some y∧SC R h y) out.length ⟨i,h,hi,.refl _⟩ (fun k ⟨y,hy,_⟩=>(iO.1 hy).1);have h1:=key k y hy (fun j z hz hsz=>hmax j ⟨z,hz,hs'.trans hsz⟩);have hyr:=(hF.mem y).1 (YB hy)
 rwa [<-(hH.same hhr hyr).2 hs',hhe] at h1
theorem KInv.zero {es:List Int} (hh:∀x∈hs,0<=x∧x.toNat<hs.length) (hnd:es.Nodup) (hes:∀h,h∈es↔h∈hs∧atI (bf R hs hs.length) h=0):KInv hs R hs.length [] (bf R hs hs.length) es:=by
 have hu:untold []=fun _=>true:=by funext y;simp[untold]
 have hw:∀h:Int,0<=h->h.toNat<hs.length->atI (bf R hs hs.length) h=wt hs R hs.length (untold []) h:=fun h h0 hn=>by rw[hu];exact(iX hh h0 hn hs.length (YJ _)).2
 have hl:(bf R hs hs.length).length=hs.length:=by
  cases e:hs with
  |nil=>rfl
  |cons a t=>obtain⟨a0,an⟩:=hh a (by rw[e];exact Zc ..);rw[<-e];exact(iX hh a0 an hs.length (YJ _)).1
 refine⟨hl,fun h h0 hn _=>hw h h0 hn,fun h hh'=>(by cases hh'),hnd,fun h=>?_,fun i g hi=>by simp at hi⟩;rw[hes];constructor
 . rintro⟨a,b⟩;obtain⟨h0,hn⟩:=hh h a;exact⟨a,A0j,by rw[<-hw h h0 hn];exact b⟩
 . rintro⟨a,_,b⟩;obtain⟨h0,hn⟩:=hh h a;exact⟨a,by rw[hw h h0 hn];exact b⟩
theorem LD {ts':List Int} (h:OrdOK hs R n ts) (h':OrdOK hs R n ts') (ha:∀g∈hs,g∈ts) (ha':∀g∈hs,g∈ts'):ts=ts':=by
 have step:∀k,ts.take k=ts'.take k->ts[k]?=ts'[k]?:=fun k he=>by
  cases e:ts[k]? with
  | some g=>
    obtain⟨a,b,c,d⟩:=h k g e;cases e':ts'[k]? with
    |some g'=>obtain⟨a',b',c',d'⟩:=h' k g' e';rw[<-he] at b' c' d';have h1:=d g' a' b' c';have h2:=d' g a b c;rw[show g=g' by omega]
    |none=>have hl:=abm.1 e';rw[he,YS hl] at b;exact absurd (ha' g a) b
  | none=>
    have hl:=abm.1 e;cases e':ts'[k]? with
    |some g'=>obtain⟨a',b',_,_⟩:=h' k g' e';rw[<-he,YS hl] at b';exact absurd (ha g' a') b'
    |none=>rfl
 have all:∀k,ts.take k=ts'.take k:=fun k=>by
  induction k with
  |zero=>rfl
  |succ k ih=>rw[aby,aby,ih,step k ih]
 refine ZO fun k=>step k (all k)
end Go.Proofs.YtmfojhkjbkombaaGreat

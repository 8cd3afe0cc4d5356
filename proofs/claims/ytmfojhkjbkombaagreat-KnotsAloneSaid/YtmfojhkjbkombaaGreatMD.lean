/- Chapter 12: which cells hang on which, plainly. No program is named here. -/
import Derived.Test.YtmfojhkjbkombaaGreatMG
import Derived.Test.YtmfojhkjbkombaaGreatMPB
import Derived.Test.YtmfojhkjbkombaaGreatMR
import Derived.Test.YtmfojhkjbkombaaGreatMT
namespace Go.Proofs.YtmfojhkjbkombaaGreat
set_option linter.unusedSimpArgs false
set_option maxHeartbeats 32000000
set_option maxRecDepth 100000
open Go Go.RowKit
attribute [go_sem] Tryz.results11 Tryz.results15
abbrev En:=C3×Bool×Nd×T3
def az (L:List En):List C3:=L.map fun e=>e.1
def kC (out:List En) (e:En):List En:=
 out.takeWhile (fun x=>ae x.1 e.1)++e::(match out.dropWhile (fun x=>ae x.1 e.1) with
  |x::r=>if x.1=e.1 then r else x::r
  |[]=>[])
def be (l:List En):List En:=l.foldl kC []
theorem og {e:En}:∀{l:List En},∀x∈l.takeWhile (fun x=>ae x.1 e.1),ae x.1 e.1=true
 |[],x,h=>by cases h
 | y ::l,x,h=>by
   cases hy:ae y.1 e.1 with
   | true=>
     simp only[List.takeWhile,hy] at h;rcases YT.1 h with rfl|h
     . exact hy
     . exact og x h
   |false=>simp only[List.takeWhile,hy] at h;cases h
theorem oh {e:En}:∀{l:List En},iD ae (az l)->∀x∈l.dropWhile (fun x=>ae x.1 e.1),ae x.1 e.1=false
 |[],_,x,h=>by cases h
 | y ::l,hs,x,h=>by
   have hs':=ZZ.1 (show(y.1::az l).Pairwise _ from hs);cases hy:ae y.1 e.1 with
   |true=>simp only[List.dropWhile,hy] at h;exact oh hs'.2 x h
   | false=>
     simp only[List.dropWhile,hy] at h;rcases YT.1 h with rfl|h
     . exact hy
     . cases hx:ae x.1 e.1 with
       |false=>rfl
       |true=>have h1:=hs'.1 x.1 (YR.2 ⟨x,h,rfl⟩);rw[bQ.trans _ _ _ h1 hx] at hy;cases hy
theorem vb {out:List En} {e:En} (hs:iD ae (az out)) {x:En}:x∈(match out.dropWhile (fun x=>ae x.1 e.1) with
 |x::r=>if x.1=e.1 then r else x::r
 |[]=>[])↔x∈out.dropWhile (fun x=>ae x.1 e.1)∧x.1≠e.1:=by
 have hd:=oh (e:=e) hs;have hsub:iD ae (az (out.dropWhile fun x=>ae x.1 e.1)):=aaQ ((List.dropWhile_sublist _).map _) hs;generalize out.dropWhile (fun x=>ae x.1 e.1)=r at hd hsub;cases r with
 |nil=>simp
 | cons y r=>
   have hp:=ZZ.1 (show(y.1::az r).Pairwise _ from hsub);have hne:∀z∈r,z.1≠e.1:=fun z hz ez=>by have h1:=hp.1 z.1 (YR.2 ⟨z,hz,rfl⟩);rw[ez] at h1;rw[hd y (Zc ..)] at h1;cases h1
   simp only;split
   . rename_i he;constructor
     . exact fun hx=>⟨YY _ hx,hne x hx⟩
     . rintro⟨hx,hn⟩;rcases YT.1 hx with rfl|hx
       . exact absurd he hn
       . exact hx
   . rename_i he;constructor
     . intro hx;refine⟨hx,?_⟩;rcases YT.1 hx with rfl|hx
       . exact he
       . exact hne x hx
     . exact fun hx=>hx.1
theorem KZ {out:List En} (hs:iD ae (az out)) (e:En):iD ae (az (kC out e)):=by
 have e0:=ZH (p:=fun x:En=>ae x.1 e.1) (l:=out);have hs2:iD ae (az (out.takeWhile (fun x=>ae x.1 e.1))++az (out.dropWhile fun x=>ae x.1 e.1)):=by unfold az at hs⊢;rw[<-Y4,e0];exact hs
 have h2:=ZS.1 hs2
 have hrest:∀x∈az (match out.dropWhile (fun x=>ae x.1 e.1) with
  |x::r=>if x.1=e.1 then r else x::r
  |[]=>[]),x∈az (out.dropWhile fun x=>ae x.1 e.1)∧ae e.1 x=true:=fun x hx=>by
  obtain⟨y,hy,rfl⟩:=YR.1 hx;obtain⟨h3,h4⟩:=(vb hs).1 hy;refine⟨YR.2 ⟨y,h3,rfl⟩,?_⟩;cases hl:ae e.1 y.1 with
  |true=>rfl
  |false=>exact absurd (bQ.tri _ _ hl (oh hs y h3)).symm h4
 have hr:iD ae (az (match out.dropWhile (fun x=>ae x.1 e.1) with
  |x::r=>if x.1=e.1 then r else x::r
  |[]=>[])):=by
  refine aaQ ?_ h2.2.1;unfold az;refine List.Sublist.map _ ?_;generalize out.dropWhile (fun x=>ae x.1 e.1)=r;cases r with
  |nil=>exact List.Sublist.refl _
  | cons y r=>
    simp only;split
    . exact List.sublist_cons_self _ _
    . exact List.Sublist.refl _
 unfold kC az;rw[Y4,Y0];refine ZS.2 ⟨h2.1,ZZ.2 ⟨fun x hx=>(hrest x hx).2,hr⟩,fun a ha b hb=>?_⟩;obtain⟨y,hy,rfl⟩:=YR.1 ha;rcases YT.1 hb with rfl|hb
 . exact og y hy
 . exact h2.2.2 _ ha _ (hrest b hb).1
theorem K0 {out:List En} (hs:iD ae (az out)) {e x:En}:x∈kC out e↔x=e∨x∈out∧x.1≠e.1:=by
 have e0:=ZH (p:=fun x:En=>ae x.1 e.1) (l:=out);have hm:x∈out↔x∈out.takeWhile (fun x=>ae x.1 e.1)∨x∈out.dropWhile (fun x=>ae x.1 e.1):=by rw[<-YM,e0]
 unfold kC;rw[YM,YT,vb hs,hm];constructor
 . rintro(h|h|h)
   . refine .inr ⟨.inl h,fun ee=>?_⟩;have:=og x h;rw[ee,bQ.irr] at this;cases this
   . exact .inl h
   . exact .inr ⟨.inr h.1,h.2⟩
 . rintro(h|⟨h|h,hn⟩)
   . exact .inr (.inl h)
   . exact .inl h
   . exact .inr (.inr ⟨h,hn⟩)
theorem K1 (out:List En) (e:En):(kC out e).length<=out.length+1:=by
 have e0:=aap List.length (ZH (p:=fun x:En=>ae x.1 e.1) (l:=out));unfold kC;rw[YD] at e0⊢;rw[YI];generalize out.dropWhile (fun x=>ae x.1 e.1)=r at e0;cases r with
 |nil=>simp only[Zd] at e0⊢;omega
 | cons y r=>
   simp only[YI] at e0;simp only;split
   . omega
   . rw[YI];omega
variable {l:List En}
theorem qb:∀{out:List En},iD ae (az out)->iD ae (az (l.foldl kC out))∧(l.foldl kC out).length<=out.length+l.length:=by
 induction l with
 |nil=>exact fun h=>⟨h,A0j⟩
 |cons e l ih=>intro out h;obtain⟨h1,h2⟩:=ih (KZ h e);have:=K1 out e;refine⟨h1,?_⟩;rw[ZR,YI];omega
theorem eM (l:List En):iD ae (az (be l)):=(qb List.Pairwise.nil).1
theorem vc (l:List En):(be l).length<=l.length:=by have:=(qb (l:=l) (out:=[]) List.Pairwise.nil).2;show(List.foldl kC [] l).length<=l.length;simpa using this
theorem qc (l:List En) (e:En):be (l++[e])=kC (be l) e:=by simp[be]
theorem oi (l:List En):∀x:En,x∈be l↔∃l1 l2,l=l1++x::l2∧∀y∈l2,y.1≠x.1:=by
 suffices h:∀(k:List En) (x:En),x∈be k.reverse↔∃l1 l2,k.reverse=l1++x::l2∧∀y∈l2,y.1≠x.1 by
  intro x;have:=h l.reverse x
  rwa [List.reverse_reverse] at this
 intro k
 induction k with
 |nil=>intro x;simp[be]
 | cons e k ih=>
   intro x;rw[List.reverse_cons,qc,K0 (eM _),ih x];constructor
   . rintro(rfl|⟨⟨l1,l2,h1,h2⟩,hn⟩)
     . exact⟨k.reverse,[],rfl,fun y hy=>by cases hy⟩
     . refine⟨l1,l2++[e],by rw[h1];simp,fun y hy=>?_⟩;rcases YM.1 hy with hy|hy
       . exact h2 y hy
       . rw[YF.1 hy];exact fun h=>hn h.symm
   . rintro⟨l1,l2,h1,h2⟩;rcases aa6 l2 with rfl|⟨l3,z,rfl⟩
     . have:=List.append_inj' h1 rfl;have h3:=this.2;simp only[Zb,Z7] at h3;exact .inl h3.symm
     . rw[aa7] at h1 h2;have h3:k.reverse++[e]=(l1++x::l3)++[z]:=by rw[h1];simp
       obtain⟨h4,h5⟩:=List.append_inj' h3 rfl;simp only[Zb,Z7] at h5;subst h5;exact .inr ⟨⟨l1,l3,h4,fun y hy=>h2 y (Zi _ hy)⟩,fun h=>h2 e (ZU _ (YF.2 rfl)) h.symm⟩
def dl (L:List En) (e:En):List C3:=if e.2.1=true then (aM e.2.2.1).filter (fun c=>mo (az L) c) else []
def oj (L:List En) (c:C3):List C3:=match L.find? (fun e=>eI e.1 c) with
 |some e=>dl L e
 |none=>[]
def readersD (L:List En) (c:C3):List C3:=(L.filter fun e=>mo (dl L e) c).map fun e=>e.1
inductive Hang (L:List En) (c:C3):C3->Prop
 |one {x:C3} (h:x∈readersD L c):Hang L c x
 |next {y x:C3} (h:Hang L c y) (h2:x∈readersD L y):Hang L c x
theorem yX (L:List En) (e:En):iD ae (dl L e):=by
 unfold dl;split
 . exact aaQ List.filter_sublist (pV _)
 . exact List.Pairwise.nil
variable {L:List En}
theorem vd {c x:C3}:x∈readersD L c↔∃e∈L,e.1=x∧c∈dl L e:=by
 unfold readersD;rw[YR];constructor
 . rintro⟨e,he,rfl⟩;obtain⟨h1,h2⟩:=Zq.1 he;exact⟨e,h1,rfl,ku.1 h2⟩
 . rintro⟨e,he,rfl,h⟩;exact⟨e,Zq.2 ⟨he,ku.2 h⟩,rfl⟩
theorem ve (hs:iD ae (az L)) (c:C3):iD ae (readersD L c):=aaQ (List.filter_sublist.map _) hs
theorem qd (hs:iD ae (az L)) {e f:En} (he:e∈L) (hf:f∈L) (h:e.1=f.1):e=f:=by
 induction L with
 |nil=>cases he
 | cons y L ih=>
   have hp:=ZZ.1 (show(y.1::az L).Pairwise _ from hs);have key:∀z∈L,y.1≠z.1:=fun z hz ez=>by have h1:=hp.1 z.1 (YR.2 ⟨z,hz,rfl⟩);rw[ez,bQ.irr] at h1;cases h1
   rcases YT.1 he with he1|he1
   . rcases YT.1 hf with hf1|hf1
     . rw[he1,hf1]
     . exact absurd (he1▸h) (key f hf1)
   . rcases YT.1 hf with hf1|hf1
     . exact absurd (hf1▸h.symm) (key e he1)
     . exact ih hp.2 he1 hf1
theorem qe (hs:iD ae (az L)) {e:En} (he:e∈L):oj L e.1=dl L e:=by
 unfold oj;cases hf:L.find? (fun x=>eI x.1 e.1) with
 |none=>have:=List.find?_eq_none.1 hf e he;exact absurd (Yz rfl) this
 |some f=>have h0:eI f.1 e.1=true:=List.find?_some (p:=fun x:En=>eI x.1 e.1) hf;have h1:f.1=e.1:=Y9 h0;have h2:=qd hs (List.mem_of_find?_eq_some hf) he h1;rw[h2]
def AM (L:List En) (c:C3) (l:List C3):Prop:=iD ae l∧(∀x∈readersD L c,x∈l)∧∀x∈l,Hang L c x
def rF (rs:List V) (b:Nat->Option (List V)):V->Prop
 | .ptr s 0=>(b s).map (List.map V.bare)=some rs
 |_=>False
def Ma (t:Tmp) (rs:List V):Out->St->Prop
 | .exit _,_=>False
 |_,st=>rF rs st.b (st.t t)
section
variable {E:Env} {n:Nat} {pm:Pm} {m0 m:Lim} {w0 w:World} {β:Nat->Nat} {st:St} {a:Act}
theorem vf (hE:EnvOK E) (hm:E.P.follows .mixedOrders=true) {f:FuncId} {fn:Func} {c:Code} {F:List V->Option V} {k:Nat} {t:Tmp} (hf:E.P.funcs[f]?=some fn) (hb:fn.body=some c)
 (hcall:∀args w,(callFunc f args).run E.P w= .ok (.enter f args) w) (hn:fn.ntmps=n) (hres:fn.results= #[.tmp t]) (hok:aY E.any n c=true) (hk:k<=n) (hn1:n<=1000)
 (hrun:∀us r,F us=some r->us.all V.dat=true->us.length=k∧∃rs,r= .ip rs∧run E c (start us) (Ma t rs)):Fun E f F:=by
 refine⟨hcall,fun m w vs us r hF hdat hr hj hg=>?_⟩;obtain⟨hl,rs,rfl,hrun⟩:=hrun us r hF hdat;have hrel:Rel E n ⟨[],id,[],[]⟩ m w m id (start us) {tmps:=vs++Array.replicate (fn.ntmps-vs.size) Go.undef,defers:=[]} w:=kS hn hk hn1 hl hdat hr hj hg;refine calls_of_wp hf hb (wp_mono (gq (hE.x (.inr A0j)) hm c _ _ _ _ _ _ hok hrel hrun) ?_);intro e a' w' hp;have done:∀st' m' β',rF rs st'.b (st'.t t)->Rel E n ⟨[],id,[],[]⟩ m w m' β' st' a' w'->a'.defers=[]∧∃v,(results fn a'.tmps).run E.P w'= .ok v w'∧∃v' m',Ending.returned v= .returned v'∧Rd m' w' v' (.ip rs)∧Below w.heap.size w w'∧∀blk,blk<w.heap.size->m' blk=m blk:=by
  intro st' m' β' h1 h2;unfold rF at h1;split at h1
  case h_2=>exact h1.elim
  rename_i s hp1;obtain⟨cs,h3,rfl⟩:=YE.1 h1;have hv:a'.tmps.getD t Go.undef= .pointer (some ⟨β' s,0,none⟩):=(hp1▸h2.tmps t:Rs m' w' β' _ (.ptr s 0)).ptr;obtain⟨hB,hge⟩:=h2.boxes s cs h3;have hge:w.heap.size<=β' s:=hge.elim id (fun h=>by cases h);refine⟨h2.defers,.pointer (some ⟨β' s,0,none⟩),?_,_,upd m' (β' s) none,rfl,hB.ip,h2.below.below,fun blk hb=>?_⟩
  . unfold results;rw[hres];have hv':a'.tmps[t]?.getD Go.undef= .pointer (some ⟨β' s,0,none⟩):=by rw[<-YZ];exact hv
    simp[hv']
  . rw[ag _ _ A0b];exact h2.mold.1 blk hb A0j
 cases e with
 |normal=>obtain⟨st',m',β',h1,h2⟩:=hp;exact done st' m' β' h1 h2
 |ret=>obtain⟨st',m',β',h1,h2⟩:=hp;exact done st' m' β' h1 h2
 |exit id=>obtain⟨st',m',β',h1,h2⟩:=hp;exact h1.elim
 |goto l=>exact hp.elim
 |panic ch=>exact hp.elim
 |outgrown=>exact hp.elim
end
attribute [go_sem] Ma rF
def cj (e:En):V:= .agg (.x (.string e.1.1):: .x (.int .i64 e.1.2.1):: .x (.int .i64 e.1.2.2):: .x (.bool e.2.1)::(iS e.2.2.1.hd (pM e.2.2.1)++[.x (.int .i64 e.2.2.2.1),.x (.int .i64 e.2.2.2.2.1),.x (.string e.2.2.2.2.2)]))
theorem AN (e:En):∃M:List V,cj e= .agg (.x (.string e.1.1):: .x (.int .i64 e.1.2.1):: .x (.int .i64 e.1.2.2):: .x (.bool e.2.1)::M)∧M.length=16:=⟨_,rfl,rfl⟩
theorem mC (a b:En) (e:cj a=cj b):a=b:=by
 obtain⟨⟨a1,a2,a3⟩,a4,n,a5,a6,a7⟩:=a;obtain⟨⟨b1,b2,b3⟩,b4,n',b5,b6,b7⟩:=b;simp only[cj,V.agg.injEq,Zb,V.x.injEq,Value.string.injEq,Value.int.injEq,Value.bool.injEq,aaU] at e;obtain⟨rfl,rfl,rfl,rfl,e⟩:=e;have h:=List.append_inj e rfl;have h2:=h.2;simp only[Zb,V.x.injEq,Value.string.injEq,Value.int.injEq,aaU,Z7] at h2;obtain⟨rfl,rfl,rfl⟩:=h2;have hn:aP n=aP n':=by rw[bv,bv,h.1]
 rw[kU _ _ hn]
abbrev RC:=Nat×List C3
def K2 (r:RC):V:= .sl r.2.isEmpty r.1 (r.2.map aa) none
theorem cF (a b:C3) (e:aa a=aa b):a=b:=by obtain⟨a1,a2,a3⟩:=a;obtain⟨b1,b2,b3⟩:=b;simp only[aa,V.agg.injEq,Zb,V.x.injEq,Value.int.injEq,Value.string.injEq,aaU,Z7] at e;obtain⟨rfl,rfl,rfl⟩:=e;rfl
theorem aZ {α β:Type} {f:α->β} (hf:∀a b,f a=f b->a=b):∀{l l':List α},l.map f=l'.map f->l=l'
 |[],[],_=>rfl
 |[],_::_,h=>by cases h
 |_::_,[],h=>by cases h
 |a::l,b::l',h=>by obtain⟨h1,h2⟩:=aag (show f a::l.map f=f b::l'.map f from h);rw[hf a b h1,aZ hf h2]
theorem K3 (a b:RC) (e:K2 a=K2 b):a=b:=by obtain⟨a1,a2⟩:=a;obtain⟨b1,b2⟩:=b;simp only[K2,V.sl.injEq,Z7] at e;obtain⟨_,rfl,h⟩:=e;rw[aZ cF h]
abbrev DP:=(Bool×Nat×List En)×(Bool×Nat×List RC)
def TA (p:DP):List V:=[.sl p.1.1 p.1.2.1 (p.1.2.2.map cj) none,.sl p.2.1 p.2.2.1 (p.2.2.2.map K2) none]
def Mb (p:DP):V:= .ip (TA p)
theorem K4 (p q:DP) (e:Mb p=Mb q):p=q:=by obtain⟨⟨a,b,c⟩,a',b',c'⟩:=p;obtain⟨⟨d,f,g⟩,d',f',g'⟩:=q;simp only[Mb,TA,V.ip.injEq,Zb,V.sl.injEq,Z7] at e;obtain⟨⟨rfl,rfl,h1⟩,rfl,rfl,h2⟩:=e;rw[aZ mC h1,aZ K3 h2]
def NY (p:DP):Prop:=(p.1.2.2≠[]->p.1.2.1=20)∧(p.2.2.2≠[]->p.2.2.1=1)∧p.2.2.2.map (fun r=>r.2)=p.1.2.2.map (dl p.1.2.2)∧p.1.2.2.length<=400∧iD ae (az p.1.2.2)∧∀r∈p.2.2.2,(r.2≠[]->r.1=3)∧r.2.length<=1000000
theorem SK {p:DP} (h:NY p) {i:Nat} (hi:i<p.1.2.2.length):∃e r,p.1.2.2[i]?=some e∧p.2.2.2[i]?=some r∧r.2=dl p.1.2.2 e∧(p.1.2.2.map cj)[((i:Nat):Int).toNat]?=some (cj e)∧(p.2.2.2.map K2)[((i:Nat):Int).toNat]?=some (K2 r)∧(r.2≠[]->r.1=3)∧r.2.length<=1000000:=by
 obtain⟨_,_,hm,_,_,hr⟩:=h;have hl:=aap List.length hm;rw[eq,eq] at hl;have hi2:i<p.2.2.2.length:=A0b
 have e1:p.1.2.2[i]?=some p.1.2.2[i]:=io hi;have e2:p.2.2.2[i]?=some p.2.2.2[i]:=io hi2;have h1:=aap (fun l=>l[i]?) hm;simp only[Io,e1,e2,Zk,Y8] at h1;refine⟨_,_,e1,e2,h1,?_,?_,hr _ (Y5 hi2)⟩
 . rw[tl,Io,e1];rfl
 . rw[tl,Io,e2];rfl
def gC (p:DP):List V:=[Mb p]
theorem Dj (p q:DP) (e:gC p=gC q):p=q:=K4 _ _ (aag e).1
def Mc (l:List C3):V:= .sl (l.map aa).isEmpty 3 (l.map aa) none
open Classical in
noncomputable def IN (p:DP):Option V:=if NY p then some (Mc (az p.1.2.2)) else none
theorem yY:cM 15 (FE gC IN):=by
 refine aT (E:=ba []) (k:=1) (bV _ trivial) A0a Tryz.func15 rfl (fun a w=>Tryz.call15 a w) Tryz.ntmps15 A0a A0c A0c ?_;intro us r hF hdat;obtain⟨⟨⟨nl,sz,L⟩,nr,zr,R⟩,hus,hG⟩:=bE hF;clear hF;subst hus;have hF:=hG;clear hG;unfold IN at hF;split at hF
 case isFalse=>cases hF
 rename_i hok;cases hF;clear hdat;refine⟨rfl,?_⟩;have hok0:=hok;obtain⟨hsz,hzr,hm,hl4,hs,hr⟩:=hok;simp only at hsz hzr hm hl4 hs hr;simp only[gC,Mb,TA,Mc];simp +decide (maxDischargeDepth:=200) only[go_sem,eq];refine ny 3 3 99 A0H ?_;refine bc (X:={p:Nat×Nat//p.1<=L.length}) (fun p=>[(0,.ip [.sl nl sz (L.map cj) none,.sl nr zr (R.map K2) none]),(3,.sl ((az (L.take p.1.1)).map aa).isEmpty 3 ((az (L.take p.1.1)).map aa) (some p.1.2)),(4,.x (.int .i64 ((p.1.1:Nat):Int)))]) (fun _=>[]) (fun p=>L.length-p.1.1) ⟨(0,99),Zf _⟩ A0Y A0e (fun⟨⟨i,tk⟩,hi0⟩=>?_);simp only at hi0⊢;by_cases hi:i<L.length
 . have c1:decide ((i:Int)<(L.length:Int))=true:=Yz A0b;have c2:(0:Int)<=(i:Int):=A0b
   have c4:=aD (i:=i) A0b;obtain⟨e,r,q1,q2,q3,q4,q5,q6,q7⟩:=SK hok0 hi;simp only at q1 q2 q3 q4 q5;obtain rfl:=hsz (fun h=>by rw[h] at hi;simp at hi);have e3:(az (L.take (i+1))).map aa=(az (L.take i)).map aa++[aa e.1]:=by unfold az;rw[aF q1,Y4,Y4];rfl
   have hal:((az (L.take i)).map aa).length<=400:=by unfold az;rw[eq,eq,YQ];omega
   generalize (az (L.take i)).map aa=al at e3 hal⊢;obtain⟨N,hN,lN⟩:=AN e;obtain⟨⟨cs,cc,cr⟩,ef,nd,vv⟩:=e;simp only at hN;rw[hN] at q4;simp only[bJ] at e3;have g1:=cZ (E:=ba []) (el:=37) (n:=3) ns nt nu A0c rfl (es:=al) (v:= .agg [.x (.string cs),.x (.int .i64 cc),.x (.int .i64 cr)]) rfl A0b A0b;simp +decide (maxDischargeDepth:=200) only[go_sem,eq,YI,lN,c1,c2,c4,q4,g1];refine⟨⟨(i+1,24),hi⟩,?_,?_,?_⟩
   . simp +decide (maxDischargeDepth:=200) only[go_sem,e3]
   . simp +decide (maxDischargeDepth:=200) only[go_sem]
   . simp only;omega
 . have c1:decide ((i:Int)<(L.length:Int))=false:=YA A0b;have e:L.take i=L:=YS A0b;rw[e];simp +decide (maxDischargeDepth:=200) only[go_sem,eq,c1]
def jz (p:(Bool×Nat×List En)×V):List V:=[.bx [.sl p.1.1 p.1.2.1 (p.1.2.2.map cj) none,p.2]]
theorem Dk (p q:(Bool×Nat×List En)×V) (e:jz p=jz q):p=q:=by obtain⟨⟨a,b,c⟩,u⟩:=p;obtain⟨⟨d,f,g⟩,u'⟩:=q;simp only[jz,Zb,V.bx.injEq,V.sl.injEq,Z7] at e;obtain⟨⟨rfl,rfl,h1⟩,rfl⟩:=e;rw[aZ mC h1]
open Classical in
noncomputable def NZ (p:(Bool×Nat×List En)×V):Option (V×List (List V)):=if (p.1.2.2≠[]->p.1.2.1=20)∧p.1.2.2.length<=400∧p.2= .sl true 0 [] none then some (Mc (az p.1.2.2),[[.sl p.1.1 p.1.2.1 (p.1.2.2.map cj) none,p.2]]) else none
theorem vg:Fe 15 (FE jz NZ):=by
 refine tj (E:=fE [] (fun _=>false) []) (k:=1) (Aj _ _ _ trivial trivial) (fun _ _=>rfl) A0a Tryz.func15 rfl (fun a w=>Tryz.call15 a w) Tryz.ntmps15 A0a A0c A0c ?_;intro us r outs hF;obtain⟨⟨⟨nl,sz,L⟩,u⟩,hus,hG⟩:=bE hF;clear hF;subst hus;have hF:=hG;clear hG;unfold NZ at hF;split at hF
 case isFalse=>cases hF
 rename_i hok;cases hF;obtain⟨hsz,hl4,hu⟩:=hok;simp only at hsz hl4 hu;subst hu;refine⟨rfl,?_⟩;simp only[jz,Mc];simp +decide (maxDischargeDepth:=200) only[go_sem,eq];refine ny 3 3 99 A0H ?_;refine bc (X:={p:Nat×Nat//p.1<=L.length}) (fun p=>[(0,.ptr 1000 0),(3,.sl ((az (L.take p.1.1)).map aa).isEmpty 3 ((az (L.take p.1.1)).map aa) (some p.1.2)),(4,.x (.int .i64 ((p.1.1:Nat):Int)))]) (fun _=>[(1000,[.sl nl sz (L.map cj) none,.sl true 0 [] none])]) (fun p=>L.length-p.1.1) ⟨(0,99),Zf _⟩ A0Y A0e (fun⟨⟨i,tk⟩,hi0⟩=>?_);simp only at hi0⊢;by_cases hi:i<L.length
 . have c1:decide ((i:Int)<(L.length:Int))=true:=Yz A0b;have c2:(0:Int)<=(i:Int):=A0b
   have c4:=aD (i:=i) A0b;have q1:L[i]?=some L[i]:=io hi;have q4:(L.map cj)[((i:Nat):Int).toNat]?=some (cj L[i]):=by rw[tl,Io,q1];rfl
   obtain rfl:=hsz (fun h=>by rw[h] at hi;simp at hi);have e3:(az (L.take (i+1))).map aa=(az (L.take i)).map aa++[aa L[i].1]:=by unfold az;rw[aF q1,Y4,Y4];rfl
   have hal:((az (L.take i)).map aa).length<=400:=by unfold az;rw[eq,eq,YQ];omega
   generalize (az (L.take i)).map aa=al at e3 hal⊢;generalize L[i]=e at q1 q4 e3;obtain⟨N,hN,lN⟩:=AN e;obtain⟨⟨cs,cc,cr⟩,ef,nd,vv⟩:=e;simp only at hN;rw[hN] at q4;simp only[bJ] at e3;have g1:=cZ (E:=fE [] (fun _=>false) []) (el:=37) (n:=3) ns nt nu A0c rfl (es:=al) (v:= .agg [.x (.string cs),.x (.int .i64 cc),.x (.int .i64 cr)]) rfl A0b A0b;simp +decide (maxDischargeDepth:=200) only[go_sem,eq,YI,lN,c1,c2,c4,q4,g1];refine⟨⟨(i+1,24),hi⟩,?_,?_,?_⟩
   . simp +decide (maxDischargeDepth:=200) only[go_sem,e3]
   . simp +decide (maxDischargeDepth:=200) only[go_sem]
   . simp only;omega
 . have c1:decide ((i:Int)<(L.length:Int))=false:=YA A0b;have e:L.take i=L:=YS A0b;rw[e];simp +decide (maxDischargeDepth:=200) only[go_sem,eq,c1]
abbrev ES:=Bool×Nat×List En
def ct (p:ES):List V:=[.sl p.1 p.2.1 (p.2.2.map cj) none]
theorem lq (p q:ES) (e:ct p=ct q):p=q:=by obtain⟨a,b,c⟩:=p;obtain⟨d,f,g⟩:=q;simp only[ct,Zb,V.sl.injEq,Z7] at e;obtain⟨rfl,rfl,h⟩:=e;rw[aZ mC h]
def K5 (p:ES):Prop:=(p.2.2≠[]->p.2.1=20)∧p.2.2.length<=400∧∀e∈p.2.2,nH e.2.2.1<=400
open Classical in
noncomputable def l9 (p:ES):Option V:=if K5 p then some (.sl ((be p.2.2).map cj).isEmpty 20 ((be p.2.2).map cj) none) else none
def Ov (L:List En) (e:En):RC:=(if e.2.1=true then 3 else 0,dl L e)
def Hl (L:List En) (e:En):V:=K2 (Ov L e)
def yZ (l:List En):DP:=((((be l).map cj).isEmpty,20,be l),(((be l).map (Hl (be l))).isEmpty,1,(be l).map (Ov (be l))))
open Classical in
noncomputable def ol (p:ES):Option V:=if K5 p then some (Mb (yZ p.2.2)) else none
theorem om {x:En} (h:x∈be l):x∈l:=by obtain⟨l1,l2,e,_⟩:=(oi l x).1 h;rw[e];exact ZU _ (Zc ..)
theorem K6 {p:ES} (h:K5 p):NY (yZ p.2.2):=by
 obtain⟨_,h2,h3⟩:=h;have hl:=vc p.2.2;refine⟨fun _=>rfl,fun _=>rfl,?_,by show(be p.2.2).length<=400;omega,eM _,fun r hr=>?_⟩
 . show((be p.2.2).map (Ov (be p.2.2))).map (fun r=>r.2)=_;rw[ZT];rfl
 . obtain⟨e,he,rfl⟩:=YR.1 (show r∈(be p.2.2).map (Ov (be p.2.2)) from hr);constructor
   . intro hne;unfold Ov at hne⊢;simp only at hne⊢;split
     . rfl
     . rename_i hf;unfold dl at hne;rw[YL hf] at hne;exact absurd rfl hne
   . show(dl _ e).length<=1000000;unfold dl;split
     . have h4:=Z5 (fun c=>mo (az (be p.2.2)) c) (aM e.2.2.1);have h5:=fv e.2.2.1;have h6:=h3 e (om he);omega
     . simp
theorem AO (e:En):∃N T:List V,cj e= .agg (.x (.string e.1.1):: .x (.int .i64 e.1.2.1):: .x (.int .i64 e.1.2.2):: .x (.bool e.2.1)::(N++T))∧N.length=13∧T.length=3∧aP e.2.2.1= .agg N∧(N++T).take 13=N:=
 ⟨iS e.2.2.1.hd (pM e.2.2.1),_,rfl,rfl,rfl,bv _,rfl⟩
theorem Hm (hLast:cM 27 (FE ct l9)):cM 11 (FE ct ol):=by
 refine vf (E:=aV [(27,(FE ct l9)),(28,(FE nJ f0)),(13,cb)] (fun _=>false) [(15,(FE jz NZ))] (fun i=>i==12) (fun _=>false)) (k:=1) (t:=2) (fQ _ _ _ _ _ ⟨hLast,CQ,uc,trivial⟩ ⟨vg,trivial⟩) A0a Tryz.func11 rfl (fun a w=>Tryz.call11 a w) Tryz.ntmps11 Tryz.results11 A0a A0c A0c ?_;intro us r hF hdat;obtain⟨⟨nl,sz,l⟩,hus,hG⟩:=bE hF;clear hF;subst hus;have hF:=hG;clear hG;unfold ol at hF;split at hF
 case isFalse=>cases hF
 rename_i hok;cases hF;clear hdat;have hla:FE ct l9 [.sl nl sz (l.map cj) none]=some (.sl ((be l).map cj).isEmpty 20 ((be l).map cj) none):=(cq lq _ (nl,sz,l)).trans (YG hok);obtain⟨hsz,hl4,hcn⟩:=hok;simp only at hsz hl4 hcn;have hcn2:∀e∈be l,nH e.2.2.1<=400:=fun e he=>hcn e (om he)
 have hll:=vc l;have hLs:=eM l;simp only[ct];unfold yZ;generalize be l=L at hla hcn2 hll hLs⊢;have hce:FE jz NZ [.bx [.sl (L.map cj).isEmpty 20 (L.map cj) none,.sl true 0 [] none]]=some (Mc (az L),[[.sl (L.map cj).isEmpty 20 (L.map cj) none,.sl true 0 [] none]]):=(cq Dk _ (((L.map cj).isEmpty,20,L),.sl true 0 [] none)).trans (YG ⟨fun _=>rfl,by simp only;omega,rfl⟩);have hrow:∀i:Nat,((L.take i).map (Hl L)).length<=400:=fun i=>by rw[eq,YQ];omega
 have hfin:L.map (Hl L)=(L.map (Ov L)).map K2:=by rw[ZT];rfl
 have hLe:(L.map cj).length=L.length:=eq _;have hAt:∀i e,L[i]?=some e->(L.map cj)[((i:Nat):Int).toNat]?=some (cj e):=fun i e h=>by rw[tl,Io,h];rfl
 refine⟨rfl,_,rfl,?_⟩
 . simp only[Mc] at hce;simp only[TA,hfin.symm];generalize hLE:L.map cj=LE at hla hce hLe hAt⊢;simp +decide (maxDischargeDepth:=200) only[go_sem,Nat.reduceBEq,hla,hce];refine Cn 12 1 98 [.sl LE.isEmpty 20 LE none] [] (by simp only[go_sem,Nat.reduceBEq];rfl) ?_;refine bc (X:={p:Nat×Nat//p.1<=L.length∧(p.2=98∨p.2=67)}) (fun p=>[(3,.ptr 12 0),(4,.sl ((az L).map aa).isEmpty 3 ((az L).map aa) none),(5,.x (.int .i64 ((p.1.1:Nat):Int)))]) (fun p=>[(12,[.sl LE.isEmpty 20 LE none,.sl ((L.take p.1.1).map (Hl L)).isEmpty 1 ((L.take p.1.1).map (Hl L)) (some p.1.2)])]) (fun p=>L.length-p.1.1) ⟨(0,98),Zf _,.inl rfl⟩ A0d (by simp +decide only[go_sem,Nat.reduceBEq,ZA,aah,List.isEmpty_nil]<;>(repeat' first|rfl|constructor)) (fun⟨⟨i,tk⟩,hi0,htk⟩=>?_);simp only at hi0 htk⊢;by_cases hi:i<L.length
   . have c1:decide ((i:Int)<(L.length:Int))=true:=Yz A0b;have c2:(0:Int)<=(i:Int):=A0b
     have c4:=aD (i:=i) A0b;have q1:L[i]?=some L[i]:=io hi;have q4:=hAt i _ q1;have e3:(L.take (i+1)).map (Hl L)=(L.take i).map (Hl L)++[Hl L L[i]]:=by rw[aF q1,Y4];rfl
     have hal:=hrow i;have hme:=YB q1;generalize (L.take i).map (Hl L)=al at e3 hal⊢;generalize L[i]=e at q1 q4 e3 hme;have hcnt:=hcn2 e hme;obtain⟨N,T,hN,lN,lT,hnd,tkN⟩:=AO e;obtain⟨⟨cs,cc,cr⟩,ef,nd,vv⟩:=e;simp only at hN hnd hcnt;rw[hN] at q4;have g2:∀(v:V),v.cells.all V.cell=true->∀(st:St) (d tok:Nat) (nl:Bool) (t':Option Nat),bq (aV [(27,(FE ct l9)),(28,(FE nJ f0)),(13,cb)] (fun _=>false) [(15,(FE jz NZ))] (fun i=>i==12) (fun _=>false)) st (some d) 30 (.sl al.isEmpty 1 al (some tok)) (.sl nl 1 [v] t')=_:=fun v hv=>cZ (E:=aV [(27,(FE ct l9)),(28,(FE nJ f0)),(13,cb)] (fun _=>false) [(15,(FE jz NZ))] (fun i=>i==12) (fun _=>false)) (el:=30) (n:=1) OW OX OY A0c rfl (es:=al) (v:=v) hv A0b A0b
     cases ef with
     | false=>
       have ev:Hl L ((cs,cc,cr),false,nd,vv)= .sl true 0 [] none:=rfl;rw[ev] at e3;have g3:=g2 (.sl true 0 [] none) rfl;simp +decide (maxDischargeDepth:=200) only[go_sem,Nat.reduceBEq,eq,YI,YD,lN,lT,hLe,c1,c2,c4,q4,g3];refine⟨⟨(i+1,67),hi,.inr rfl⟩,?_,?_,?_⟩
       . simp +decide (maxDischargeDepth:=200) only[go_sem,Nat.reduceBEq]
       . simp +decide (maxDischargeDepth:=200) only[go_sem,Nat.reduceBEq,e3]
       . simp only;omega
     | true=>
       have hrd:FE nJ f0 [.agg N]=some (.sl (aM nd).isEmpty (kJ (aM nd)) ((aM nd).map aa) none):=by rw[<-hnd];exact(cq tZ _ nd).trans (pU hcnt)
       have ev:Hl L ((cs,cc,cr),true,nd,vv)= .sl ((aM nd).filter fun c=>mo (az L) c).isEmpty 3 (((aM nd).filter fun c=>mo (az L) c).map aa) none:=rfl;have hr4:(aM nd).length<=160000:=by have:=fv nd;omega
       have hzO:aM nd≠[]->kJ (aM nd)=3:=fun h=>by
        unfold kJ;cases hh:aM nd with
        |nil=>exact absurd hh h
        |cons _ _=>rfl
       have hem:∀l:List C3,(l.map aa).isEmpty=l.isEmpty:=fun l=>by cases l<;>rfl
       rw[<-hem] at ev;rw[ev] at e3;generalize (aM nd).isEmpty=rn at hrd;generalize kJ (aM nd)=rz at hrd hzO;generalize aM nd=rs at hrd e3 hr4 hzO;simp +decide (maxDischargeDepth:=200) only[go_sem,Nat.reduceBEq,eq,YI,YD,lN,lT,hLe,c1,c2,c4,q4,tkN,hrd];refine ny 6 3 97 A0H ?_;refine bc (X:={p:Nat×Nat//p.1<=rs.length∧(p.2=97∨p.2=59)}) (fun p=>[(3,.ptr 12 0),(4,.sl ((az L).map aa).isEmpty 3 ((az L).map aa) none),(5,.x (.int .i64 ((i:Nat):Int))),(6,.sl (((rs.take p.1.1).filter fun c=>mo (az L) c).map aa).isEmpty 3 (((rs.take p.1.1).filter fun c=>mo (az L) c).map aa) (some p.1.2)),(7,.sl rn rz (rs.map aa) none),(8,.x (.int .i64 ((p.1.1:Nat):Int)))]) (fun _=>[(12,[.sl LE.isEmpty 20 LE none,.sl (al).isEmpty 1 (al) (some tk)])]) (fun p=>rs.length-p.1.1) ⟨(0,97),Zf _,.inl rfl⟩ (by simp +decide only[go_sem,Nat.reduceBEq,ZA,List.filter_nil,YO]<;>(repeat' first|rfl|constructor)) (by simp +decide only[go_sem,Nat.reduceBEq]<;>(repeat' first|rfl|constructor)) (fun⟨⟨k,tk2⟩,hk0,htk2⟩=>?_);simp only at hk0 htk2⊢;by_cases hk:k<rs.length
       . have f1:decide ((k:Int)<(rs.length:Int))=true:=Yz A0b;have f2:(0:Int)<=(k:Int):=A0b
         have f4:=aD (i:=k) A0b;obtain⟨z,hz⟩:∃z,rs[k]?=some z:=⟨_,io hk⟩;have hza:=dB hz;obtain rfl:=hzO (fun h=>by rw[h] at hk;simp at hk);have e5:((rs.take (k+1)).filter fun c=>mo (az L) c).map aa=((rs.take k).filter fun c=>mo (az L) c).map aa++(if mo (az L) z=true then [aa z] else []):=by rw[aF hz,List.filter_append,Y4];congr 1;simp only[aaN,List.filter_nil];split<;>rfl
         have hbl:(((rs.take k).filter fun c=>mo (az L) c).map aa).length<=160000:=by have:=Z5 (fun c=>mo (az L) c) (rs.take k);rw[YQ] at this;rw[eq];omega
         generalize ((rs.take k).filter fun c=>mo (az L) c).map aa=bl at e5 hbl⊢;obtain⟨zs,zc,zr⟩:=z;have hh:=ub (nl:=((az L).map aa).isEmpty) (sz:=3) (l:=az L) zs zc zr (by unfold az;rw[eq];omega) (.inl rfl);have hin:((az L).any fun p=>eI p (zs,zc,zr))=mo (az L) (zs,zc,zr):=rfl;rw[hin] at hh;simp only[bJ] at hza e5;have g1:=cZ (E:=aV [(27,(FE ct l9)),(28,(FE nJ f0)),(13,cb)] (fun _=>false) [(15,(FE jz NZ))] (fun i=>i==12) (fun _=>false)) (el:=37) (n:=3) ns nt nu A0c rfl (es:=bl) (v:= .agg [.x (.string zs),.x (.int .i64 zc),.x (.int .i64 zr)]) rfl A0b A0b;cases hb:mo (az L) (zs,zc,zr) with
         | true=>
           rw[hb] at hh e5;rw[YG rfl] at e5;simp +decide (maxDischargeDepth:=200) only[go_sem,Nat.reduceBEq,eq,f1,f2,f4,hza,hh,g1];refine⟨⟨(k+1,59),hk,.inr rfl⟩,?_,?_,?_⟩
           . simp +decide (maxDischargeDepth:=200) only[go_sem,Nat.reduceBEq,e5]
           . rcases htk with rfl|rfl<;>rcases htk2 with rfl|rfl<;>simp +decide (maxDischargeDepth:=200) only[go_sem,Nat.reduceBEq]
           . simp only;omega
         | false=>
           rw[hb] at hh e5;rw[YL A0c,Z9] at e5;simp +decide (maxDischargeDepth:=200) only[go_sem,Nat.reduceBEq,eq,f1,f2,f4,hza,hh];refine⟨⟨(k+1,tk2),hk,htk2⟩,?_,?_,?_⟩
           . simp +decide (maxDischargeDepth:=200) only[go_sem,Nat.reduceBEq,e5]
           . simp +decide (maxDischargeDepth:=200) only[go_sem,Nat.reduceBEq]
           . simp only;omega
       . have f1:decide ((k:Int)<(rs.length:Int))=false:=YA A0b;have e9:rs.take k=rs:=YS A0b;rw[e9];generalize (rs.filter fun c=>mo (az L) c).map aa=bl at e3⊢;have g3:=g2 (.sl bl.isEmpty 3 bl none) rfl;simp +decide (maxDischargeDepth:=200) only[go_sem,Nat.reduceBEq,eq,f1,c4,g3];refine⟨⟨(i+1,67),hi,.inr rfl⟩,?_,?_,?_⟩
         . simp +decide (maxDischargeDepth:=200) only[go_sem,Nat.reduceBEq]
         . simp +decide (maxDischargeDepth:=200) only[go_sem,Nat.reduceBEq,e3]
         . simp only;omega
   . have c1:decide ((i:Int)<(L.length:Int))=false:=YA A0b;have e:L.take i=L:=YS A0b;rw[e];simp +decide (maxDischargeDepth:=200) only[go_sem,Nat.reduceBEq,eq,hLe,c1]
end Go.Proofs.YtmfojhkjbkombaaGreat

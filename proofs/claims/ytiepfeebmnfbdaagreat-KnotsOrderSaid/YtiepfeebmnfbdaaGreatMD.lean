/- MD -/
import Derived.Test.YtiepfeebmnfbdaaGreatMG
namespace Go.Proofs.YtiepfeebmnfbdaaGreat
noncomputable section
open Tryz
set_option linter.unusedSimpArgs false
set_option maxHeartbeats 32000000
set_option maxRecDepth 100000
open Go Go.RowKit
attribute [go_sem] results8 results10 results11 results24
theorem Wt{P:Prop}(h:P:=by simp +decide only[go_sem]):P:=h
theorem Ws{P:Prop}(h:P:=by have c1:decide ((i:Int)<L.length)=false:=Io A0b;have e:L.take i=L:=ady A0b;rw[e];simp +decide only[go_sem,eq,c1]):P:=h
theorem Wr{P:Prop}(h:P:=by simp +decide only[go_sem,e3]):P:=h
abbrev En:=C3×Bool×Nd×T3
def ay(L:List En):List C3:=L.map fun e=>e.1
def mW(out:List En)(e:En):List En:=
 out.takeWhile (fun x=>ae x.1 e.1)++e::(match out.dropWhile (fun x=>ae x.1 e.1) with
  |x::r=>if x.1=e.1 then r else x::r
  |[]=>[])
def aS(l:List En):List En:=l.foldl mW []
theorem qH{e:En}:∀{l:List En},∀x∈l.takeWhile (fun x=>ae x.1 e.1),ae x.1 e.1=true
 |[],x,h=>by cases h
 | y ::l,x,h=>by
   cases hy:ae y.1 e.1 with
   | true=>
     simp only[List.takeWhile,hy] at h;rcases adA.1 h with rfl|h
     . exact hy
     . exact qH x h
   |false=>simp only[List.takeWhile,hy] at h;cases h
theorem qJ{e:En}:∀{l:List En},gB ae (ay l)->∀x∈l.dropWhile (fun x=>ae x.1 e.1),ae x.1 e.1=false
 |[],_,x,h=>by cases h
 | y ::l,hs,x,h=>by
   have hs':=aeO.1 (show(y.1::ay l).Pairwise _ from hs);cases hy:ae y.1 e.1 with
   |true=>simp only[List.dropWhile,hy] at h;exact qJ hs'.2 x h
   | false=>
     simp only[List.dropWhile,hy] at h;rcases adA.1 h with rfl|h
     . exact hy
     . cases hx:ae x.1 e.1 with
       |false=>rfl
       |true=>have h1:=hs'.1 x.1 (ads.2 ⟨x,h,rfl⟩);rw[bQ.trans _ _ _ h1 hx] at hy;cases hy
variable{e:En}
theorem yR{out:List En}(hs:gB ae (ay out)){x:En}:x∈(match out.dropWhile (fun x=>ae x.1 e.1) with
 |x::r=>if x.1=e.1 then r else x::r
 |[]=>[])↔x∈out.dropWhile (fun x=>ae x.1 e.1)∧x.1≠e.1:=by
 have hd:=qJ (e:=e) hs;have hsub:gB ae (ay (out.dropWhile fun x=>ae x.1 e.1)):=afb ((List.dropWhile_sublist _).map _) hs;generalize out.dropWhile (fun x=>ae x.1 e.1)=r at hd hsub;cases r with
 |nil=>simp
 | cons y r=>
   have hp:=aeO.1 (show(y.1::ay r).Pairwise _ from hsub);have hne:∀z∈r,z.1≠e.1:=fun z hz ez=>by have h1:=hp.1 z.1 (ads.2 ⟨z,hz,rfl⟩);rw[ez] at h1;rw[hd y (adP ..)] at h1;cases h1
   simp only;split
   . rename_i he;constructor
     . exact fun hx=>⟨adE _ hx,hne x hx⟩
     . rintro⟨hx,hn⟩;rcases adA.1 hx with rfl|hx
       . exact absurd he hn
       . exact hx
   . rename_i he;constructor
     . intro hx;refine⟨hx,?_⟩;rcases adA.1 hx with rfl|hx
       . exact he
       . exact hne x hx
     . exact fun hx=>hx.1
theorem Py{out:List En}(hs:gB ae (ay out))(e:En):gB ae (ay (mW out e)):=by
 have e0:=aeu (p:=fun x:En=>ae x.1 e.1) (l:=out);have hs2:gB ae (ay (out.takeWhile (fun x=>ae x.1 e.1))++ay (out.dropWhile fun x=>ae x.1 e.1)):=by unfold ay at hs⊢;rw[<-adK,e0];exact hs
 have h2:=aeF.1 hs2
 have hrest:∀x∈ay (match out.dropWhile (fun x=>ae x.1 e.1) with
  |x::r=>if x.1=e.1 then r else x::r
  |[]=>[]),x∈ay (out.dropWhile fun x=>ae x.1 e.1)∧ae e.1 x=true:=fun x hx=>by
  obtain⟨y,hy,rfl⟩:=ads.1 hx;obtain⟨h3,h4⟩:=(yR hs).1 hy;refine⟨ads.2 ⟨y,h3,rfl⟩,?_⟩;cases hl:ae e.1 y.1 with
  |true=>rfl
  |false=>exact absurd (bQ.tri _ _ hl (qJ hs y h3)).symm h4
 have hr:gB ae (ay (match out.dropWhile (fun x=>ae x.1 e.1) with
  |x::r=>if x.1=e.1 then r else x::r
  |[]=>[])):=by
  refine afb ?_ h2.2.1;unfold ay;refine List.Sublist.map _ ?_;generalize out.dropWhile (fun x=>ae x.1 e.1)=r;cases r with
  |nil=>exact List.Sublist.refl _
  | cons y r=>
    simp only;split
    . exact List.sublist_cons_self _ _
    . exact List.Sublist.refl _
 unfold mW ay;rw[adK,adL];refine aeF.2 ⟨h2.1,aeO.2 ⟨fun x hx=>(hrest x hx).2,hr⟩,fun a ha b hb=>?_⟩;obtain⟨y,hy,rfl⟩:=ads.1 ha;rcases adA.1 hb with rfl|hb
 . exact qH y hy
 . exact h2.2.2 _ ha _ (hrest b hb).1
theorem Pz{out:List En}(hs:gB ae (ay out)){e x:En}:x∈mW out e↔x=e∨x∈out∧x.1≠e.1:=by
 have e0:=aeu (p:=fun x:En=>ae x.1 e.1) (l:=out);have hm:x∈out↔x∈out.takeWhile (fun x=>ae x.1 e.1)∨x∈out.dropWhile (fun x=>ae x.1 e.1):=by rw[<-adv,e0]
 unfold mW;rw[adv,adA,yR hs,hm];constructor
 . rintro(h|h|h)
   . refine .inr ⟨.inl h,fun ee=>?_⟩;have:=qH x h;rw[ee,bQ.irr] at this;cases this
   . exact .inl h
   . exact .inr ⟨.inr h.1,h.2⟩
 . rintro(h|⟨h|h,hn⟩)
   . exact .inr (.inl h)
   . exact .inl h
   . exact .inr (.inr ⟨h,hn⟩)
theorem PA(out:List En)(e:En):(mW out e).length<=out.length+1:=by
 have e0:=ae6 List.length (aeu (p:=fun x:En=>ae x.1 e.1) (l:=out));unfold mW;rw[adh] at e0⊢;rw[adm];generalize out.dropWhile (fun x=>ae x.1 e.1)=r at e0;cases r with
 |nil=>simp only[adT] at e0⊢;omega
 | cons y r=>
   simp only[adm] at e0;simp only;split
   . omega
   . rw[adm];omega
theorem s6{l:List En}:∀{out:List En},gB ae (ay out)->gB ae (ay (l.foldl mW out))∧(l.foldl mW out).length<=out.length+l.length:=by
 induction l with
 |nil=>exact fun h=>⟨h,A0k⟩
 |cons e l ih=>intro out h;obtain⟨h1,h2⟩:=ih (Py h e);have:=PA out e;refine⟨h1,?_⟩;rw[aeh,adm];omega
theorem dy(l:List En):gB ae (ay (aS l)):=(s6 List.Pairwise.nil).1
theorem qK(l:List En):(aS l).length<=l.length:=by have:=(s6 (l:=l) (out:=[]) List.Pairwise.nil).2;show(List.foldl mW [] l).length<=l.length;simpa using this
theorem s8(l:List En)(e:En):aS (l++[e])=mW (aS l) e:=by simp[aS]
theorem yS(l:List En):∀x:En,x∈aS l↔∃l1 l2,l=l1++x::l2∧∀y∈l2,y.1≠x.1:=by
 suffices h:∀(k:List En) (x:En),x∈aS k.reverse↔∃l1 l2,k.reverse=l1++x::l2∧∀y∈l2,y.1≠x.1 by
  intro x;have:=h l.reverse x
  rwa [List.reverse_reverse] at this
 intro k
 induction k with
 |nil=>intro x;simp[aS]
 | cons e k ih=>
   intro x;rw[List.reverse_cons,s8,Pz (dy _),ih x];constructor
   . rintro(rfl|⟨⟨l1,l2,h1,h2⟩,hn⟩)
     . exact⟨k.reverse,[],rfl,fun y hy=>by cases hy⟩
     . refine⟨l1,l2++[e],by rw[h1];simp,fun y hy=>?_⟩;rcases adv.1 hy with hy|hy
       . exact h2 y hy
       . rw[adj.1 hy];exact fun h=>hn h.symm
   . rintro⟨l1,l2,h1,h2⟩;rcases af2 l2 with rfl|⟨l3,z,rfl⟩
     . have:=List.append_inj' h1 rfl;have h3:=this.2;simp only[adW,aeQ] at h3;exact .inl h3.symm
     . rw[af3] at h1 h2;have h3:k.reverse++[e]=(l1++x::l3)++[z]:=by rw[h1];simp
       obtain⟨h4,h5⟩:=List.append_inj' h3 rfl;simp only[adW,aeQ] at h5;subst h5;exact .inr ⟨⟨l1,l3,h4,fun y hy=>h2 y (ad2 _ hy)⟩,fun h=>h2 e (aeG _ (adj.2 rfl)) h.symm⟩
def bJ(L:List En)(e:En):List C3:=if e.2.1=true then (aD e.2.2.1).filter (fun c=>jr (ay L) c) else []
def ft(L:List En)(c:C3):List C3:=match L.find? (fun e=>eE e.1 c) with
 |some e=>bJ L e
 |none=>[]
def readersD(L:List En)(c:C3):List C3:=(L.filter fun e=>jr (bJ L e) c).map fun e=>e.1
inductive Hang (L:List En) (c:C3):C3->Prop
 |one {x:C3} (h:x∈readersD L c):Hang L c x
 |next {y x:C3} (h:Hang L c y) (h2:x∈readersD L y):Hang L c x
open Classical in
def fV(L:List En)(c:C3):List C3:=(ay L).filter fun x=>decide (Hang L c x)
variable{L:List En}{c:C3}
theorem GU(h:c∈bJ L e):c∈ay L:=by
 unfold bJ at h;split at h
 . exact fy.1 (adZ.1 h).2
 . cases h
theorem qL(L:List En)(e:En):gB ae (bJ L e):=by
 unfold bJ;split
 . exact afb afD (nI _)
 . exact List.Pairwise.nil
theorem kj{x:C3}:x∈readersD L c↔∃e∈L,e.1=x∧c∈bJ L e:=by
 unfold readersD;rw[ads];constructor
 . rintro⟨e,he,rfl⟩;obtain⟨h1,h2⟩:=adZ.1 he;exact⟨e,h1,rfl,fy.1 h2⟩
 . rintro⟨e,he,rfl,h⟩;exact⟨e,adZ.2 ⟨he,fy.2 h⟩,rfl⟩
theorem iz{x:C3}(h:x∈readersD L c):x∈ay L:=by obtain⟨e,he,rfl,_⟩:=kj.1 h;exact ads.2 ⟨e,he,rfl⟩
theorem km(hs:gB ae (ay L))(c:C3):gB ae (readersD L c):=afb (afD.map _) hs
theorem Eg{x:C3}(h:Hang L c x):x∈ay L:=by
 cases h with
 |one h=>exact iz h
 |next _ h=>exact iz h
theorem GV(hs:gB ae (ay L))(c:C3):gB ae (fV L c):=afb afD hs
open Classical in
theorem nX{x:C3}:x∈fV L c↔Hang L c x:=by unfold fV;rw[adZ,adS];exact⟨fun h=>h.2,fun h=>⟨Eg h,h⟩⟩
theorem Lo(hs:gB ae (ay L)){c:C3}{l:List C3}(hl:gB ae l)(h1:∀x∈readersD L c,x∈l)(h2:∀y∈l,∀x∈readersD L y,x∈l)(h3:∀x∈l,Hang L c x):l=fV L c:=
 l5 bQ hl (GV hs c) fun x=>⟨fun h=>nX.2 (h3 x h),fun h=>by
  have k:=nX.1 h;clear h
  induction k with
  |one k1=>exact h1 _ k1
  |next _ k2 ih=>exact h2 _ ih _ k2⟩
variable{y:C3}
theorem Co{x:C3}(h:y∈readersD L c)(h2:Hang L y x):Hang L c x:=by
 induction h2 with
 |one h3=>exact .next (.one h) h3
 |next _ h3 ih=>exact .next ih h3
theorem s9(hs:gB ae (ay L)){e f:En}(he:e∈L)(hf:f∈L)(h:e.1=f.1):e=f:=by
 induction L with
 |nil=>cases he
 | cons y L ih=>
   have hp:=aeO.1 (show(y.1::ay L).Pairwise _ from hs);have key:∀z∈L,y.1≠z.1:=fun z hz ez=>by have h1:=hp.1 z.1 (ads.2 ⟨z,hz,rfl⟩);rw[ez,bQ.irr] at h1;cases h1
   rcases adA.1 he with he1|he1
   . rcases adA.1 hf with hf1|hf1
     . rw[he1,hf1]
     . exact absurd (he1▸h) (key f hf1)
   . rcases adA.1 hf with hf1|hf1
     . exact absurd (hf1▸h.symm) (key e he1)
     . exact ih hp.2 he1 hf1
theorem jc(hs:gB ae (ay L)){e:En}(he:e∈L):ft L e.1=bJ L e:=by
 unfold ft;cases hf:L.find? (fun x=>eE x.1 e.1) with
 |none=>have:=List.find?_eq_none.1 hf e he;exact absurd (ac0 rfl) this
 |some f=>have h0:eE f.1 e.1=true:=List.find?_some (p:=fun x:En=>eE x.1 e.1) hf;have h1:f.1=e.1:=adQ h0;have h2:=s9 hs (List.mem_of_find?_eq_some hf) he h1;rw[h2]
theorem ta(h:c∉ay L):ft L c=[]:=by
 have e:L.find? (fun e=>eE e.1 c)=none:=List.find?_eq_none.2 fun x hx e=>h (ads.2 ⟨x,hx,adQ e⟩)
 unfold ft;rw[e]
theorem iK(hs:gB ae (ay L)){c x:C3}:c∈ft L x↔x∈readersD L c:=by
 rw[kj];constructor
 . intro h;by_cases hx:x∈ay L
   . obtain⟨e,he,rfl⟩:=ads.1 hx;rw[jc hs he] at h;exact⟨e,he,rfl,h⟩
   . rw[ta hx] at h;cases h
 . rintro⟨e,he,rfl,h⟩;rw[jc hs he];exact h
def ko(L:List En)(c:C3)(l:List C3):Prop:=gB ae l∧(∀x∈readersD L c,x∈l)∧∀x∈l,Hang L c x
variable{l:List C3}
theorem mX{m:List C3}(hl:gB ae l)(hm:gB ae m)(h:∀x∈l,x∈m):l.Sublist m:=by
 have e:l=m.filter fun x=>jr l x:=l5 bQ hl (afb afD hm) fun x=>⟨fun hx=>adZ.2 ⟨h x hx,fy.2 hx⟩,fun hx=>fy.1 (adZ.1 hx).2⟩
 rw[e];exact afD
theorem uO(hs:gB ae (ay L)){c:C3}{l:List C3}(h:ko L c l):l.length<=L.length:=by
 have h1:=(mX h.1 hs fun x hx=>Eg (h.2.2 x hx)).length_le;unfold ay at h1
 rwa [eq] at h1
theorem yT(h:ko L c l)(hy:y∈l):∀r:List C3,(∀x∈r,x∈readersD L y)->ko L c (r.foldl aM l):=fun r hr=>
 ⟨i6 r h.1,fun x hx=>(fK r l x).2 (.inl (h.2.1 x hx)),fun x hx=>by
  rcases(fK r l x).1 hx with hx|hx
  . exact h.2.2 x hx
  . exact .next (h.2.2 y hy) (hr x hx)⟩
theorem PB(hl:gB ae l)(r:List C3):l.length<=(r.foldl aM l).length:=(mX hl (i6 r hl) fun x hx=>(fK r l x).2 (.inl hx)).length_le
theorem GW(hl:gB ae l){r:List C3}(h:(r.foldl aM l).length=l.length):r.foldl aM l=l∧∀x∈r,x∈l:=by have e:=(mX hl (i6 r hl) fun x hx=>(fK r l x).2 (.inl hx)).eq_of_length h.symm;refine⟨e.symm,fun x hx=>?_⟩;rw[e];exact(fK r l x).2 (.inr hx)
theorem GX(hs:gB ae (ay L))(c:C3):ko L c (readersD L c):=⟨km hs c,fun _ h=>h,fun _ h=> .one h⟩
def uP(rs:U)(b:Nat->Option U):V->Prop
 | .ptr s 0=>(b s).map (List.map V.bare)=some rs
 |_=>False
def QW(t:Tmp)(rs:U):Out->St->Prop
 | .exit _,_=>False
 |_,st=>uP rs st.b (st.t t)
section
variable{E:Env}{n:Nat}{pm:Pm}{m0 m:Lim}{w0 w:World}{β:Nat->Nat}{st:St}{a:Act}
theorem yU(hE:EnvOK E)(hm:E.P.follows .mixedOrders=true){f:FuncId}{fn:Func}{c:Code}{F:U->Option V}{k:Nat}{t:Tmp}(hf:E.P.funcs[f]?=some fn)(hb:fn.body=some c)
 (hcall:∀args w,(callFunc f args).run E.P w= .ok (.enter f args) w) (hn:fn.ntmps=n) (hres:fn.results= #[.tmp t]) (hok:be E.any n c=true) (hk:k<=n) (hn1:n<=1000)
 (hrun:∀us r,F us=some r->us.all V.dat=true->us.length=k∧∃rs,r= .ip rs∧run E c (start us) (QW t rs)):Fun E f F:=by
 refine⟨hcall,fun m w vs us r hF hdat hr hj hg=>?_⟩;obtain⟨hl,rs,rfl,hrun⟩:=hrun us r hF hdat;have hrel:Rel E n ⟨[],id,[],[]⟩ m w m id (start us) {tmps:=vs++Array.replicate (fn.ntmps-vs.size) undef,defers:=[]} w:=nA hn hk hn1 hl hdat hr hj hg;refine calls_of_wp hf hb (wp_mono (iV (hE.x (.inr A0k)) hm c _ _ _ _ _ _ hok hrel hrun) ?_);intro e a' w' hp;have done:∀st' m' β',uP rs st'.b (st'.t t)->Rel E n ⟨[],id,[],[]⟩ m w m' β' st' a' w'->a'.defers=[]∧∃v,(results fn a'.tmps).run E.P w'= .ok v w'∧∃v' m',Ending.returned v= .returned v'∧Rd m' w' v' (.ip rs)∧Below w.heap.size w w'∧∀blk,blk<w.heap.size->m' blk=m blk:=by
  intro st' m' β' h1 h2;unfold uP at h1;split at h1
  case h_2=>exact h1.elim
  rename_i s hp1;obtain⟨cs,h3,rfl⟩:=adn.1 h1;have hv:a'.tmps.getD t undef= .pointer (some ⟨β' s,0,none⟩):=(hp1▸h2.tmps t:Rs m' w' β' _ (.ptr s 0)).ptr;obtain⟨hB,hge⟩:=h2.boxes s cs h3;have hge:w.heap.size<=β' s:=hge.elim id (fun h=>by cases h);refine⟨h2.defers,.pointer (some ⟨β' s,0,none⟩),?_,_,upd m' (β' s) none,rfl,hB.ip,h2.below.below,fun blk hb=>?_⟩
  . unfold results;rw[hres];have hv':a'.tmps[t]?.getD undef= .pointer (some ⟨β' s,0,none⟩):=by rw[<-adC];exact hv
    simp[hv']
  . rw[ah _ _ A0b];exact h2.mold.1 blk hb A0k
 cases e with
 |normal=>obtain⟨st',m',β',h1,h2⟩:=hp;exact done st' m' β' h1 h2
 |ret=>obtain⟨st',m',β',h1,h2⟩:=hp;exact done st' m' β' h1 h2
 |exit id=>obtain⟨st',m',β',h1,h2⟩:=hp;exact h1.elim
 |goto l=>exact hp.elim
 |panic ch=>exact hp.elim
 |outgrown=>exact hp.elim
end
attribute [go_sem] QW uP
def cj(e:En):V:= .agg (.x (.string e.1.1):: .i e.1.2.1:: .i e.1.2.2:: .bool e.2.1::(iJ e.2.2.1.hd (mL e.2.2.1)++[.i e.2.2.2.1,.i e.2.2.2.2.1,.x (.string e.2.2.2.2.2)]))
theorem o0(e:En):∃M:U,cj e= .agg (.x (.string e.1.1):: .i e.1.2.1:: .i e.1.2.2:: .bool e.2.1::M)∧M.length=16:=⟨_,rfl,rfl⟩
theorem o3(a b:En)(e:cj a=cj b):a=b:=by
 obtain⟨⟨a1,a2,a3⟩,a4,n,a5,a6,a7⟩:=a;obtain⟨⟨b1,b2,b3⟩,b4,n',b5,b6,b7⟩:=b;simp only[cj,V.agg.injEq,adW,V.x.injEq,Value.string.injEq,Value.int.injEq,Value.bool.injEq,afK] at e;obtain⟨rfl,rfl,rfl,rfl,e⟩:=e;have h:=List.append_inj e rfl;have h2:=h.2;simp only[adW,V.x.injEq,Value.string.injEq,Value.int.injEq,afK,aeQ] at h2;obtain⟨rfl,rfl,rfl⟩:=h2;have hn:ar n=ar n':=by rw[bm,bm,h.1]
 rw[kF _ _ hn]
abbrev RC:=Nat×List C3
def yV(r:RC):V:= .sl r.2.isEmpty r.1 (r.2.map aa) none
theorem cF(a b:C3)(e:aa a=aa b):a=b:=by obtain⟨a1,a2,a3⟩:=a;obtain⟨b1,b2,b3⟩:=b;simp only[aa,V.agg.injEq,adW,V.x.injEq,Value.int.injEq,Value.string.injEq,afK,aeQ] at e;obtain⟨rfl,rfl,rfl⟩:=e;rfl
theorem bn{α β:Type}{f:α->β}(hf:∀a b,f a=f b->a=b):∀{l l':List α},l.map f=l'.map f->l=l'
 |[],[],_=>rfl
 |[],_::_,h=>by cases h
 |_::_,[],h=>by cases h
 |a::l,b::l',h=>by obtain⟨h1,h2⟩:=aeC (show f a::l.map f=f b::l'.map f from h);rw[hf a b h1,bn hf h2]
theorem PC(a b:RC)(e:yV a=yV b):a=b:=by obtain⟨a1,a2⟩:=a;obtain⟨b1,b2⟩:=b;simp only[yV,V.sl.injEq,aeQ] at e;obtain⟨_,rfl,h⟩:=e;rw[bn cF h]
abbrev DP:=(Bool×Nat×List En)×(Bool×Nat×List RC)
def S8(p:DP):U:=[.sl p.1.1 p.1.2.1 (p.1.2.2.map cj) none,.sl p.2.1 p.2.2.1 (p.2.2.2.map yV) none]
def zZ(p:DP):V:= .ip (S8 p)
theorem Eh(p q:DP)(e:zZ p=zZ q):p=q:=by obtain⟨⟨a,b,c⟩,a',b',c'⟩:=p;obtain⟨⟨d,f,g⟩,d',f',g'⟩:=q;simp only[zZ,S8,V.ip.injEq,adW,V.sl.injEq,aeQ] at e;obtain⟨⟨rfl,rfl,h1⟩,rfl,rfl,h2⟩:=e;rw[bn o3 h1,bn PC h2]
def Cp(p:DP):Prop:=(p.1.2.2≠[]->p.1.2.1=20)∧(p.2.2.2≠[]->p.2.2.1=1)∧p.2.2.2.map (fun r=>r.2)=p.1.2.2.map (bJ p.1.2.2)∧p.1.2.2.length<=400∧gB ae (ay p.1.2.2)∧∀r∈p.2.2.2,(r.2≠[]->r.1=3)∧r.2.length<=1000000
variable{p:DP}
theorem Lp(h:Cp p){i:Nat}(hi:i<p.1.2.2.length):∃e r,p.1.2.2[i]?=some e∧p.2.2.2[i]?=some r∧r.2=bJ p.1.2.2 e∧(p.1.2.2.map cj)[(i:Int).toNat]?=some (cj e)∧(p.2.2.2.map yV)[(i:Int).toNat]?=some (yV r)∧(r.2≠[]->r.1=3)∧r.2.length<=1000000:=by
 obtain⟨_,_,hm,_,_,hr⟩:=h;have hl:=ae6 List.length hm;rw[eq,eq] at hl;have hi2:i<p.2.2.2.length:=A0b
 have e1:p.1.2.2[i]?=some p.1.2.2[i]:=io hi;have e2:p.2.2.2[i]?=some p.2.2.2[i]:=io hi2;have h1:=ae6 (fun l=>l[i]?) hm;simp only[ac9,e1,e2,aea,adO] at h1;refine⟨_,_,e1,e2,h1,?_,?_,hr _ (adR hi2)⟩
 . rw[tl,ac9,e1];rfl
 . rw[tl,ac9,e2];rfl
def kq(p:DP):U:=[zZ p]
theorem GY(p q:DP)(e:kq p=kq q):p=q:=Eh _ _ (aeC e).1
def dM(p:DP×C3):U:=[zZ p.1,aa p.2]
theorem nY(p q:DP×C3)(e:dM p=dM q):p=q:=by obtain⟨h1,h2⟩:=aeC e;exact Prod.ext (Eh _ _ h1) (cF _ _ (aeC h2).1)
def S9(e:En):V:=aa e.1
def vu(l:List C3):V:= .sl (l.map aa).isEmpty 3 (l.map aa) none
open Classical in
def MT(p:DP):Option V:=if Cp p then some (vu (ay p.1.2.2)) else none
open Classical in
def Yl(p:DP×C3):Option V:=if Cp p.1 then some (vu (readersD p.1.1.2.2 p.2)) else none
open Classical in
theorem Ta(h:Cp p):FE dM Yl [zZ p,aa c]=some (vu (readersD p.1.2.2 c)):=(ca nY _ (p,c)).trans (adl h)
open Classical in
def MU(p:DP×C3):Option V:=if Cp p.1 then some (vu (fV p.1.1.2.2 p.2)) else none
def yX(p:DP)(c:C3):V:=match (p.1.2.2.zip p.2.2.2).find? (fun q=>eE q.1.1 c) with
 |some q=>yV q.2
 |none=> .sl true 0 [] none
open Classical in
def MV(p:DP×C3):Option V:=if Cp p.1 then some (yX p.1 p.2) else none
theorem PE(L:List C3)(p:C3)(h:L.length<=900000):lx [vu L,.agg [.x (.string p.1),.i p.2.1,.i p.2.2]]=some (vu (aM L p)):=by
 obtain⟨s,c,r⟩:=p;unfold lx vu;simp only[iu];rw[adl ⟨h,.inl trivial⟩];by_cases hin:jr L (s,c,r)=true
 . have e:aM L (s,c,r)=L:=adl hin;rw[adl hin,e]
 . have e:aM L (s,c,r)=L.takeWhile (fun q=>ae q (s,c,r))++(s,c,r)::L.dropWhile (fun q=>ae q (s,c,r)):=adq hin;have e2:((aM L (s,c,r)).map aa).isEmpty=false:=by rw[e];cases L.takeWhile (fun q=>ae q (s,c,r))<;>rfl
   rw[adq hin,e2]
theorem Cq:cg 11 (FE kq MT):=by
 refine aE (E:=aI []) (k:=1) (aU _ trivial) A0a func11 rfl (fun a w=>call11 a w) ntmps11 A0a A0c A0c ?_;intro us r hF hdat;obtain⟨⟨⟨nl,sz,L⟩,nr,zr,R⟩,hus,hG⟩:=bh hF;subst hus;have hF:=hG;unfold MT at hF;split at hF
 case isFalse=>cases hF
 rename_i hok;cases hF;refine⟨rfl,?_⟩;have hok0:=hok;obtain⟨hsz,hzr,hm,hl4,hs,hr⟩:=hok;simp only at hsz hzr hm hl4 hs hr;simp only[kq,zZ,S8,vu];simp +decide only[go_sem,eq];refine j7 3 3 99 A0O ?_;refine aT (X:={p:Nat×Nat//p.1<=L.length}) (fun p=>[(0,.ip [.sl nl sz (L.map cj) none,.sl nr zr (R.map yV) none]),(3,.sl ((ay (L.take p.1.1)).map aa).isEmpty 3 ((ay (L.take p.1.1)).map aa) (some p.1.2)),(4,.i p.1.1)]) (fun _=>[]) (fun p=>L.length-p.1.1) ⟨(0,99),adN _⟩ A1d A0e (fun⟨⟨i,tk⟩,hi0⟩=>?_);simp only at hi0⊢;by_cases hi:i<L.length
 . have c1:decide ((i:Int)<L.length)=true:=ac0 A0b;have c2:(0:Int)<=(i:Int):=A0b
   have c4:=ax (i:=i) A0b;obtain⟨e,r,q1,q2,q3,q4,q5,q6,q7⟩:=Lp hok0 hi;simp only at q1 q2 q3 q4 q5;obtain rfl:=hsz (fun h=>by rw[h] at hi;simp at hi);have e3:(ay (L.take (i+1))).map aa=(ay (L.take i)).map aa++[aa e.1]:=by unfold ay;rw[aF q1,adK,adK];rfl
   have hal:((ay (L.take i)).map aa).length<=400:=by unfold ay;rw[eq,eq,adz];omega
   generalize (ay (L.take i)).map aa=al at e3 hal⊢;obtain⟨N,hN,lN⟩:=o0 e;obtain⟨⟨cs,cc,cr⟩,ef,nd,vv⟩:=e;simp only at hN;rw[hN] at q4;simp only[bw] at e3;have g1:=db (E:=aI []) (el:=33) (n:=3) mH mI mJ A0c rfl (es:=al) (v:= .agg [.x (.string cs),.i cc,.i cr]) rfl A0b A0b;simp +decide only[go_sem,eq,adm,lN,c1,c2,c4,q4,g1];refine⟨⟨(i+1,24),hi⟩,?_,?_,?_⟩
   . exact Wr
   . exact Wt
   . simp only;omega
 . exact Ws
abbrev Fh(ws wc wr):=([.x (.string ws),.i wc,.i wr]:List V)
theorem uQ:cg 24 (FE dM Yl):=by
 refine aE (E:=aI [(9,bT)]) (k:=2) (aU _ ⟨mO,trivial⟩) A0a func24 rfl (fun a w=>call24 a w) ntmps24 A0a A0c A0c ?_;intro us r hF hdat;obtain⟨⟨⟨⟨nl,sz,L⟩,nr,zr,R⟩,ws,wc,wr⟩,hus,hG⟩:=bh hF;subst hus;have hF:=hG;unfold Yl at hF;split at hF
 case isFalse=>cases hF
 rename_i hok;cases hF;refine⟨rfl,?_⟩;have hok0:=hok;obtain⟨hsz,hzr,hm,hl4,hs,hr⟩:=hok;simp only at hsz hzr hm hl4 hs hr;have hcx:aa (ws,wc,wr)= .agg (Fh ws wc wr):=rfl;simp only[dM,zZ,S8,vu,hcx];have hRl:R.length=L.length:=by have:=ae6 List.length hm;simpa using this
 simp +decide only[go_sem,eq];refine j7 5 3 99 A0O ?_;refine aT (X:={p:Nat×Nat//p.1<=L.length}) (fun p=>[(0,.ip [.sl nl sz (L.map cj) none,.sl nr zr (R.map yV) none]),(3,.ptr 3 0),(5,.sl (((L.take p.1.1).filter fun e=>jr (bJ L e) (ws,wc,wr)).map S9).isEmpty 3 (((L.take p.1.1).filter fun e=>jr (bJ L e) (ws,wc,wr)).map S9) (some p.1.2)),(6,.i p.1.1)]) (fun _=>[(3,(Fh ws wc wr))]) (fun p=>L.length-p.1.1) ⟨(0,99),adN _⟩ (by simp +decide only[go_sem,ad5,agE,adt]<;>(repeat' first|rfl|constructor)) A0e (fun⟨⟨i,tk⟩,hi0⟩=>?_);simp only at hi0⊢;by_cases hi:i<L.length
 . have c1:decide ((i:Int)<L.length)=true:=ac0 A0b;have c2:(0:Int)<=(i:Int):=A0b
   have c3:decide ((i:Int)<R.length)=true:=ac0 A0b;have c4:=ax (i:=i) A0b;obtain⟨e,r,q1,q2,q3,q4,q5,q6,q7⟩:=Lp hok0 hi;simp only at q1 q2 q3 q4 q5;obtain rfl:=hsz (fun h=>by rw[h] at hi;simp at hi);obtain rfl:=hzr (fun h=>by rw[h] at hRl;simp at hRl;omega)
   have hh:=mN (nl:=r.2.isEmpty) (sz:=r.1) (l:=r.2) ws wc wr q7 (by
    by_cases h:r.2=[]
    . exact .inr h
    . exact .inl (q6 h))
   have hin:(r.2.any fun p=>eE p (ws,wc,wr))=jr (bJ L e) (ws,wc,wr):=by rw[q3];rfl
   rw[hin] at hh;simp only[yV] at q5;have hft:(L.take (i+1)).filter (fun e=>jr (bJ L e) (ws,wc,wr))=(L.take i).filter (fun e=>jr (bJ L e) (ws,wc,wr))++(if jr (bJ L e) (ws,wc,wr)=true then [e] else []):=by rw[aF q1,afW];congr 1;simp only[afw,agE]
   have hal:(((L.take i).filter fun e=>jr (bJ L e) (ws,wc,wr)).map S9).length<=400:=by have:=aey (fun e=>jr (bJ L e) (ws,wc,wr)) (L.take i);rw[adz] at this;rw[eq];omega
   have e3:((L.take (i+1)).filter (fun e=>jr (bJ L e) (ws,wc,wr))).map S9=(((L.take i).filter fun e=>jr (bJ L e) (ws,wc,wr)).map S9)++(if jr (bJ L e) (ws,wc,wr)=true then [aa e.1] else []):=by rw[hft,adK];congr 1;split<;>rfl
   generalize ((L.take i).filter fun e=>jr (bJ L e) (ws,wc,wr)).map S9=al at e3 hal⊢;generalize r.2.map aa=rl at q5 hh;generalize r.2.isEmpty=rn at q5 hh;generalize r.1=rz at q5 hh;obtain⟨N,hN,lN⟩:=o0 e;obtain⟨⟨cs,cc,cr⟩,ef,nd,vv⟩:=e;simp only at hN;rw[hN] at q4;cases hb:jr (bJ L ((cs,cc,cr),ef,nd,vv)) (ws,wc,wr) with
   | true=>
     rw[hb] at hh e3;rw[adl rfl] at e3;simp only[bw] at e3;have g1:=db (E:=aI [(9,bT)]) (el:=33) (n:=3) mH mI mJ A0c rfl (es:=al) (v:= .agg [.x (.string cs),.i cc,.i cr]) rfl A0b A0b;simp +decide only[go_sem,eq,adm,lN,c1,c2,c3,c4,q4,q5,hh,g1];refine⟨⟨(i+1,35),hi⟩,?_,?_,?_⟩
     . exact Wr
     . exact Wt
     . simp only;omega
   | false=>
     rw[hb] at hh e3;rw[adq A0c,aep] at e3;simp +decide only[go_sem,eq,adm,lN,c1,c2,c3,c4,q4,q5,hh];refine⟨⟨(i+1,tk),hi⟩,?_,?_,?_⟩
     . exact Wr
     . exact Wt
     . simp only;omega
 . have c1:decide ((i:Int)<L.length)=false:=Io A0b;have e:L.take i=L:=ady A0b;rw[e];have e2:(readersD L (ws,wc,wr)).map aa=(L.filter fun e=>jr (bJ L e) (ws,wc,wr)).map S9:=by unfold readersD;rw[aes];rfl
   rw[e2];simp +decide only[go_sem,eq,c1]
theorem Cr:cg 10 (FE dM MU):=by
 refine aE (E:=aI [(24,(FE dM Yl)),(25,lx)]) (k:=2) (aU _ ⟨uQ,xr,trivial⟩) A0a func10 rfl (fun a w=>call10 a w) ntmps10 A0a A0c A0c ?_;intro us r hF hdat;obtain⟨⟨⟨⟨nl,sz,L⟩,nr,zr,R⟩,ws,wc,wr⟩,hus,hG⟩:=bh hF;subst hus;have hF:=hG;unfold MU at hF;split at hF
 case isFalse=>cases hF
 rename_i hok;cases hF;refine⟨rfl,?_⟩;have hrd:∀s c r,FE dM Yl [.ip [.sl nl sz (L.map cj) none,.sl nr zr (R.map yV) none],.agg [.x (.string s),.i c,.i r]]=some (.sl ((readersD L (s,c,r)).map aa).isEmpty 3 ((readersD L (s,c,r)).map aa) none):=fun s c r=>Ta (p:=((nl,sz,L),nr,zr,R)) (c:=(s,c,r)) hok
 have hin:∀(l:List C3),l.length<=400->∀s c r,lx [.sl ((l).map aa).isEmpty 3 ((l).map aa) none,.agg [.x (.string s),.i c,.i r]]=some (.sl ((aM l (s,c,r)).map aa).isEmpty 3 ((aM l (s,c,r)).map aa) none):=fun l h s c r=>PE l (s,c,r) A0b
 obtain⟨hsz,hzr,hm,hl4,hs,hr⟩:=hok;simp only at hsz hzr hm hl4 hs hr;have hcx:aa (ws,wc,wr)= .agg (Fh ws wc wr):=rfl;simp only[dM,zZ,S8,vu,hcx];generalize L.map cj=LV at hrd⊢;generalize R.map yV=RV at hrd⊢;have k0:=hrd ws wc wr;simp +decide only[go_sem,k0];refine aT (X:={p:List C3×Int//ko L (ws,wc,wr) p.1∧ -1<=p.2∧p.2<=(p.1.length:Int)∧(p.2=(p.1.length:Int)->∀y∈p.1,∀x∈readersD L y,x∈p.1)}) (fun p=>[(0,.ip [.sl nl sz LV none,.sl nr zr RV none]),(3,.ptr 3 0),(5,.sl ((p.1.1).map aa).isEmpty 3 ((p.1.1).map aa) none),(6,.i p.1.2)]) (fun _=>[(3,(Fh ws wc wr))]) (fun p=>((L.length:Int)-p.1.2).toNat) ⟨(readersD L (ws,wc,wr),-1),GX hs _,by simp only;omega,by simp only;omega,fun h=>by simp only at h;omega⟩ A0e A0e (fun⟨⟨l0,n⟩,hI,hn1,hn2,hcl⟩=>?_);simp only at hI hn1 hn2 hcl⊢;have hl0:=uO hs hI;by_cases hne:n=(l0.length:Int)
 . have d1:=ac0 hne;have e:=Lo hs hI.1 hI.2.1 (hcl hne) hI.2.2;rw[<-e];simp +decide only[go_sem,eq,d1]
 have d1:=Io hne;simp +decide only[go_sem,eq,d1];refine aT (X:={p:List C3×Nat//ko L (ws,wc,wr) p.1∧p.2<=l0.length∧l0.length<=p.1.length∧(p.1.length=l0.length->p.1=l0∧∀j,j<p.2->∀y,l0[j]?=some y->∀x∈readersD L y,x∈l0)}) (fun p=>[(0,.ip [.sl nl sz LV none,.sl nr zr RV none]),(3,.ptr 3 0),(5,.sl ((p.1.1).map aa).isEmpty 3 ((p.1.1).map aa) none),(6,.i l0.length),(7,.i p.1.2)]) (fun _=>[(3,(Fh ws wc wr))]) (fun p=>l0.length-p.1.2) ⟨(l0,0),hI,adN _,adp _,fun _=>⟨rfl,fun j hj=>absurd hj (afe _)⟩⟩ A0y A0e (fun⟨⟨l1,i⟩,hI1,hi1,hle1,hcl1⟩=>?_);simp only at hI1 hi1 hle1 hcl1⊢;have hl1:=uO hs hI1;by_cases hi:i<l0.length
 . have c1:decide ((i:Int)<l0.length)=true:=ac0 A0b;have c2:(0:Int)<=(i:Int):=A0b
   have c3:decide ((i:Int)<l1.length)=true:=ac0 A0b;have c4:=ax (i:=i) A0b;obtain⟨y,hy⟩:∃y,l1[i]?=some y:=⟨_,io A0b ⟩;have hyl:y∈l1:=adg hy;have hya:=cY hy;obtain⟨ys,yc,yr⟩:=y;simp only[bw] at hya;have k1:=hrd ys yc yr;simp +decide only[go_sem,eq,c1,c2,c3,hya,k1];have hrs:∀x∈readersD L (ys,yc,yr),x∈readersD L (ys,yc,yr):=fun _ h=>h
   have hrl:(readersD L (ys,yc,yr)).length<=L.length:=by
    have h1:=(mX (km hs (ys,yc,yr)) hs fun x hx=>iz hx).length_le;unfold ay at h1
    rwa [eq] at h1
   generalize hrr:readersD L (ys,yc,yr)=r at hrl;refine aT (X:={k:Nat//k<=r.length}) (fun k=>[(0,.ip [.sl nl sz LV none,.sl nr zr RV none]),(3,.ptr 3 0),(5,.sl (((r.take k.1).foldl aM l1).map aa).isEmpty 3 (((r.take k.1).foldl aM l1).map aa) none),(6,.i l0.length),(7,.i i),(8,.sl ((r).map aa).isEmpty 3 ((r).map aa) none),(9,.i k.1)]) (fun _=>[(3,(Fh ws wc wr))]) (fun k=>r.length-k.1) ⟨0,adN _⟩ (by simp +decide only[go_sem,ad5,afm,adt]<;>(repeat' first|rfl|constructor)) A0e (fun⟨k,hk0⟩=>?_);simp only at hk0⊢;by_cases hk:k<r.length
   . have f1:decide ((k:Int)<r.length)=true:=ac0 A0b;have f2:(0:Int)<=(k:Int):=A0b
     have f4:=ax (i:=k) A0b;obtain⟨z,hz⟩:∃z,r[k]?=some z:=⟨_,io hk⟩;have hza:=cY hz;have e3:(r.take (k+1)).foldl aM l1=aM ((r.take k).foldl aM l1) z:=by rw[aF hz,aeT];rfl
     have hIk:=yT hI1 hyl (r.take k) (fun x hx=>by rw[hrr];exact afL hx);have hlk:=uO hs hIk;obtain⟨zs,zc,zr'⟩:=z;simp only[bw] at hza;have q:=hin ((r.take k).foldl aM l1) A0b zs zc zr';rw[<-e3] at q;generalize (r.take k).foldl aM l1=lk at q⊢;simp +decide only[go_sem,eq,f1,f2,f4,hza,q];refine⟨⟨k+1,hk⟩,?_,?_,?_⟩
     . exact Wt
     . exact Wt
     . simp only;omega
   . have f1:decide ((k:Int)<r.length)=false:=Io A0b;have e9:r.take k=r:=ady A0b;rw[e9];have hIr:=yT hI1 hyl r (fun x hx=>by rw[hrr];exact hx);have hle2:=PB hI1.1 r;simp +decide only[go_sem,eq,f1,c4];refine⟨⟨(r.foldl aM l1,i+1),hIr,by simp only;omega,by simp only;omega,fun h=>?_⟩,?_,?_,?_⟩
     . simp only at h⊢;obtain⟨e4,e5⟩:=hcl1 A0b;obtain⟨e6,e7⟩:=GW hI1.1 (r:=r) A0b;refine⟨e6.trans e4,fun j hj y' hy' x hx=>?_⟩;by_cases hji:j=i
       . subst hji;rw[e4,hy'] at hy;cases hy;rw[<-e4];exact e7 x (by rw[<-hrr];exact hx)
       . exact e5 j A0b y' hy' x hx
     . exact Wt
     . exact Wt
     . simp only;omega
 . have c1:decide ((i:Int)<l0.length)=false:=Io A0b;simp +decide only[go_sem,eq,c1];refine⟨⟨(l1,(l0.length:Int)),hI1,by simp only;omega,by simp only;omega,fun h=>?_⟩,?_,?_,?_⟩
   . simp only at h⊢;obtain⟨e4,e5⟩:=hcl1 A0b;rw[e4];intro y hy x hx;obtain⟨j,hj⟩:=aen hy;have hjl:j<l0.length:=(iO.1 hj).1;exact e5 j A0b y hj x hx
   . exact Wt
   . exact Wt
   . simp only;omega
theorem Tb{R:List RC}{i:Nat}{r:RC}(h1:L[i]?=some e)(h2:R[i]?=some r):(L.zip R).drop i=(e,r)::(L.zip R).drop (i+1):=by have h:(L.zip R)[i]?=some (e,r):=afn.2 ⟨h1,h2⟩;obtain⟨hlt,he⟩:=iO.1 h;rw[afl hlt,he]
theorem Ct:cg 8 (FE dM MV):=by
 refine aE (E:=aI []) (k:=2) (aU _ trivial) A0a func8 rfl (fun a w=>call8 a w) ntmps8 A0a A0c A0c ?_;intro us r hF hdat;obtain⟨⟨⟨⟨nl,sz,L⟩,nr,zr,R⟩,ws,wc,wr⟩,hus,hG⟩:=bh hF;subst hus;have hF:=hG;unfold MV at hF;split at hF
 case isFalse=>cases hF
 rename_i hok;cases hF;refine⟨rfl,?_⟩;have hok0:=hok;obtain⟨hsz,hzr,hm,hl4,hs,hr⟩:=hok;simp only at hsz hzr hm hl4 hs hr;have hcx:aa (ws,wc,wr)= .agg (Fh ws wc wr):=rfl;simp only[dM,zZ,S8,hcx];have hRl:R.length=L.length:=by have:=ae6 List.length hm;simpa using this
 have hrv:yX ((nl,sz,L),nr,zr,R) (ws,wc,wr)=match (L.zip R).find? (fun q=>eE q.1.1 (ws,wc,wr)) with
  |some q=>yV q.2
  |none=> .sl true 0 [] none:=rfl
 rw[hrv];simp +decide only[go_sem,eq];refine aT (X:={i:Nat//i<=L.length∧((L.zip R).drop i).find? (fun q=>eE q.1.1 (ws,wc,wr))=(L.zip R).find? (fun q=>eE q.1.1 (ws,wc,wr))}) (fun i=>[(0,.ip [.sl nl sz (L.map cj) none,.sl nr zr (R.map yV) none]),(3,.ptr 3 0),(5,.i i.1)]) (fun _=>[(3,(Fh ws wc wr))]) (fun i=>L.length-i.1) ⟨0,adN _,rfl⟩ A0y A0e (fun⟨i,hi0,hat⟩=>?_);simp only at hi0 hat⊢;by_cases hi:i<L.length
 . have c1:decide ((i:Int)<L.length)=true:=ac0 A0b;have c2:(0:Int)<=(i:Int):=A0b
   have c3:decide ((i:Int)<R.length)=true:=ac0 A0b;have c4:=ax (i:=i) A0b;obtain⟨e,r,q1,q2,q3,q4,q5,q6,q7⟩:=Lp hok0 hi;simp only at q1 q2 q3 q4 q5;obtain rfl:=hsz (fun h=>by rw[h] at hi;simp at hi);obtain rfl:=hzr (fun h=>by rw[h] at hRl;simp at hRl;omega);rw[Tb q1 q2] at hat;obtain⟨N,hN,lN⟩:=o0 e;obtain⟨⟨cs,cc,cr⟩,ef,nd,vv⟩:=e;simp only at hN;rw[hN] at q4;cases hb:eE (cs,cc,cr) (ws,wc,wr) with
   |true=>simp only[agF,hb] at hat;rw[<-hat];simp only[yV] at q5⊢;generalize r.2.map aa=rl at q5⊢;generalize r.2.isEmpty=rn at q5⊢;generalize r.1=rz at q5⊢;simp +decide only[go_sem,eq,adm,lN,c1,c2,c3,q4,q5,Sy,hb]
   | false=>
     simp only[agF,hb] at hat;simp +decide only[go_sem,eq,adm,lN,c1,c2,c3,c4,q4,Sy,hb];refine⟨⟨i+1,hi,hat⟩,?_,?_,?_⟩
     . exact Wt
     . exact Wt
     . simp only;omega
 . have c1:decide ((i:Int)<L.length)=false:=Io A0b;have hz:(L.zip R).drop i=[]:=List.drop_eq_nil_of_le (by rw[List.length_zip];omega);rw[hz,List.find?_nil] at hat;rw[<-hat];simp +decide only[go_sem,eq,c1]
def lz(p:(Bool×Nat×List En)×V):U:=[.bx [.sl p.1.1 p.1.2.1 (p.1.2.2.map cj) none,p.2]]
theorem GZ(p q:(Bool×Nat×List En)×V)(e:lz p=lz q):p=q:=by obtain⟨⟨a,b,c⟩,u⟩:=p;obtain⟨⟨d,f,g⟩,u'⟩:=q;simp only[lz,adW,V.bx.injEq,V.sl.injEq,aeQ] at e;obtain⟨⟨rfl,rfl,h1⟩,rfl⟩:=e;rw[bn o3 h1]
open Classical in
def Tc(p:(Bool×Nat×List En)×V):Option (V×List U):=if (p.1.2.2≠[]->p.1.2.1=20)∧p.1.2.2.length<=400∧p.2= .sl true 0 [] none then some (vu (ay p.1.2.2),[[.sl p.1.1 p.1.2.1 (p.1.2.2.map cj) none,p.2]]) else none
theorem yY:I4 11 (FE lz Tc):=by
 refine wC (E:=gZ [] (fun _=>false) []) (k:=1) (DB _ _ _ trivial trivial) (fun _ _=>rfl) A0a func11 rfl (fun a w=>call11 a w) ntmps11 A0a A0c A0c ?_;intro us r outs hF;obtain⟨⟨⟨nl,sz,L⟩,u⟩,hus,hG⟩:=bh hF;subst hus;have hF:=hG;unfold Tc at hF;split at hF
 case isFalse=>cases hF
 rename_i hok;cases hF;obtain⟨hsz,hl4,hu⟩:=hok;simp only at hsz hl4 hu;subst hu;refine⟨rfl,?_⟩;simp only[lz,vu];simp +decide only[go_sem,eq];refine j7 3 3 99 A0O ?_;refine aT (X:={p:Nat×Nat//p.1<=L.length}) (fun p=>[(0,.ptr 1000 0),(3,.sl ((ay (L.take p.1.1)).map aa).isEmpty 3 ((ay (L.take p.1.1)).map aa) (some p.1.2)),(4,.i p.1.1)]) (fun _=>[(1000,[.sl nl sz (L.map cj) none,.sl true 0 [] none])]) (fun p=>L.length-p.1.1) ⟨(0,99),adN _⟩ A1d A0e (fun⟨⟨i,tk⟩,hi0⟩=>?_);simp only at hi0⊢;by_cases hi:i<L.length
 . have c1:decide ((i:Int)<L.length)=true:=ac0 A0b;have c2:(0:Int)<=(i:Int):=A0b
   have c4:=ax (i:=i) A0b;have q1:L[i]?=some L[i]:=io hi;have q4:(L.map cj)[(i:Int).toNat]?=some (cj L[i]):=by rw[tl,ac9,q1];rfl
   obtain rfl:=hsz (fun h=>by rw[h] at hi;simp at hi);have e3:(ay (L.take (i+1))).map aa=(ay (L.take i)).map aa++[aa L[i].1]:=by unfold ay;rw[aF q1,adK,adK];rfl
   have hal:((ay (L.take i)).map aa).length<=400:=by unfold ay;rw[eq,eq,adz];omega
   generalize (ay (L.take i)).map aa=al at e3 hal⊢;generalize L[i]=e at q1 q4 e3;obtain⟨N,hN,lN⟩:=o0 e;obtain⟨⟨cs,cc,cr⟩,ef,nd,vv⟩:=e;simp only at hN;rw[hN] at q4;simp only[bw] at e3;have g1:=db (E:=gZ [] (fun _=>false) []) (el:=33) (n:=3) mH mI mJ A0c rfl (es:=al) (v:= .agg [.x (.string cs),.i cc,.i cr]) rfl A0b A0b;simp +decide only[go_sem,eq,adm,lN,c1,c2,c4,q4,g1];refine⟨⟨(i+1,24),hi⟩,?_,?_,?_⟩
   . exact Wr
   . exact Wt
   . simp only;omega
 . exact Ws
abbrev ES:=Bool×Nat×List En
def cd(p:ES):U:=[.sl p.1 p.2.1 (p.2.2.map cj) none]
theorem jd(p q:ES)(e:cd p=cd q):p=q:=by obtain⟨a,b,c⟩:=p;obtain⟨d,f,g⟩:=q;simp only[cd,adW,V.sl.injEq,aeQ] at e;obtain⟨rfl,rfl,h⟩:=e;rw[bn o3 h]
def Lq(p:ES):Prop:=(p.2.2≠[]->p.2.1=20)∧p.2.2.length<=400∧∀e∈p.2.2,lw e.2.2.1<=400
open Classical in
def oE(p:ES):Option V:=if Lq p then some (.sl ((aS p.2.2).map cj).isEmpty 20 ((aS p.2.2).map cj) none) else none
def Td(L:List En)(e:En):RC:=(if e.2.1=true then 3 else 0,bJ L e)
def Lr(L:List En)(e:En):V:=yV (Td L e)
def mb(l:List En):DP:=((((aS l).map cj).isEmpty,20,aS l),(((aS l).map (Lr (aS l))).isEmpty,1,(aS l).map (Td (aS l))))
open Classical in
def qM(p:ES):Option V:=if Lq p then some (zZ (mb p.2.2)) else none
theorem qN{l:List En}{x:En}(h:x∈aS l):x∈l:=by obtain⟨l1,l2,e,_⟩:=(yS l x).1 h;rw[e];exact aeG _ (adP ..)
theorem PF{p:ES}(h:Lq p):Cp (mb p.2.2):=by
 obtain⟨_,h2,h3⟩:=h;have hl:=qK p.2.2;refine⟨fun _=>rfl,fun _=>rfl,?_,by show(aS p.2.2).length<=400;omega,dy _,fun r hr=>?_⟩
 . show((aS p.2.2).map (Td (aS p.2.2))).map (fun r=>r.2)=_;rw[aes];rfl
 . obtain⟨e,he,rfl⟩:=ads.1 (show r∈(aS p.2.2).map (Td (aS p.2.2)) from hr);constructor
   . intro hne;unfold Td at hne⊢;simp only at hne⊢;split
     . rfl
     . rename_i hf;unfold bJ at hne;rw[adq hf] at hne;exact absurd rfl hne
   . show(bJ _ e).length<=1000000;unfold bJ;split
     . have h4:=aey (fun c=>jr (ay (aS p.2.2)) c) (aD e.2.2.1);have h5:=fl e.2.2.1;have h6:=h3 e (qN he);omega
     . simp
theorem Ei(e:En):∃N T:U,cj e= .agg (.x (.string e.1.1):: .i e.1.2.1:: .i e.1.2.2:: .bool e.2.1::(N++T))∧N.length=13∧T.length=3∧ar e.2.2.1= .agg N∧(N++T).take 13=N:=
 ⟨iJ e.2.2.1.hd (mL e.2.2.1),_,rfl,rfl,rfl,bm _,rfl⟩
theorem Lt(hLast:cg 13 (FE cd oE)):cg 6 (FE cd qM):=by
 refine yU (E:=aY [(13,(FE cd oE)),(14,(FE dS fa)),(9,bT)] (fun _=>false) [(11,(FE lz Tc))] (fun i=>i==12) (fun _=>false)) (k:=1) (t:=2) (ge _ _ _ _ _ ⟨hLast,Gq,mO,trivial⟩ ⟨yY,trivial⟩) A0a func6 rfl (fun a w=>call6 a w) ntmps6 results6 A0a A0c A0c ?_;intro us r hF hdat;obtain⟨⟨nl,sz,l⟩,hus,hG⟩:=bh hF;subst hus;have hF:=hG;unfold qM at hF;split at hF
 case isFalse=>cases hF
 rename_i hok;cases hF;have hla:FE cd oE [.sl nl sz (l.map cj) none]=some (.sl ((aS l).map cj).isEmpty 20 ((aS l).map cj) none):=(ca jd _ (nl,sz,l)).trans (adl hok);obtain⟨hsz,hl4,hcn⟩:=hok;simp only at hsz hl4 hcn;have hcn2:∀e∈aS l,lw e.2.2.1<=400:=fun e he=>hcn e (qN he)
 have hll:=qK l;have hLs:=dy l;simp only[cd];unfold mb;generalize aS l=L at hla hcn2 hll hLs⊢;have hce:FE lz Tc [.bx [.sl (L.map cj).isEmpty 20 (L.map cj) none,.sl true 0 [] none]]=some (vu (ay L),[[.sl (L.map cj).isEmpty 20 (L.map cj) none,.sl true 0 [] none]]):=(ca GZ _ (((L.map cj).isEmpty,20,L),.sl true 0 [] none)).trans (adl ⟨fun _=>rfl,by simp only;omega,rfl⟩);have hrow:∀i:Nat,((L.take i).map (Lr L)).length<=400:=fun i=>by rw[eq,adz];omega
 have hfin:L.map (Lr L)=(L.map (Td L)).map yV:=by rw[aes];rfl
 have hLe:(L.map cj).length=L.length:=eq _;have hAt:∀(i:Nat) e,L[i]?=some e->(L.map cj)[(i:Int).toNat]?=some (cj e):=fun i e h=>by rw[tl,ac9,h];rfl
 refine⟨rfl,_,rfl,?_⟩
 . simp only[vu] at hce;simp only[S8,hfin.symm];generalize hLE:L.map cj=LE at hla hce hLe hAt⊢;simp +decide (maxDischargeDepth:=200) only[go_sem,hla,hce];refine FZ 12 1 98 [.sl LE.isEmpty 20 LE none] [] (by simp only[go_sem];rfl) ?_;refine aT (X:={p:Nat×Nat//p.1<=L.length∧(p.2=98∨p.2=67)}) (fun p=>[(3,.ptr 12 0),(4,.sl ((ay L).map aa).isEmpty 3 ((ay L).map aa) none),(5,.i p.1.1)]) (fun p=>[(12,[.sl LE.isEmpty 20 LE none,.sl ((L.take p.1.1).map (Lr L)).isEmpty 1 ((L.take p.1.1).map (Lr L)) (some p.1.2)])]) (fun p=>L.length-p.1.1) ⟨(0,98),adN _,.inl rfl⟩ A0f (by simp +decide only[go_sem,ad5,afr,agy]<;>(repeat' first|rfl|constructor)) (fun⟨⟨i,tk⟩,hi0,htk⟩=>?_);simp only at hi0 htk⊢;by_cases hi:i<L.length
   . have c1:decide ((i:Int)<L.length)=true:=ac0 A0b;have c2:(0:Int)<=(i:Int):=A0b
     have c4:=ax (i:=i) A0b;have q1:L[i]?=some L[i]:=io hi;have q4:=hAt i _ q1;have e3:(L.take (i+1)).map (Lr L)=(L.take i).map (Lr L)++[Lr L L[i]]:=by rw[aF q1,adK];rfl
     have hal:=hrow i;have hme:=adg q1;generalize (L.take i).map (Lr L)=al at e3 hal⊢;generalize L[i]=e at q1 q4 e3 hme;have hcnt:=hcn2 e hme;obtain⟨N,T,hN,lN,lT,hnd,tkN⟩:=Ei e;obtain⟨⟨cs,cc,cr⟩,ef,nd,vv⟩:=e;simp only at hN hnd hcnt;rw[hN] at q4;have g2:∀(v:V),v.cells.all V.cell=true->∀(st:St) (d tok:Nat) (nl:Bool) (t':Option Nat),bt (aY [(13,(FE cd oE)),(14,(FE dS fa)),(9,bT)] (fun _=>false) [(11,(FE lz Tc))] (fun i=>i==12) (fun _=>false)) st (some d) 29 (.sl al.isEmpty 1 al (some tok)) (.sl nl 1 [v] t')=_:=fun v hv=>db (E:=aY [(13,(FE cd oE)),(14,(FE dS fa)),(9,bT)] (fun _=>false) [(11,(FE lz Tc))] (fun i=>i==12) (fun _=>false)) (el:=29) (n:=1) Ue Uf Ug A0c rfl (es:=al) (v:=v) hv A0b A0b
     cases ef with
     | false=>
       have ev:Lr L ((cs,cc,cr),false,nd,vv)= .sl true 0 [] none:=rfl;rw[ev] at e3;have g3:=g2 (.sl true 0 [] none) rfl;simp +decide only[go_sem,eq,adm,adh,lN,lT,hLe,c1,c2,c4,q4,g3];refine⟨⟨(i+1,67),hi,.inr rfl⟩,?_,?_,?_⟩
       . exact Wt
       . exact Wr
       . simp only;omega
     | true=>
       have hrd:FE dS fa [.agg N]=some (.sl (aD nd).isEmpty (kL (aD nd)) ((aD nd).map aa) none):=by rw[<-hnd];exact(ca ke _ nd).trans (nH hcnt)
       have ev:Lr L ((cs,cc,cr),true,nd,vv)= .sl ((aD nd).filter fun c=>jr (ay L) c).isEmpty 3 (((aD nd).filter fun c=>jr (ay L) c).map aa) none:=rfl;have hr4:(aD nd).length<=160000:=by have:=fl nd;omega
       have hzO:aD nd≠[]->kL (aD nd)=3:=fun h=>by
        unfold kL;cases hh:aD nd with
        |nil=>exact absurd hh h
        |cons _ _=>rfl
       have hem:∀l:List C3,(l.map aa).isEmpty=l.isEmpty:=fun l=>by cases l<;>rfl
       rw[<-hem] at ev;rw[ev] at e3;generalize (aD nd).isEmpty=rn at hrd;generalize kL (aD nd)=rz at hrd hzO;generalize aD nd=rs at hrd e3 hr4 hzO;simp +decide only[go_sem,eq,adm,adh,lN,lT,hLe,c1,c2,c4,q4,tkN,hrd];refine j7 6 3 97 A0O ?_;refine aT (X:={p:Nat×Nat//p.1<=rs.length∧(p.2=97∨p.2=59)}) (fun p=>[(3,.ptr 12 0),(4,.sl ((ay L).map aa).isEmpty 3 ((ay L).map aa) none),(5,.i i),(6,.sl (((rs.take p.1.1).filter fun c=>jr (ay L) c).map aa).isEmpty 3 (((rs.take p.1.1).filter fun c=>jr (ay L) c).map aa) (some p.1.2)),(7,.sl rn rz (rs.map aa) none),(8,.i p.1.1)]) (fun _=>[(12,[.sl LE.isEmpty 20 LE none,.sl (al).isEmpty 1 (al) (some tk)])]) (fun p=>rs.length-p.1.1) ⟨(0,97),adN _,.inl rfl⟩ (by simp +decide only[go_sem,ad5,agE,adt]<;>(repeat' first|rfl|constructor)) (by simp +decide only[go_sem]<;>(repeat' first|rfl|constructor)) (fun⟨⟨k,tk2⟩,hk0,htk2⟩=>?_);simp only at hk0 htk2⊢;by_cases hk:k<rs.length
       . have f1:decide ((k:Int)<rs.length)=true:=ac0 A0b;have f2:(0:Int)<=(k:Int):=A0b
         have f4:=ax (i:=k) A0b;obtain⟨z,hz⟩:∃z,rs[k]?=some z:=⟨_,io hk⟩;have hza:=cY hz;obtain rfl:=hzO (fun h=>by rw[h] at hk;simp at hk);have e5:((rs.take (k+1)).filter fun c=>jr (ay L) c).map aa=((rs.take k).filter fun c=>jr (ay L) c).map aa++(if jr (ay L) z=true then [aa z] else []):=by rw[aF hz,afW,adK];congr 1;simp only[afw,agE];split<;>rfl
         have hbl:(((rs.take k).filter fun c=>jr (ay L) c).map aa).length<=160000:=by have:=aey (fun c=>jr (ay L) c) (rs.take k);rw[adz] at this;rw[eq];omega
         generalize ((rs.take k).filter fun c=>jr (ay L) c).map aa=bl at e5 hbl⊢;obtain⟨zs,zc,zr⟩:=z;have hh:=mN (nl:=((ay L).map aa).isEmpty) (sz:=3) (l:=ay L) zs zc zr (by unfold ay;rw[eq];omega) (.inl rfl);have hin:((ay L).any fun p=>eE p (zs,zc,zr))=jr (ay L) (zs,zc,zr):=rfl;rw[hin] at hh;simp only[bw] at hza e5;have g1:=db (E:=aY [(13,(FE cd oE)),(14,(FE dS fa)),(9,bT)] (fun _=>false) [(11,(FE lz Tc))] (fun i=>i==12) (fun _=>false)) (el:=33) (n:=3) mH mI mJ A0c rfl (es:=bl) (v:= .agg [.x (.string zs),.i zc,.i zr]) rfl A0b A0b;cases hb:jr (ay L) (zs,zc,zr) with
         | true=>
           rw[hb] at hh e5;rw[adl rfl] at e5;simp +decide only[go_sem,eq,f1,f2,f4,hza,hh,g1];refine⟨⟨(k+1,59),hk,.inr rfl⟩,?_,?_,?_⟩
           . simp +decide only[go_sem,e5]
           . rcases htk with rfl|rfl<;>rcases htk2 with rfl|rfl<;>simp +decide only[go_sem]
           . simp only;omega
         | false=>
           rw[hb] at hh e5;rw[adq A0c,aep] at e5;simp +decide only[go_sem,eq,f1,f2,f4,hza,hh];refine⟨⟨(k+1,tk2),hk,htk2⟩,?_,?_,?_⟩
           . simp +decide only[go_sem,e5]
           . exact Wt
           . simp only;omega
       . have f1:decide ((k:Int)<rs.length)=false:=Io A0b;have e9:rs.take k=rs:=ady A0b;rw[e9];generalize (rs.filter fun c=>jr (ay L) c).map aa=bl at e3⊢;have g3:=g2 (.sl bl.isEmpty 3 bl none) rfl;simp +decide only[go_sem,eq,f1,c4,g3];refine⟨⟨(i+1,67),hi,.inr rfl⟩,?_,?_,?_⟩
         . exact Wt
         . exact Wr
         . simp only;omega
   . have c1:decide ((i:Int)<L.length)=false:=Io A0b;have e:L.take i=L:=ady A0b;rw[e];simp +decide only[go_sem,eq,hLe,c1]

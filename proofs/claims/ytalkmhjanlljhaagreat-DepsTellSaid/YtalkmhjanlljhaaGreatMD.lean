/- Chapter 12: which cells hang on which, plainly. No program is named here. -/
import Derived.Test.YtalkmhjanlljhaaGreatMG
import Derived.Test.YtalkmhjanlljhaaGreatMPB
import Derived.Test.YtalkmhjanlljhaaGreatMR
import Derived.Test.YtalkmhjanlljhaaGreatMT
namespace Go.Proofs.YtalkmhjanlljhaaGreat
set_option linter.unusedSimpArgs false
set_option maxHeartbeats 32000000
set_option maxRecDepth 100000
open Go Go.RowKit
attribute [go_sem] Tryz.results10 Tryz.results13 Tryz.results15 Tryz.results17 Tryz.results19
abbrev En:=C3×Bool×Nd×T3
def ar (L:List En):List C3:=L.map fun e=>e.1
def lG (out:List En) (e:En):List En:=
 out.takeWhile (fun x=>ac x.1 e.1)++e::(match out.dropWhile (fun x=>ac x.1 e.1) with
  |x::r=>if x.1=e.1 then r else x::r
  |[]=>[])
def aE (l:List En):List En:=l.foldl lG []
theorem oc {e:En}:∀{l:List En},∀x∈l.takeWhile (fun x=>ac x.1 e.1),ac x.1 e.1=true
 |[],x,h=>by cases h
 | y ::l,x,h=>by
   cases hy:ac y.1 e.1 with
   | true=>
     simp only[List.takeWhile,hy] at h;rcases Vf.1 h with rfl|h
     . exact hy
     . exact oc x h
   |false=>simp only[List.takeWhile,hy] at h;cases h
theorem od {e:En}:∀{l:List En},fp ac (ar l)->∀x∈l.dropWhile (fun x=>ac x.1 e.1),ac x.1 e.1=false
 |[],_,x,h=>by cases h
 | y ::l,hs,x,h=>by
   have hs':=Wn.1 (show(y.1::ar l).Pairwise _ from hs);cases hy:ac y.1 e.1 with
   |true=>simp only[List.dropWhile,hy] at h;exact od hs'.2 x h
   | false=>
     simp only[List.dropWhile,hy] at h;rcases Vf.1 h with rfl|h
     . exact hy
     . cases hx:ac x.1 e.1 with
       |false=>rfl
       |true=>have h1:=hs'.1 x.1 (U7.2 ⟨x,h,rfl⟩);rw[bH.trans _ _ _ h1 hx] at hy;cases hy
variable {e:En}
theorem tP {out:List En} (hs:fp ac (ar out)) {x:En}:x∈(match out.dropWhile (fun x=>ac x.1 e.1) with
 |x::r=>if x.1=e.1 then r else x::r
 |[]=>[])↔x∈out.dropWhile (fun x=>ac x.1 e.1)∧x.1≠e.1:=by
 have hd:=od (e:=e) hs;have hsub:fp ac (ar (out.dropWhile fun x=>ac x.1 e.1)):=Wt ((List.dropWhile_sublist _).map _) hs;generalize out.dropWhile (fun x=>ac x.1 e.1)=r at hd hsub;cases r with
 |nil=>simp
 | cons y r=>
   have hp:=Wn.1 (show(y.1::ar r).Pairwise _ from hsub);have hne:∀z∈r,z.1≠e.1:=fun z hz ez=>by have h1:=hp.1 z.1 (U7.2 ⟨z,hz,rfl⟩);rw[ez] at h1;rw[hd y (Vv ..)] at h1;cases h1
   simp only;split
   . rename_i he;constructor
     . exact fun hx=>⟨Vr _ hx,hne x hx⟩
     . rintro⟨hx,hn⟩;rcases Vf.1 hx with rfl|hx
       . exact absurd he hn
       . exact hx
   . rename_i he;constructor
     . intro hx;refine⟨hx,?_⟩;rcases Vf.1 hx with rfl|hx
       . exact he
       . exact hne x hx
     . exact fun hx=>hx.1
theorem H7 {out:List En} (hs:fp ac (ar out)) (e:En):fp ac (ar (lG out e)):=by
 have e0:=V2 (p:=fun x:En=>ac x.1 e.1) (l:=out);have hs2:fp ac (ar (out.takeWhile (fun x=>ac x.1 e.1))++ar (out.dropWhile fun x=>ac x.1 e.1)):=by unfold ar at hs⊢;rw[<-Vy,e0];exact hs
 have h2:=WT.1 hs2
 have hrest:∀x∈ar (match out.dropWhile (fun x=>ac x.1 e.1) with
  |x::r=>if x.1=e.1 then r else x::r
  |[]=>[]),x∈ar (out.dropWhile fun x=>ac x.1 e.1)∧ac e.1 x=true:=fun x hx=>by
  obtain⟨y,hy,rfl⟩:=U7.1 hx;obtain⟨h3,h4⟩:=(tP hs).1 hy;refine⟨U7.2 ⟨y,h3,rfl⟩,?_⟩;cases hl:ac e.1 y.1 with
  |true=>rfl
  |false=>exact absurd (bH.tri _ _ hl (od hs y h3)).symm h4
 have hr:fp ac (ar (match out.dropWhile (fun x=>ac x.1 e.1) with
  |x::r=>if x.1=e.1 then r else x::r
  |[]=>[])):=by
  refine Wt ?_ h2.2.1;unfold ar;refine List.Sublist.map _ ?_;generalize out.dropWhile (fun x=>ac x.1 e.1)=r;cases r with
  |nil=>exact List.Sublist.refl _
  | cons y r=>
    simp only;split
    . exact List.sublist_cons_self _ _
    . exact List.Sublist.refl _
 unfold lG ar;rw[Vy,VC];refine WT.2 ⟨h2.1,Wn.2 ⟨fun x hx=>(hrest x hx).2,hr⟩,fun a ha b hb=>?_⟩;obtain⟨y,hy,rfl⟩:=U7.1 ha;rcases Vf.1 hb with rfl|hb
 . exact oc y hy
 . exact h2.2.2 _ ha _ (hrest b hb).1
theorem H8 {out:List En} (hs:fp ac (ar out)) {e x:En}:x∈lG out e↔x=e∨x∈out∧x.1≠e.1:=by
 have e0:=V2 (p:=fun x:En=>ac x.1 e.1) (l:=out);have hm:x∈out↔x∈out.takeWhile (fun x=>ac x.1 e.1)∨x∈out.dropWhile (fun x=>ac x.1 e.1):=by rw[<-Vl,e0]
 unfold lG;rw[Vl,Vf,tP hs,hm];constructor
 . rintro(h|h|h)
   . refine .inr ⟨.inl h,fun ee=>?_⟩;have:=oc x h;rw[ee,bH.irr] at this;cases this
   . exact .inl h
   . exact .inr ⟨.inr h.1,h.2⟩
 . rintro(h|⟨h|h,hn⟩)
   . exact .inr (.inl h)
   . exact .inl h
   . exact .inr (.inr ⟨h,hn⟩)
theorem H9 (out:List En) (e:En):(lG out e).length<=out.length+1:=by
 have e0:=WP List.length (V2 (p:=fun x:En=>ac x.1 e.1) (l:=out));unfold lG;rw[U4] at e0⊢;rw[U3];generalize out.dropWhile (fun x=>ac x.1 e.1)=r at e0;cases r with
 |nil=>simp only[VB] at e0⊢;omega
 | cons y r=>
   simp only[U3] at e0;simp only;split
   . omega
   . rw[U3];omega
theorem pG {l:List En}:∀{out:List En},fp ac (ar out)->fp ac (ar (l.foldl lG out))∧(l.foldl lG out).length<=out.length+l.length:=by
 induction l with
 |nil=>exact fun h=>⟨h,by simp⟩
 |cons e l ih=>intro out h;obtain⟨h1,h2⟩:=ih (H7 h e);have:=H9 out e;refine⟨h1,?_⟩;rw[Wc,U3];omega
theorem dI (l:List En):fp ac (ar (aE l)):=(pG List.Pairwise.nil).1
theorem oe (l:List En):(aE l).length<=l.length:=by have:=(pG (l:=l) (out:=[]) List.Pairwise.nil).2;show(List.foldl lG [] l).length<=l.length;simpa using this
theorem BG (l:List En) (e:En):aE (l++[e])=lG (aE l) e:=by simp[aE]
theorem tQ (l:List En):∀x:En,x∈aE l↔∃l1 l2,l=l1++x::l2∧∀y∈l2,y.1≠x.1:=by
 suffices h:∀(k:List En) (x:En),x∈aE k.reverse↔∃l1 l2,k.reverse=l1++x::l2∧∀y∈l2,y.1≠x.1 by
  intro x;have:=h l.reverse x
  rwa [List.reverse_reverse] at this
 intro k
 induction k with
 |nil=>intro x;simp[aE]
 | cons e k ih=>
   intro x;rw[List.reverse_cons,BG,H8 (dI _),ih x];constructor
   . rintro(rfl|⟨⟨l1,l2,h1,h2⟩,hn⟩)
     . exact⟨k.reverse,[],rfl,fun y hy=>by cases hy⟩
     . refine⟨l1,l2++[e],by rw[h1];simp,fun y hy=>?_⟩;rcases Vl.1 hy with hy|hy
       . exact h2 y hy
       . rw[Vo.1 hy];exact fun h=>hn h.symm
   . rintro⟨l1,l2,h1,h2⟩;rcases List.eq_nil_or_concat l2 with rfl|⟨l3,z,rfl⟩
     . have:=List.append_inj' h1 rfl;have h3:=this.2;simp only[VE,Wx] at h3;exact .inl h3.symm
     . rw[List.concat_eq_append] at h1 h2;have h3:k.reverse++[e]=(l1++x::l3)++[z]:=by rw[h1];simp
       obtain⟨h4,h5⟩:=List.append_inj' h3 rfl;simp only[VE,Wx] at h5;subst h5;exact .inr ⟨⟨l1,l3,h4,fun y hy=>h2 y (VQ _ hy)⟩,fun h=>h2 e (V7 _ (Vo.2 rfl)) h.symm⟩
def bw (L:List En) (e:En):List C3:=if e.2.1=true then (aw e.2.2.1).filter (fun c=>gZ (ar L) c) else []
def eD (L:List En) (c:C3):List C3:=match L.find? (fun e=>dD e.1 c) with
 |some e=>bw L e
 |none=>[]
def readersD (L:List En) (c:C3):List C3:=(L.filter fun e=>gZ (bw L e) c).map fun e=>e.1
inductive Hang (L:List En) (c:C3):C3->Prop
 |one {x:C3} (h:x∈readersD L c):Hang L c x
 |next {y x:C3} (h:Hang L c y) (h2:x∈readersD L y):Hang L c x
open Classical in
noncomputable def dq (L:List En) (c:C3):List C3:=(ar L).filter fun x=>decide (Hang L c x)
variable {L:List En} {c:C3}
theorem pH (h:c∈bw L e):c∈ar L:=by
 unfold bw at h;split at h
 . exact eI.1 (VG.1 h).2
 . cases h
theorem xb (L:List En) (e:En):fp ac (bw L e):=by
 unfold bw;split
 . exact Wt WN (lD _)
 . exact List.Pairwise.nil
theorem iX {x:C3}:x∈readersD L c↔∃e∈L,e.1=x∧c∈bw L e:=by
 unfold readersD;rw[U7];constructor
 . rintro⟨e,he,rfl⟩;obtain⟨h1,h2⟩:=VG.1 he;exact⟨e,h1,rfl,eI.1 h2⟩
 . rintro⟨e,he,rfl,h⟩;exact⟨e,VG.2 ⟨he,eI.2 h⟩,rfl⟩
theorem iY {x:C3} (h:x∈readersD L c):x∈ar L:=by obtain⟨e,he,rfl,_⟩:=iX.1 h;exact U7.2 ⟨e,he,rfl⟩
theorem iZ (hs:fp ac (ar L)) (c:C3):fp ac (readersD L c):=Wt (WN.map _) hs
theorem y7 {x:C3} (h:Hang L c x):x∈ar L:=by
 cases h with
 |one h=>exact iY h
 |next _ h=>exact iY h
theorem BH (hs:fp ac (ar L)) (c:C3):fp ac (dq L c):=Wt WN hs
open Classical in
theorem lH {x:C3}:x∈dq L c↔Hang L c x:=by unfold dq;rw[VG,Vz];exact⟨fun h=>h.2,fun h=>⟨y7 h,h⟩⟩
theorem tR (hs:fp ac (ar L)) {c:C3} {l:List C3} (hl:fp ac l) (h1:∀x∈readersD L c,x∈l) (h2:∀y∈l,∀x∈readersD L y,x∈l) (h3:∀x∈l,Hang L c x):l=dq L c:=
 iW bH hl (BH hs c) fun x=>⟨fun h=>lH.2 (h3 x h),fun h=>by
  have k:=lH.1 h;clear h
  induction k with
  |one k1=>exact h1 _ k1
  |next _ k2 ih=>exact h2 _ ih _ k2⟩
theorem pI (hs:fp ac (ar L)) {e f:En} (he:e∈L) (hf:f∈L) (h:e.1=f.1):e=f:=by
 induction L with
 |nil=>cases he
 | cons y L ih=>
   have hp:=Wn.1 (show(y.1::ar L).Pairwise _ from hs);have key:∀z∈L,y.1≠z.1:=fun z hz ez=>by have h1:=hp.1 z.1 (U7.2 ⟨z,hz,rfl⟩);rw[ez,bH.irr] at h1;cases h1
   rcases Vf.1 he with he1|he1
   . rcases Vf.1 hf with hf1|hf1
     . rw[he1,hf1]
     . exact absurd (he1▸h) (key f hf1)
   . rcases Vf.1 hf with hf1|hf1
     . exact absurd (hf1▸h.symm) (key e he1)
     . exact ih hp.2 he1 hf1
theorem pJ (hs:fp ac (ar L)) {e:En} (he:e∈L):eD L e.1=bw L e:=by
 unfold eD;cases hf:L.find? (fun x=>dD x.1 e.1) with
 |none=>have:=List.find?_eq_none.1 hf e he;exact absurd (iO rfl) this
 |some f=>have h0:dD f.1 e.1=true:=List.find?_some (p:=fun x:En=>dD x.1 e.1) hf;have h1:f.1=e.1:=Vw h0;have h2:=pI hs (List.mem_of_find?_eq_some hf) he h1;rw[h2]
theorem pK (h:c∉ar L):eD L c=[]:=by
 have e:L.find? (fun e=>dD e.1 c)=none:=List.find?_eq_none.2 fun x hx e=>h (U7.2 ⟨x,hx,Vw e⟩)
 unfold eD;rw[e]
def i6 (L:List En) (c:C3) (l:List C3):Prop:=fp ac l∧(∀x∈readersD L c,x∈l)∧∀x∈l,Hang L c x
variable {l:List C3}
theorem kW {m:List C3} (hl:fp ac l) (hm:fp ac m) (h:∀x∈l,x∈m):l.Sublist m:=by
 have e:l=m.filter fun x=>gZ l x:=iW bH hl (Wt WN hm) fun x=>⟨fun hx=>VG.2 ⟨h x hx,eI.2 hx⟩,fun hx=>eI.1 (VG.1 hx).2⟩
 rw[e];exact WN
theorem qR (hs:fp ac (ar L)) {c:C3} {l:List C3} (h:i6 L c l):l.length<=L.length:=by
 have h1:=(kW h.1 hs fun x hx=>y7 (h.2.2 x hx)).length_le;unfold ar at h1
 rwa [eq] at h1
theorem tS {y:C3} (h:i6 L c l) (hy:y∈l):∀r:List C3,(∀x∈r,x∈readersD L y)->i6 L c (r.foldl aG l):=fun r hr=>
 ⟨gJ r h.1,fun x hx=>(eT r l x).2 (.inl (h.2.1 x hx)),fun x hx=>by
  rcases(eT r l x).1 hx with hx|hx
  . exact h.2.2 x hx
  . exact .next (h.2.2 y hy) (hr x hx)⟩
theorem Ia (hl:fp ac l) (r:List C3):l.length<=(r.foldl aG l).length:=(kW hl (gJ r hl) fun x hx=>(eT r l x).2 (.inl hx)).length_le
theorem BI (hl:fp ac l) {r:List C3} (h:(r.foldl aG l).length=l.length):r.foldl aG l=l∧∀x∈r,x∈l:=by have e:=(kW hl (gJ r hl) fun x hx=>(eT r l x).2 (.inl hx)).eq_of_length h.symm;refine⟨e.symm,fun x hx=>?_⟩;rw[e];exact(eT r l x).2 (.inr hx)
theorem BJ (hs:fp ac (ar L)) (c:C3):i6 L c (readersD L c):=⟨iZ hs c,fun _ h=>h,fun _ h=> .one h⟩
def qS (rs:List V) (b:Nat->Option (List V)):V->Prop
 | .ptr s 0=>(b s).map (List.map V.bare)=some rs
 |_=>False
def Ji (t:Tmp) (rs:List V):Out->St->Prop
 | .exit _,_=>False
 |_,st=>qS rs st.b (st.t t)
section
variable {E:Env} {n:Nat} {pm:Pm} {m0 m:Lim} {w0 w:World} {β:Nat->Nat} {st:St} {a:Act}
theorem tT (hE:EnvOK E) (hm:E.P.follows .mixedOrders=true) {f:FuncId} {fn:Func} {c:Code} {F:List V->Option V} {k:Nat} {t:Tmp} (hf:E.P.funcs[f]?=some fn) (hb:fn.body=some c)
 (hcall:∀args w,(callFunc f args).run E.P w= .ok (.enter f args) w) (hn:fn.ntmps=n) (hres:fn.results= #[.tmp t]) (hok:aY E.any n c=true) (hk:k<=n) (hn1:n<=1000)
 (hrun:∀us r,F us=some r->us.all V.dat=true->us.length=k∧∃rs,r= .ip rs∧run E c (start us) (Ji t rs)):Fun E f F:=by
 refine⟨hcall,fun m w vs us r hF hdat hr hj hg=>?_⟩;obtain⟨hl,rs,rfl,hrun⟩:=hrun us r hF hdat;have hrel:Rel E n ⟨[],id,[],[]⟩ m w m id (start us) {tmps:=vs++Array.replicate (fn.ntmps-vs.size) Go.undef,defers:=[]} w:=ly hn hk hn1 hl hdat hr hj hg;refine calls_of_wp hf hb (wp_mono (gC (hE.x (.inr (by simp))) hm c _ _ _ _ _ _ hok hrel hrun) ?_);intro e a' w' hp;have done:∀st' m' β',qS rs st'.b (st'.t t)->Rel E n ⟨[],id,[],[]⟩ m w m' β' st' a' w'->a'.defers=[]∧∃v,(results fn a'.tmps).run E.P w'= .ok v w'∧∃v' m',Ending.returned v= .returned v'∧Rd m' w' v' (.ip rs)∧Below w.heap.size w w'∧∀blk,blk<w.heap.size->m' blk=m blk:=by
  intro st' m' β' h1 h2;unfold qS at h1;split at h1
  case h_2=>exact h1.elim
  rename_i s hp1;obtain⟨cs,h3,rfl⟩:=U9.1 h1;have hv:a'.tmps.getD t Go.undef= .pointer (some ⟨β' s,0,none⟩):=(hp1▸h2.tmps t:Rs m' w' β' _ (.ptr s 0)).ptr;obtain⟨hB,hge⟩:=h2.boxes s cs h3;have hge:w.heap.size<=β' s:=hge.elim id (fun h=>by cases h);refine⟨h2.defers,.pointer (some ⟨β' s,0,none⟩),?_,_,aD m' (β' s) none,rfl,hB.ip,h2.below.below,fun blk hb=>?_⟩
  . unfold results;rw[hres];have hv':a'.tmps[t]?.getD Go.undef= .pointer (some ⟨β' s,0,none⟩):=by rw[<-Ve];exact hv
    simp[hv']
  . rw[ah _ _ (by omega)];exact h2.mold.1 blk hb (by simp)
 cases e with
 |normal=>obtain⟨st',m',β',h1,h2⟩:=hp;exact done st' m' β' h1 h2
 |ret=>obtain⟨st',m',β',h1,h2⟩:=hp;exact done st' m' β' h1 h2
 |exit id=>obtain⟨st',m',β',h1,h2⟩:=hp;exact h1.elim
 |goto l=>exact hp.elim
 |panic ch=>exact hp.elim
 |outgrown=>exact hp.elim
end
attribute [go_sem] Ji qS
def bK (e:En):V:= .agg (.x (.string e.1.1):: .x (.int .i64 e.1.2.1):: .x (.int .i64 e.1.2.2):: .x (.bool e.2.1)::(ik e.2.2.1.hd (mf e.2.2.1)++[.x (.int .i64 e.2.2.2.1),.x (.int .i64 e.2.2.2.2.1),.x (.string e.2.2.2.2.2)]))
theorem mG (e:En):∃M:List V,bK e= .agg (.x (.string e.1.1):: .x (.int .i64 e.1.2.1):: .x (.int .i64 e.1.2.2):: .x (.bool e.2.1)::M)∧M.length=16:=⟨_,rfl,rfl⟩
theorem mH (a b:En) (e:bK a=bK b):a=b:=by
 obtain⟨⟨a1,a2,a3⟩,a4,n,a5,a6,a7⟩:=a;obtain⟨⟨b1,b2,b3⟩,b4,n',b5,b6,b7⟩:=b;simp only[bK,V.agg.injEq,VE,V.x.injEq,Value.string.injEq,Value.int.injEq,Value.bool.injEq,Xo] at e;obtain⟨rfl,rfl,rfl,rfl,e⟩:=e;have h:=List.append_inj e rfl;have h2:=h.2;simp only[VE,V.x.injEq,Value.string.injEq,Value.int.injEq,Xo,Wx] at h2;obtain⟨rfl,rfl,rfl⟩:=h2;have hn:am n=am n':=by rw[bf,bf,h.1]
 rw[jo _ _ hn]
abbrev RC:=Nat×List C3
def tU (r:RC):V:= .sl r.2.isEmpty r.1 (r.2.map aa) none
theorem bZ (a b:C3) (e:aa a=aa b):a=b:=by obtain⟨a1,a2,a3⟩:=a;obtain⟨b1,b2,b3⟩:=b;simp only[aa,V.agg.injEq,VE,V.x.injEq,Value.int.injEq,Value.string.injEq,Xo,Wx] at e;obtain⟨rfl,rfl,rfl⟩:=e;rfl
theorem bu {α β:Type} {f:α->β} (hf:∀a b,f a=f b->a=b):∀{l l':List α},l.map f=l'.map f->l=l'
 |[],[],_=>rfl
 |[],_::_,h=>by cases h
 |_::_,[],h=>by cases h
 |a::l,b::l',h=>by obtain⟨h1,h2⟩:=VZ (show f a::l.map f=f b::l'.map f from h);rw[hf a b h1,bu hf h2]
theorem Ib (a b:RC) (e:tU a=tU b):a=b:=by obtain⟨a1,a2⟩:=a;obtain⟨b1,b2⟩:=b;simp only[tU,V.sl.injEq,Wx] at e;obtain⟨_,rfl,h⟩:=e;rw[bu bZ h]
abbrev DP:=(Bool×Nat×List En)×(Bool×Nat×List RC)
def KP (p:DP):List V:=[.sl p.1.1 p.1.2.1 (p.1.2.2.map bK) none,.sl p.2.1 p.2.2.1 (p.2.2.2.map tU) none]
def tV (p:DP):V:= .ip (KP p)
theorem y8 (p q:DP) (e:tV p=tV q):p=q:=by obtain⟨⟨a,b,c⟩,a',b',c'⟩:=p;obtain⟨⟨d,f,g⟩,d',f',g'⟩:=q;simp only[tV,KP,V.ip.injEq,VE,V.sl.injEq,Wx] at e;obtain⟨⟨rfl,rfl,h1⟩,rfl,rfl,h2⟩:=e;rw[bu mH h1,bu Ib h2]
def xd (p:DP):Prop:=(p.1.2.2≠[]->p.1.2.1=20)∧(p.2.2.2≠[]->p.2.2.1=1)∧p.2.2.2.map (fun r=>r.2)=p.1.2.2.map (bw p.1.2.2)∧p.1.2.2.length<=400∧fp ac (ar p.1.2.2)∧∀r∈p.2.2.2,(r.2≠[]->r.1=3)∧r.2.length<=1000000
variable {p:DP}
theorem EM (h:xd p) {i:Nat} (hi:i<p.1.2.2.length):∃e r,p.1.2.2[i]?=some e∧p.2.2.2[i]?=some r∧r.2=bw p.1.2.2 e∧(p.1.2.2.map bK)[((i:Nat):Int).toNat]?=some (bK e)∧(p.2.2.2.map tU)[((i:Nat):Int).toNat]?=some (tU r)∧(r.2≠[]->r.1=3)∧r.2.length<=1000000:=by
 obtain⟨_,_,hm,_,_,hr⟩:=h;have hl:=WP List.length hm;rw[eq,eq] at hl;have hi2:i<p.2.2.2.length:=by omega
 have e1:p.1.2.2[i]?=some p.1.2.2[i]:=io hi;have e2:p.2.2.2[i]?=some p.2.2.2[i]:=io hi2;have h1:=WP (fun l=>l[i]?) hm;simp only[U5,e1,e2,VT,Vu] at h1;refine⟨_,_,e1,e2,h1,?_,?_,hr _ (V4 hi2)⟩
 . rw[U2,U5,e1];rfl
 . rw[U2,U5,e2];rfl
def ml (p:DP):List V:=[tV p]
theorem BK (p q:DP) (e:ml p=ml q):p=q:=y8 _ _ (VZ e).1
def dt (p:DP×C3):List V:=[tV p.1,aa p.2]
theorem jy (p q:DP×C3) (e:dt p=dt q):p=q:=by obtain⟨h1,h2⟩:=VZ e;exact Prod.ext (y8 _ _ h1) (bZ _ _ (VZ h2).1)
def KQ (e:En):V:=aa e.1
def xe (l:List C3):V:= .sl (l.map aa).isEmpty 3 (l.map aa) none
open Classical in
noncomputable def F5 (p:DP×C3):Option V:=if xd p.1 then some (xe (readersD p.1.1.2.2 p.2)) else none
open Classical in
theorem KR (h:xd p):FE dt F5 [tV p,aa c]=some (xe (readersD p.1.2.2 c)):=(bC jy _ (p,c)).trans (Va h)
open Classical in
noncomputable def KS (p:DP×C3):Option V:=if xd p.1 then some (xe (dq p.1.1.2.2 p.2)) else none
def tW (p:DP) (c:C3):V:=match (p.1.2.2.zip p.2.2.2).find? (fun q=>dD q.1.1 c) with
 |some q=>tU q.2
 |none=> .sl true 0 [] none
open Classical in
noncomputable def KT (p:DP×C3):Option V:=if xd p.1 then some (tW p.1 p.2) else none
theorem Ic (L:List C3) (p:C3) (h:L.length<=900000):jN [xe L,.agg [.x (.string p.1),.x (.int .i64 p.2.1),.x (.int .i64 p.2.2)]]=some (xe (aG L p)):=by
 obtain⟨s,c,r⟩:=p;unfold jN xe;simp only[eR];rw[Va ⟨h,.inl trivial⟩];by_cases hin:gZ L (s,c,r)=true
 . have e:aG L (s,c,r)=L:=Va hin;rw[Va hin,e]
 . have e:aG L (s,c,r)=L.takeWhile (fun q=>ac q (s,c,r))++(s,c,r)::L.dropWhile (fun q=>ac q (s,c,r)):=Vh hin;have e2:((aG L (s,c,r)).map aa).isEmpty=false:=by rw[e];cases L.takeWhile (fun q=>ac q (s,c,r))<;>rfl
   rw[Vh hin,e2]
theorem kX:bM 17 (FE dt F5):=by
 refine av (E:=au [(23,bY)]) (k:=2) (aM _ ⟨nX,trivial⟩) (by kernel_rfl) Tryz.func17 rfl (fun a w=>Tryz.call17 a w) Tryz.ntmps17 (by kernel_rfl) (by decide) (by decide) ?_;intro us r hF hdat;obtain⟨⟨⟨⟨nl,sz,L⟩,nr,zr,R⟩,ws,wc,wr⟩,hus,hG⟩:=aZ hF;clear hF;subst hus;have hF:=hG;clear hG;unfold F5 at hF;split at hF
 case isFalse=>cases hF
 rename_i hok;cases hF;clear hdat;refine⟨rfl,?_⟩;have hok0:=hok;obtain⟨hsz,hzr,hm,hl4,hs,hr⟩:=hok;simp only at hsz hzr hm hl4 hs hr;have hcx:aa (ws,wc,wr)= .agg [.x (.string ws),.x (.int .i64 wc),.x (.int .i64 wr)]:=rfl;simp only[dt,tV,KP,xe,hcx];have hRl:R.length=L.length:=by have:=WP List.length hm;simpa using this
 simp +decide (maxDischargeDepth:=200) only[go_sem,eq];refine iQ 5 3 99 (by simp only[go_sem];rfl) ?_;refine aI (X:={p:Nat×Nat//p.1<=L.length}) (fun p=>[(0,.ip [.sl nl sz (L.map bK) none,.sl nr zr (R.map tU) none]),(3,.ptr 3 0),(5,.sl (((L.take p.1.1).filter fun e=>gZ (bw L e) (ws,wc,wr)).map KQ).isEmpty 3 (((L.take p.1.1).filter fun e=>gZ (bw L e) (ws,wc,wr)).map KQ) (some p.1.2)),(6,.x (.int .i64 ((p.1.1:Nat):Int)))]) (fun _=>[(3,[.x (.string ws),.x (.int .i64 wc),.x (.int .i64 wr)])]) (fun p=>L.length-p.1.1) ⟨(0,99),VJ _⟩ (by simp +decide only[go_sem,VW,X0,VO]<;>(repeat' first|rfl|constructor)) (by simp +decide only[go_sem]<;>(repeat' first|rfl|constructor)) (fun⟨⟨i,tk⟩,hi0⟩=>?_);simp only at hi0⊢;by_cases hi:i<L.length
 . have c1:decide ((i:Int)<(L.length:Int))=true:=iO (by omega);have c2:(0:Int)<=(i:Int):=by omega
   have c3:decide ((i:Int)<(R.length:Int))=true:=iO (by omega);have c4:=aF (i:=i) (by omega);obtain⟨e,r,q1,q2,q3,q4,q5,q6,q7⟩:=EM hok0 hi;simp only at q1 q2 q3 q4 q5;obtain rfl:=hsz (fun h=>by rw[h] at hi;simp at hi);obtain rfl:=hzr (fun h=>by rw[h] at hRl;simp at hRl;omega)
   have hh:=nW (nl:=r.2.isEmpty) (sz:=r.1) (l:=r.2) ws wc wr q7 (by
    by_cases h:r.2=[]
    . exact .inr h
    . exact .inl (q6 h))
   have hin:(r.2.any fun p=>dD p (ws,wc,wr))=gZ (bw L e) (ws,wc,wr):=by rw[q3];rfl
   rw[hin] at hh;simp only[tU] at q5;have hft:(L.take (i+1)).filter (fun e=>gZ (bw L e) (ws,wc,wr))=(L.take i).filter (fun e=>gZ (bw L e) (ws,wc,wr))++(if gZ (bw L e) (ws,wc,wr)=true then [e] else []):=by rw[aS q1,XL];congr 1;simp only[W3,X0]
   have hal:(((L.take i).filter fun e=>gZ (bw L e) (ws,wc,wr)).map KQ).length<=400:=by have:=V6 (fun e=>gZ (bw L e) (ws,wc,wr)) (L.take i);rw[Vj] at this;rw[eq];omega
   have e3:((L.take (i+1)).filter (fun e=>gZ (bw L e) (ws,wc,wr))).map KQ=(((L.take i).filter fun e=>gZ (bw L e) (ws,wc,wr)).map KQ)++(if gZ (bw L e) (ws,wc,wr)=true then [aa e.1] else []):=by rw[hft,Vy];congr 1;split<;>rfl
   generalize ((L.take i).filter fun e=>gZ (bw L e) (ws,wc,wr)).map KQ=al at e3 hal⊢;generalize r.2.map aa=rl at q5 hh;generalize r.2.isEmpty=rn at q5 hh;generalize r.1=rz at q5 hh;obtain⟨N,hN,lN⟩:=mG e;obtain⟨⟨cs,cc,cr⟩,ef,nd,vv⟩:=e;simp only at hN;rw[hN] at q4;cases hb:gZ (bw L ((cs,cc,cr),ef,nd,vv)) (ws,wc,wr) with
   | true=>
     rw[hb] at hh e3;rw[Va rfl] at e3;simp only[bg] at e3;have g1:=cL (E:=au [(23,bY)]) (el:=24) (n:=3) kL kM kN (by decide) rfl (es:=al) (v:= .agg [.x (.string cs),.x (.int .i64 cc),.x (.int .i64 cr)]) rfl (by omega) (by omega);simp +decide (maxDischargeDepth:=200) only[go_sem,eq,U3,lN,c1,c2,c3,c4,q4,q5,hh,g1];refine⟨⟨(i+1,35),hi⟩,?_,?_,?_⟩
     . simp +decide (maxDischargeDepth:=200) only[go_sem,e3]
     . simp +decide (maxDischargeDepth:=200) only[go_sem]
     . simp only;omega
   | false=>
     rw[hb] at hh e3;rw[Vh (by decide),Wq] at e3;simp +decide (maxDischargeDepth:=200) only[go_sem,eq,U3,lN,c1,c2,c3,c4,q4,q5,hh];refine⟨⟨(i+1,tk),hi⟩,?_,?_,?_⟩
     . simp +decide (maxDischargeDepth:=200) only[go_sem,e3]
     . simp +decide (maxDischargeDepth:=200) only[go_sem]
     . simp only;omega
 . have c1:decide ((i:Int)<(L.length:Int))=false:=tl (by omega);have e:L.take i=L:=Vp (by omega);rw[e];have e2:(readersD L (ws,wc,wr)).map aa=(L.filter fun e=>gZ (bw L e) (ws,wc,wr)).map KQ:=by unfold readersD;rw[Wk];rfl
   rw[e2];simp +decide (maxDischargeDepth:=200) only[go_sem,eq,c1]
theorem xf:bM 19 (FE dt KS):=by
 refine av (E:=au [(17,(FE dt F5)),(36,jN)]) (k:=2) (aM _ ⟨kX,tE,trivial⟩) (by kernel_rfl) Tryz.func19 rfl (fun a w=>Tryz.call19 a w) Tryz.ntmps19 (by kernel_rfl) (by decide) (by decide) ?_;intro us r hF hdat;obtain⟨⟨⟨⟨nl,sz,L⟩,nr,zr,R⟩,ws,wc,wr⟩,hus,hG⟩:=aZ hF;clear hF;subst hus;have hF:=hG;clear hG;unfold KS at hF;split at hF
 case isFalse=>cases hF
 rename_i hok;cases hF;clear hdat;refine⟨rfl,?_⟩;have hrd:∀s c r,FE dt F5 [.ip [.sl nl sz (L.map bK) none,.sl nr zr (R.map tU) none],.agg [.x (.string s),.x (.int .i64 c),.x (.int .i64 r)]]=some (.sl ((readersD L (s,c,r)).map aa).isEmpty 3 ((readersD L (s,c,r)).map aa) none):=fun s c r=>KR (p:=((nl,sz,L),nr,zr,R)) (c:=(s,c,r)) hok
 have hin:∀(l:List C3),l.length<=400->∀s c r,jN [.sl ((l).map aa).isEmpty 3 ((l).map aa) none,.agg [.x (.string s),.x (.int .i64 c),.x (.int .i64 r)]]=some (.sl ((aG l (s,c,r)).map aa).isEmpty 3 ((aG l (s,c,r)).map aa) none):=fun l h s c r=>Ic l (s,c,r) (by omega)
 obtain⟨hsz,hzr,hm,hl4,hs,hr⟩:=hok;simp only at hsz hzr hm hl4 hs hr;clear hsz hzr hm hr;have hcx:aa (ws,wc,wr)= .agg [.x (.string ws),.x (.int .i64 wc),.x (.int .i64 wr)]:=rfl;simp only[dt,tV,KP,xe,hcx];generalize L.map bK=LV at hrd⊢;generalize R.map tU=RV at hrd⊢;have k0:=hrd ws wc wr;simp +decide (maxDischargeDepth:=200) only[go_sem,k0];refine aI (X:={p:List C3×Int//i6 L (ws,wc,wr) p.1∧ -1<=p.2∧p.2<=(p.1.length:Int)∧(p.2=(p.1.length:Int)->∀y∈p.1,∀x∈readersD L y,x∈p.1)}) (fun p=>[(0,.ip [.sl nl sz LV none,.sl nr zr RV none]),(3,.ptr 3 0),(5,.sl ((p.1.1).map aa).isEmpty 3 ((p.1.1).map aa) none),(6,.x (.int .i64 p.1.2))]) (fun _=>[(3,[.x (.string ws),.x (.int .i64 wc),.x (.int .i64 wr)])]) (fun p=>((L.length:Int)-p.1.2).toNat) ⟨(readersD L (ws,wc,wr),-1),BJ hs _,by simp only;omega,by simp only;omega,fun h=>by simp only at h;omega⟩ (by simp +decide only[go_sem]<;>(repeat' first|rfl|constructor)) (by simp +decide only[go_sem]<;>(repeat' first|rfl|constructor)) (fun⟨⟨l0,n⟩,hI,hn1,hn2,hcl⟩=>?_);simp only at hI hn1 hn2 hcl⊢;have hl0:=qR hs hI;by_cases hne:n=(l0.length:Int)
 . have d1:=iO hne;have e:=tR hs hI.1 hI.2.1 (hcl hne) hI.2.2;rw[<-e];simp +decide (maxDischargeDepth:=200) only[go_sem,eq,d1]
 have d1:=tl hne;simp +decide (maxDischargeDepth:=200) only[go_sem,eq,d1];refine aI (X:={p:List C3×Nat//i6 L (ws,wc,wr) p.1∧p.2<=l0.length∧l0.length<=p.1.length∧(p.1.length=l0.length->p.1=l0∧∀j,j<p.2->∀y,l0[j]?=some y->∀x∈readersD L y,x∈l0)}) (fun p=>[(0,.ip [.sl nl sz LV none,.sl nr zr RV none]),(3,.ptr 3 0),(5,.sl ((p.1.1).map aa).isEmpty 3 ((p.1.1).map aa) none),(6,.x (.int .i64 (l0.length:Int))),(7,.x (.int .i64 ((p.1.2:Nat):Int)))]) (fun _=>[(3,[.x (.string ws),.x (.int .i64 wc),.x (.int .i64 wr)])]) (fun p=>l0.length-p.1.2) ⟨(l0,0),hI,VJ _,Vb _,fun _=>⟨rfl,fun j hj=>absurd hj (Xi _)⟩⟩ (by simp +decide only[go_sem,VO]<;>(repeat' first|rfl|constructor)) (by simp +decide only[go_sem]<;>(repeat' first|rfl|constructor)) (fun⟨⟨l1,i⟩,hI1,hi1,hle1,hcl1⟩=>?_);simp only at hI1 hi1 hle1 hcl1⊢;have hl1:=qR hs hI1;by_cases hi:i<l0.length
 . have c1:decide ((i:Int)<(l0.length:Int))=true:=iO (by omega);have c2:(0:Int)<=(i:Int):=by omega
   have c3:decide ((i:Int)<(l1.length:Int))=true:=iO (by omega);have c4:=aF (i:=i) (by omega);obtain⟨y,hy⟩:∃y,l1[i]?=some y:=⟨_,io (by omega)⟩;have hyl:y∈l1:=Vd hy;have hya:=ca hy;obtain⟨ys,yc,yr⟩:=y;simp only[bg] at hya;have k1:=hrd ys yc yr;simp +decide (maxDischargeDepth:=200) only[go_sem,eq,c1,c2,c3,hya,k1];have hrs:∀x∈readersD L (ys,yc,yr),x∈readersD L (ys,yc,yr):=fun _ h=>h
   have hrl:(readersD L (ys,yc,yr)).length<=L.length:=by
    have h1:=(kW (iZ hs (ys,yc,yr)) hs fun x hx=>iY hx).length_le;unfold ar at h1
    rwa [eq] at h1
   generalize hrr:readersD L (ys,yc,yr)=r at hrl;refine aI (X:={k:Nat//k<=r.length}) (fun k=>[(0,.ip [.sl nl sz LV none,.sl nr zr RV none]),(3,.ptr 3 0),(5,.sl (((r.take k.1).foldl aG l1).map aa).isEmpty 3 (((r.take k.1).foldl aG l1).map aa) none),(6,.x (.int .i64 (l0.length:Int))),(7,.x (.int .i64 ((i:Nat):Int))),(8,.sl ((r).map aa).isEmpty 3 ((r).map aa) none),(9,.x (.int .i64 ((k.1:Nat):Int)))]) (fun _=>[(3,[.x (.string ws),.x (.int .i64 wc),.x (.int .i64 wr)])]) (fun k=>r.length-k.1) ⟨0,VJ _⟩ (by simp +decide only[go_sem,VW,Xq,VO]<;>(repeat' first|rfl|constructor)) (by simp +decide only[go_sem]<;>(repeat' first|rfl|constructor)) (fun⟨k,hk0⟩=>?_);simp only at hk0⊢;by_cases hk:k<r.length
   . have f1:decide ((k:Int)<(r.length:Int))=true:=iO (by omega);have f2:(0:Int)<=(k:Int):=by omega
     have f4:=aF (i:=k) (by omega);obtain⟨z,hz⟩:∃z,r[k]?=some z:=⟨_,io hk⟩;have hza:=ca hz;have e3:(r.take (k+1)).foldl aG l1=aG ((r.take k).foldl aG l1) z:=by rw[aS hz,Xl];rfl
     have hIk:=tS hI1 hyl (r.take k) (fun x hx=>by rw[hrr];exact Xg hx);have hlk:=qR hs hIk;obtain⟨zs,zc,zr'⟩:=z;simp only[bg] at hza;have q:=hin ((r.take k).foldl aG l1) (by omega) zs zc zr';rw[<-e3] at q;generalize (r.take k).foldl aG l1=lk at q⊢;simp +decide (maxDischargeDepth:=200) only[go_sem,eq,f1,f2,f4,hza,q];refine⟨⟨k+1,hk⟩,?_,?_,?_⟩
     . simp +decide (maxDischargeDepth:=200) only[go_sem]
     . simp +decide (maxDischargeDepth:=200) only[go_sem]
     . simp only;omega
   . have f1:decide ((k:Int)<(r.length:Int))=false:=tl (by omega);have e9:r.take k=r:=Vp (by omega);rw[e9];have hIr:=tS hI1 hyl r (fun x hx=>by rw[hrr];exact hx);have hle2:=Ia hI1.1 r;simp +decide (maxDischargeDepth:=200) only[go_sem,eq,f1,c4];refine⟨⟨(r.foldl aG l1,i+1),hIr,by simp only;omega,by simp only;omega,fun h=>?_⟩,?_,?_,?_⟩
     . simp only at h⊢;obtain⟨e4,e5⟩:=hcl1 (by omega);obtain⟨e6,e7⟩:=BI hI1.1 (r:=r) (by omega);refine⟨e6.trans e4,fun j hj y' hy' x hx=>?_⟩;by_cases hji:j=i
       . subst hji;rw[e4,hy'] at hy;cases hy;rw[<-e4];exact e7 x (by rw[<-hrr];exact hx)
       . exact e5 j (by omega) y' hy' x hx
     . simp +decide (maxDischargeDepth:=200) only[go_sem]
     . simp +decide (maxDischargeDepth:=200) only[go_sem]
     . simp only;omega
 . have c1:decide ((i:Int)<(l0.length:Int))=false:=tl (by omega);simp +decide (maxDischargeDepth:=200) only[go_sem,eq,c1];refine⟨⟨(l1,(l0.length:Int)),hI1,by simp only;omega,by simp only;omega,fun h=>?_⟩,?_,?_,?_⟩
   . simp only at h⊢;obtain⟨e4,e5⟩:=hcl1 (by omega);rw[e4];intro y hy x hx;obtain⟨j,hj⟩:=VU hy;have hjl:j<l0.length:=(Io.1 hj).1;exact e5 j (by omega) y hj x hx
   . simp +decide (maxDischargeDepth:=200) only[go_sem]
   . simp +decide (maxDischargeDepth:=200) only[go_sem]
   . simp only;omega
theorem KU {R:List RC} {i:Nat} {r:RC} (h1:L[i]?=some e) (h2:R[i]?=some r):(L.zip R).drop i=(e,r)::(L.zip R).drop (i+1):=by have h:(L.zip R)[i]?=some (e,r):=WI.2 ⟨h1,h2⟩;obtain⟨hlt,he⟩:=Io.1 h;rw[WZ hlt,he]
theorem xg:bM 15 (FE dt KT):=by
 refine av (E:=au []) (k:=2) (aM _ trivial) (by kernel_rfl) Tryz.func15 rfl (fun a w=>Tryz.call15 a w) Tryz.ntmps15 (by kernel_rfl) (by decide) (by decide) ?_;intro us r hF hdat;obtain⟨⟨⟨⟨nl,sz,L⟩,nr,zr,R⟩,ws,wc,wr⟩,hus,hG⟩:=aZ hF;clear hF;subst hus;have hF:=hG;clear hG;unfold KT at hF;split at hF
 case isFalse=>cases hF
 rename_i hok;cases hF;clear hdat;refine⟨rfl,?_⟩;have hok0:=hok;obtain⟨hsz,hzr,hm,hl4,hs,hr⟩:=hok;simp only at hsz hzr hm hl4 hs hr;have hcx:aa (ws,wc,wr)= .agg [.x (.string ws),.x (.int .i64 wc),.x (.int .i64 wr)]:=rfl;simp only[dt,tV,KP,hcx];have hRl:R.length=L.length:=by have:=WP List.length hm;simpa using this
 have hrv:tW ((nl,sz,L),nr,zr,R) (ws,wc,wr)=match (L.zip R).find? (fun q=>dD q.1.1 (ws,wc,wr)) with
  |some q=>tU q.2
  |none=> .sl true 0 [] none:=rfl
 rw[hrv];simp +decide (maxDischargeDepth:=200) only[go_sem,eq];refine aI (X:={i:Nat//i<=L.length∧((L.zip R).drop i).find? (fun q=>dD q.1.1 (ws,wc,wr))=(L.zip R).find? (fun q=>dD q.1.1 (ws,wc,wr))}) (fun i=>[(0,.ip [.sl nl sz (L.map bK) none,.sl nr zr (R.map tU) none]),(3,.ptr 3 0),(5,.x (.int .i64 ((i.1:Nat):Int)))]) (fun _=>[(3,[.x (.string ws),.x (.int .i64 wc),.x (.int .i64 wr)])]) (fun i=>L.length-i.1) ⟨0,VJ _,rfl⟩ (by simp +decide only[go_sem,VO]<;>(repeat' first|rfl|constructor)) (by simp +decide only[go_sem]<;>(repeat' first|rfl|constructor)) (fun⟨i,hi0,hat⟩=>?_);simp only at hi0 hat⊢;by_cases hi:i<L.length
 . have c1:decide ((i:Int)<(L.length:Int))=true:=iO (by omega);have c2:(0:Int)<=(i:Int):=by omega
   have c3:decide ((i:Int)<(R.length:Int))=true:=iO (by omega);have c4:=aF (i:=i) (by omega);obtain⟨e,r,q1,q2,q3,q4,q5,q6,q7⟩:=EM hok0 hi;simp only at q1 q2 q3 q4 q5;obtain rfl:=hsz (fun h=>by rw[h] at hi;simp at hi);obtain rfl:=hzr (fun h=>by rw[h] at hRl;simp at hRl;omega);rw[KU q1 q2] at hat;obtain⟨N,hN,lN⟩:=mG e;obtain⟨⟨cs,cc,cr⟩,ef,nd,vv⟩:=e;simp only at hN;rw[hN] at q4;cases hb:dD (cs,cc,cr) (ws,wc,wr) with
   |true=>simp only[X4,hb] at hat;rw[<-hat];simp only[tU] at q5⊢;generalize r.2.map aa=rl at q5⊢;generalize r.2.isEmpty=rn at q5⊢;generalize r.1=rz at q5⊢;simp +decide (maxDischargeDepth:=200) only[go_sem,eq,U3,lN,c1,c2,c3,q4,q5,HV,hb]
   | false=>
     simp only[X4,hb] at hat;simp +decide (maxDischargeDepth:=200) only[go_sem,eq,U3,lN,c1,c2,c3,c4,q4,HV,hb];refine⟨⟨i+1,hi,hat⟩,?_,?_,?_⟩
     . simp +decide (maxDischargeDepth:=200) only[go_sem]
     . simp +decide (maxDischargeDepth:=200) only[go_sem]
     . simp only;omega
 . have c1:decide ((i:Int)<(L.length:Int))=false:=tl (by omega);have hz:(L.zip R).drop i=[]:=List.drop_eq_nil_of_le (by rw[List.length_zip];omega);rw[hz,List.find?_nil] at hat;rw[<-hat];simp +decide (maxDischargeDepth:=200) only[go_sem,eq,c1]
def jO (p:(Bool×Nat×List En)×V):List V:=[.bx [.sl p.1.1 p.1.2.1 (p.1.2.2.map bK) none,p.2]]
theorem BL (p q:(Bool×Nat×List En)×V) (e:jO p=jO q):p=q:=by obtain⟨⟨a,b,c⟩,u⟩:=p;obtain⟨⟨d,f,g⟩,u'⟩:=q;simp only[jO,VE,V.bx.injEq,V.sl.injEq,Wx] at e;obtain⟨⟨rfl,rfl,h1⟩,rfl⟩:=e;rw[bu mH h1]
open Classical in
noncomputable def KX (p:(Bool×Nat×List En)×V):Option (V×List (List V)):=if (p.1.2.2≠[]->p.1.2.1=20)∧p.1.2.2.length<=400∧p.2= .sl true 0 [] none then some (xe (ar p.1.2.2),[[.sl p.1.1 p.1.2.1 (p.1.2.2.map bK) none,p.2]]) else none
theorem tX:yN 13 (FE jO KX):=by
 refine sJ (E:=fo [] (fun _=>false) []) (k:=1) (qG _ _ _ trivial trivial) (fun _ _=>rfl) (by kernel_rfl) Tryz.func13 rfl (fun a w=>Tryz.call13 a w) Tryz.ntmps13 (by kernel_rfl) (by decide) (by decide) ?_;intro us r outs hF;obtain⟨⟨⟨nl,sz,L⟩,u⟩,hus,hG⟩:=aZ hF;clear hF;subst hus;have hF:=hG;clear hG;unfold KX at hF;split at hF
 case isFalse=>cases hF
 rename_i hok;cases hF;obtain⟨hsz,hl4,hu⟩:=hok;simp only at hsz hl4 hu;subst hu;refine⟨rfl,?_⟩;simp only[jO,xe];simp +decide (maxDischargeDepth:=200) only[go_sem,eq];refine iQ 3 3 99 (by simp only[go_sem];rfl) ?_;refine aI (X:={p:Nat×Nat//p.1<=L.length}) (fun p=>[(0,.ptr 1000 0),(3,.sl ((ar (L.take p.1.1)).map aa).isEmpty 3 ((ar (L.take p.1.1)).map aa) (some p.1.2)),(4,.x (.int .i64 ((p.1.1:Nat):Int)))]) (fun _=>[(1000,[.sl nl sz (L.map bK) none,.sl true 0 [] none])]) (fun p=>L.length-p.1.1) ⟨(0,99),VJ _⟩ (by simp +decide only[go_sem,VW,VO]<;>(repeat' first|rfl|constructor)) (by simp +decide only[go_sem]<;>(repeat' first|rfl|constructor)) (fun⟨⟨i,tk⟩,hi0⟩=>?_);simp only at hi0⊢;by_cases hi:i<L.length
 . have c1:decide ((i:Int)<(L.length:Int))=true:=iO (by omega);have c2:(0:Int)<=(i:Int):=by omega
   have c4:=aF (i:=i) (by omega);have q1:L[i]?=some L[i]:=io hi;have q4:(L.map bK)[((i:Nat):Int).toNat]?=some (bK L[i]):=by rw[U2,U5,q1];rfl
   obtain rfl:=hsz (fun h=>by rw[h] at hi;simp at hi);have e3:(ar (L.take (i+1))).map aa=(ar (L.take i)).map aa++[aa L[i].1]:=by unfold ar;rw[aS q1,Vy,Vy];rfl
   have hal:((ar (L.take i)).map aa).length<=400:=by unfold ar;rw[eq,eq,Vj];omega
   generalize (ar (L.take i)).map aa=al at e3 hal⊢;generalize L[i]=e at q1 q4 e3;obtain⟨N,hN,lN⟩:=mG e;obtain⟨⟨cs,cc,cr⟩,ef,nd,vv⟩:=e;simp only at hN;rw[hN] at q4;simp only[bg] at e3;have g1:=cL (E:=fo [] (fun _=>false) []) (el:=24) (n:=3) kL kM kN (by decide) rfl (es:=al) (v:= .agg [.x (.string cs),.x (.int .i64 cc),.x (.int .i64 cr)]) rfl (by omega) (by omega);simp +decide (maxDischargeDepth:=200) only[go_sem,eq,U3,lN,c1,c2,c4,q4,g1];refine⟨⟨(i+1,24),hi⟩,?_,?_,?_⟩
   . simp +decide (maxDischargeDepth:=200) only[go_sem,e3]
   . simp +decide (maxDischargeDepth:=200) only[go_sem]
   . simp only;omega
 . have c1:decide ((i:Int)<(L.length:Int))=false:=tl (by omega);have e:L.take i=L:=Vp (by omega);rw[e];simp +decide (maxDischargeDepth:=200) only[go_sem,eq,c1]
abbrev ES:=Bool×Nat×List En
def cf (p:ES):List V:=[.sl p.1 p.2.1 (p.2.2.map bK) none]
theorem gK (p q:ES) (e:cf p=cf q):p=q:=by obtain⟨a,b,c⟩:=p;obtain⟨d,f,g⟩:=q;simp only[cf,VE,V.sl.injEq,Wx] at e;obtain⟨rfl,rfl,h⟩:=e;rw[bu mH h]
def EN (p:ES):Prop:=(p.2.2≠[]->p.2.1=20)∧p.2.2.length<=400∧∀e∈p.2.2,jF e.2.2.1<=400
open Classical in
noncomputable def mn (p:ES):Option V:=if EN p then some (.sl ((aE p.2.2).map bK).isEmpty 20 ((aE p.2.2).map bK) none) else none
def KY (L:List En) (e:En):RC:=(if e.2.1=true then 3 else 0,bw L e)
def EO (L:List En) (e:En):V:=tU (KY L e)
def i7 (l:List En):DP:=((((aE l).map bK).isEmpty,20,aE l),(((aE l).map (EO (aE l))).isEmpty,1,(aE l).map (KY (aE l))))
open Classical in
noncomputable def tY (p:ES):Option V:=if EN p then some (tV (i7 p.2.2)) else none
theorem og {l:List En} {x:En} (h:x∈aE l):x∈l:=by obtain⟨l1,l2,e,_⟩:=(tQ l x).1 h;rw[e];exact V7 _ (Vv ..)
theorem Ie {p:ES} (h:EN p):xd (i7 p.2.2):=by
 obtain⟨_,h2,h3⟩:=h;have hl:=oe p.2.2;refine⟨fun _=>rfl,fun _=>rfl,?_,by show(aE p.2.2).length<=400;omega,dI _,fun r hr=>?_⟩
 . show((aE p.2.2).map (KY (aE p.2.2))).map (fun r=>r.2)=_;rw[Wk];rfl
 . obtain⟨e,he,rfl⟩:=U7.1 (show r∈(aE p.2.2).map (KY (aE p.2.2)) from hr);constructor
   . intro hne;unfold KY at hne⊢;simp only at hne⊢;split
     . rfl
     . rename_i hf;unfold bw at hne;rw[Vh hf] at hne;exact absurd rfl hne
   . show(bw _ e).length<=1000000;unfold bw;split
     . have h4:=V6 (fun c=>gZ (ar (aE p.2.2)) c) (aw e.2.2.1);have h5:=eC e.2.2.1;have h6:=h3 e (og he);omega
     . simp
theorem y9 (e:En):∃N T:List V,bK e= .agg (.x (.string e.1.1):: .x (.int .i64 e.1.2.1):: .x (.int .i64 e.1.2.2):: .x (.bool e.2.1)::(N++T))∧N.length=13∧T.length=3∧am e.2.2.1= .agg N∧(N++T).take 13=N:=
 ⟨ik e.2.2.1.hd (mf e.2.2.1),_,rfl,rfl,rfl,bf _,rfl⟩
theorem EP (hLast:bM 29 (FE cf mn)):bM 10 (FE cf tY):=by
 refine tT (E:=aP [(29,(FE cf mn)),(30,(FE c9 ek)),(23,bY)] (fun _=>false) [(13,(FE jO KX))] (fun i=>i==12) (fun _=>false)) (k:=1) (t:=2) (eH _ _ _ _ _ ⟨hLast,BE,nX,trivial⟩ ⟨tX,trivial⟩) (by kernel_rfl) Tryz.func10 rfl (fun a w=>Tryz.call10 a w) Tryz.ntmps10 Tryz.results10 (by kernel_rfl) (by decide) (by decide) ?_;intro us r hF hdat;obtain⟨⟨nl,sz,l⟩,hus,hG⟩:=aZ hF;clear hF;subst hus;have hF:=hG;clear hG;unfold tY at hF;split at hF
 case isFalse=>cases hF
 rename_i hok;cases hF;clear hdat;have hla:FE cf mn [.sl nl sz (l.map bK) none]=some (.sl ((aE l).map bK).isEmpty 20 ((aE l).map bK) none):=(bC gK _ (nl,sz,l)).trans (Va hok);obtain⟨hsz,hl4,hcn⟩:=hok;simp only at hsz hl4 hcn;have hcn2:∀e∈aE l,jF e.2.2.1<=400:=fun e he=>hcn e (og he)
 have hll:=oe l;have hLs:=dI l;simp only[cf];unfold i7;generalize aE l=L at hla hcn2 hll hLs⊢;have hce:FE jO KX [.bx [.sl (L.map bK).isEmpty 20 (L.map bK) none,.sl true 0 [] none]]=some (xe (ar L),[[.sl (L.map bK).isEmpty 20 (L.map bK) none,.sl true 0 [] none]]):=(bC BL _ (((L.map bK).isEmpty,20,L),.sl true 0 [] none)).trans (Va ⟨fun _=>rfl,by simp only;omega,rfl⟩);have hrow:∀i:Nat,((L.take i).map (EO L)).length<=400:=fun i=>by rw[eq,Vj];omega
 have hfin:L.map (EO L)=(L.map (KY L)).map tU:=by rw[Wk];rfl
 have hLe:(L.map bK).length=L.length:=eq _;have hAt:∀i e,L[i]?=some e->(L.map bK)[((i:Nat):Int).toNat]?=some (bK e):=fun i e h=>by rw[U2,U5,h];rfl
 refine⟨rfl,_,rfl,?_⟩
 . simp only[xe] at hce;simp only[KP,hfin.symm];generalize hLE:L.map bK=LE at hla hce hLe hAt⊢;simp +decide (maxDischargeDepth:=200) only[go_sem,Nat.reduceBEq,hla,hce];refine A6 12 1 98 [.sl LE.isEmpty 20 LE none] [] (by simp only[go_sem,Nat.reduceBEq];rfl) ?_;refine aI (X:={p:Nat×Nat//p.1<=L.length∧(p.2=98∨p.2=67)}) (fun p=>[(3,.ptr 12 0),(4,.sl ((ar L).map aa).isEmpty 3 ((ar L).map aa) none),(5,.x (.int .i64 ((p.1.1:Nat):Int)))]) (fun p=>[(12,[.sl LE.isEmpty 20 LE none,.sl ((L.take p.1.1).map (EO L)).isEmpty 1 ((L.take p.1.1).map (EO L)) (some p.1.2)])]) (fun p=>L.length-p.1.1) ⟨(0,98),VJ _,.inl rfl⟩ (by simp +decide only[go_sem,Nat.reduceBEq,VO]<;>(repeat' first|rfl|constructor)) (by simp +decide only[go_sem,Nat.reduceBEq,VW,X5,List.isEmpty_nil]<;>(repeat' first|rfl|constructor)) (fun⟨⟨i,tk⟩,hi0,htk⟩=>?_);simp only at hi0 htk⊢;by_cases hi:i<L.length
   . have c1:decide ((i:Int)<(L.length:Int))=true:=iO (by omega);have c2:(0:Int)<=(i:Int):=by omega
     have c4:=aF (i:=i) (by omega);have q1:L[i]?=some L[i]:=io hi;have q4:=hAt i _ q1;have e3:(L.take (i+1)).map (EO L)=(L.take i).map (EO L)++[EO L L[i]]:=by rw[aS q1,Vy];rfl
     have hal:=hrow i;have hme:=Vd q1;generalize (L.take i).map (EO L)=al at e3 hal⊢;generalize L[i]=e at q1 q4 e3 hme;have hcnt:=hcn2 e hme;obtain⟨N,T,hN,lN,lT,hnd,tkN⟩:=y9 e;obtain⟨⟨cs,cc,cr⟩,ef,nd,vv⟩:=e;simp only at hN hnd hcnt;rw[hN] at q4;have g2:∀(v:V),v.cells.all V.cell=true->∀(st:St) (d tok:Nat) (nl:Bool) (t':Option Nat),bi (aP [(29,(FE cf mn)),(30,(FE c9 ek)),(23,bY)] (fun _=>false) [(13,(FE jO KX))] (fun i=>i==12) (fun _=>false)) st (some d) 32 (.sl al.isEmpty 1 al (some tok)) (.sl nl 1 [v] t')=_:=fun v hv=>cL (E:=aP [(29,(FE cf mn)),(30,(FE c9 ek)),(23,bY)] (fun _=>false) [(13,(FE jO KX))] (fun i=>i==12) (fun _=>false)) (el:=32) (n:=1) L5 L6 L7 (by decide) rfl (es:=al) (v:=v) hv (by omega) (by omega)
     cases ef with
     | false=>
       have ev:EO L ((cs,cc,cr),false,nd,vv)= .sl true 0 [] none:=rfl;rw[ev] at e3;have g3:=g2 (.sl true 0 [] none) rfl;simp +decide (maxDischargeDepth:=200) only[go_sem,Nat.reduceBEq,eq,U3,U4,lN,lT,hLe,c1,c2,c4,q4,g3];refine⟨⟨(i+1,67),hi,.inr rfl⟩,?_,?_,?_⟩
       . simp +decide (maxDischargeDepth:=200) only[go_sem,Nat.reduceBEq]
       . simp +decide (maxDischargeDepth:=200) only[go_sem,Nat.reduceBEq,e3]
       . simp only;omega
     | true=>
       have hrd:FE c9 ek [.agg N]=some (.sl (aw nd).isEmpty (jw (aw nd)) ((aw nd).map aa) none):=by rw[<-hnd];exact(bC iT _ nd).trans (lC hcnt)
       have ev:EO L ((cs,cc,cr),true,nd,vv)= .sl ((aw nd).filter fun c=>gZ (ar L) c).isEmpty 3 (((aw nd).filter fun c=>gZ (ar L) c).map aa) none:=rfl;have hr4:(aw nd).length<=160000:=by have:=eC nd;omega
       have hzO:aw nd≠[]->jw (aw nd)=3:=fun h=>by
        unfold jw;cases hh:aw nd with
        |nil=>exact absurd hh h
        |cons _ _=>rfl
       have hem:∀l:List C3,(l.map aa).isEmpty=l.isEmpty:=fun l=>by cases l<;>rfl
       rw[<-hem] at ev;rw[ev] at e3;generalize (aw nd).isEmpty=rn at hrd;generalize jw (aw nd)=rz at hrd hzO;generalize aw nd=rs at hrd e3 hr4 hzO;simp +decide (maxDischargeDepth:=200) only[go_sem,Nat.reduceBEq,eq,U3,U4,lN,lT,hLe,c1,c2,c4,q4,tkN,hrd];refine iQ 6 3 97 (by simp only[go_sem];rfl) ?_;refine aI (X:={p:Nat×Nat//p.1<=rs.length∧(p.2=97∨p.2=59)}) (fun p=>[(3,.ptr 12 0),(4,.sl ((ar L).map aa).isEmpty 3 ((ar L).map aa) none),(5,.x (.int .i64 ((i:Nat):Int))),(6,.sl (((rs.take p.1.1).filter fun c=>gZ (ar L) c).map aa).isEmpty 3 (((rs.take p.1.1).filter fun c=>gZ (ar L) c).map aa) (some p.1.2)),(7,.sl rn rz (rs.map aa) none),(8,.x (.int .i64 ((p.1.1:Nat):Int)))]) (fun _=>[(12,[.sl LE.isEmpty 20 LE none,.sl (al).isEmpty 1 (al) (some tk)])]) (fun p=>rs.length-p.1.1) ⟨(0,97),VJ _,.inl rfl⟩ (by simp +decide only[go_sem,Nat.reduceBEq,VW,X0,VO]<;>(repeat' first|rfl|constructor)) (by simp +decide only[go_sem,Nat.reduceBEq]<;>(repeat' first|rfl|constructor)) (fun⟨⟨k,tk2⟩,hk0,htk2⟩=>?_);simp only at hk0 htk2⊢;by_cases hk:k<rs.length
       . have f1:decide ((k:Int)<(rs.length:Int))=true:=iO (by omega);have f2:(0:Int)<=(k:Int):=by omega
         have f4:=aF (i:=k) (by omega);obtain⟨z,hz⟩:∃z,rs[k]?=some z:=⟨_,io hk⟩;have hza:=ca hz;obtain rfl:=hzO (fun h=>by rw[h] at hk;simp at hk);have e5:((rs.take (k+1)).filter fun c=>gZ (ar L) c).map aa=((rs.take k).filter fun c=>gZ (ar L) c).map aa++(if gZ (ar L) z=true then [aa z] else []):=by rw[aS hz,XL,Vy];congr 1;simp only[W3,X0];split<;>rfl
         have hbl:(((rs.take k).filter fun c=>gZ (ar L) c).map aa).length<=160000:=by have:=V6 (fun c=>gZ (ar L) c) (rs.take k);rw[Vj] at this;rw[eq];omega
         generalize ((rs.take k).filter fun c=>gZ (ar L) c).map aa=bl at e5 hbl⊢;obtain⟨zs,zc,zr⟩:=z;have hh:=nW (nl:=((ar L).map aa).isEmpty) (sz:=3) (l:=ar L) zs zc zr (by unfold ar;rw[eq];omega) (.inl rfl);have hin:((ar L).any fun p=>dD p (zs,zc,zr))=gZ (ar L) (zs,zc,zr):=rfl;rw[hin] at hh;simp only[bg] at hza e5;have g1:=cL (E:=aP [(29,(FE cf mn)),(30,(FE c9 ek)),(23,bY)] (fun _=>false) [(13,(FE jO KX))] (fun i=>i==12) (fun _=>false)) (el:=24) (n:=3) kL kM kN (by decide) rfl (es:=bl) (v:= .agg [.x (.string zs),.x (.int .i64 zc),.x (.int .i64 zr)]) rfl (by omega) (by omega);cases hb:gZ (ar L) (zs,zc,zr) with
         | true=>
           rw[hb] at hh e5;rw[Va rfl] at e5;simp +decide (maxDischargeDepth:=200) only[go_sem,Nat.reduceBEq,eq,f1,f2,f4,hza,hh,g1];refine⟨⟨(k+1,59),hk,.inr rfl⟩,?_,?_,?_⟩
           . simp +decide (maxDischargeDepth:=200) only[go_sem,Nat.reduceBEq,e5]
           . rcases htk with rfl|rfl<;>rcases htk2 with rfl|rfl<;>simp +decide (maxDischargeDepth:=200) only[go_sem,Nat.reduceBEq]
           . simp only;omega
         | false=>
           rw[hb] at hh e5;rw[Vh (by decide),Wq] at e5;simp +decide (maxDischargeDepth:=200) only[go_sem,Nat.reduceBEq,eq,f1,f2,f4,hza,hh];refine⟨⟨(k+1,tk2),hk,htk2⟩,?_,?_,?_⟩
           . simp +decide (maxDischargeDepth:=200) only[go_sem,Nat.reduceBEq,e5]
           . simp +decide (maxDischargeDepth:=200) only[go_sem,Nat.reduceBEq]
           . simp only;omega
       . have f1:decide ((k:Int)<(rs.length:Int))=false:=tl (by omega);have e9:rs.take k=rs:=Vp (by omega);rw[e9];generalize (rs.filter fun c=>gZ (ar L) c).map aa=bl at e3⊢;have g3:=g2 (.sl bl.isEmpty 3 bl none) rfl;simp +decide (maxDischargeDepth:=200) only[go_sem,Nat.reduceBEq,eq,f1,c4,g3];refine⟨⟨(i+1,67),hi,.inr rfl⟩,?_,?_,?_⟩
         . simp +decide (maxDischargeDepth:=200) only[go_sem,Nat.reduceBEq]
         . simp +decide (maxDischargeDepth:=200) only[go_sem,Nat.reduceBEq,e3]
         . simp only;omega
   . have c1:decide ((i:Int)<(L.length:Int))=false:=tl (by omega);have e:L.take i=L:=Vp (by omega);rw[e];simp +decide (maxDischargeDepth:=200) only[go_sem,Nat.reduceBEq,eq,hLe,c1]
end Go.Proofs.YtalkmhjanlljhaaGreat

/- Chapter 12: the reference's Last: its entries' cells as very values; a row written within. -/
import Derived.Test.YtmfojhkjbkombaaGreatMD
import Derived.Test.YtmfojhkjbkombaaGreatMH
namespace Go.Proofs.YtmfojhkjbkombaaGreat
set_option linter.unusedSimpArgs false
set_option maxHeartbeats 64000000
set_option maxRecDepth 100000
open Go Go.RowKit
attribute [go_sem] Tryz.results27
def f8 {α:Type} (key:α->C3) (out:List α) (e:α):List α:=
 out.takeWhile (fun x=>ae (key x) (key e))++e::(match out.dropWhile (fun x=>ae (key x) (key e)) with
  |x::r=>if key x=key e then r else x::r
  |[]=>[])
def bO {α:Type} (key:α->C3) (l:List α):List α:=l.foldl (f8 key) []
variable {α:Type}
theorem Is {β:Type} {ka:α->C3} {kb:β->C3} {f:α->β} (hf:∀x,kb (f x)=ka x) (out:List α) (e:α):(f8 ka out e).map f=f8 kb (out.map f) (f e):=by
 have h1:(out.map f).takeWhile (fun x=>ae (kb x) (kb (f e)))=(out.takeWhile fun x=>ae (ka x) (ka e)).map f:=by rw[List.takeWhile_map];congr 1;congr 1;funext x;simp only[Function.comp,hf]
 have h2:(out.map f).dropWhile (fun x=>ae (kb x) (kb (f e)))=(out.dropWhile fun x=>ae (ka x) (ka e)).map f:=by rw[List.dropWhile_map];congr 1;congr 1;funext x;simp only[Function.comp,hf]
 unfold f8;rw[h1,h2,Y4,Y0];congr 2;generalize out.dropWhile (fun x=>ae (ka x) (ka e))=r;cases r with
 |nil=>rfl
 |cons y r=>simp only[Y0,hf];split<;>rfl
theorem qr {β:Type} {ka:α->C3} {kb:β->C3} {f:α->β} (hf:∀x,kb (f x)=ka x) (l:List α):(bO ka l).map f=bO kb (l.map f):=by
 have key:∀(l out:List α),(l.foldl (f8 ka) out).map f=(l.map f).foldl (f8 kb) (out.map f):=by
  intro l
  induction l with
  |nil=>exact fun _=>rfl
  |cons e l ih=>intro out;rw[ZR,ih,Is hf,Y0,ZR]
 exact key l []
theorem Ol (out:List En) (e:En):f8 (fun e:En=>e.1) out e=kC out e:=by
 unfold f8 kC;simp only;congr 2;cases out.dropWhile (fun x=>ae x.1 e.1) with
 |nil=>rfl
 |cons x r=>rfl
theorem LH (l:List En):bO (fun e:En=>e.1) l=be l:=by unfold bO be;congr 1;funext out e;exact Ol out e
theorem zw (key:α->C3) (l:List α) (e:α):bO key (l++[e])=f8 key (bO key l) e:=by unfold bO;rw[aan];rfl
theorem It (key:α->C3) (out:List α) (e:α):(f8 key out e).length<=out.length+1:=by
 have h0:=aap List.length (ZH (p:=fun x=>ae (key x) (key e)) (l:=out));rw[YD] at h0;unfold f8;rw[YD,YI];generalize out.dropWhile (fun x=>ae (key x) (key e))=r at h0;cases r with
 |nil=>simp at h0⊢;omega
 | cons y r=>
   simp only[YI] at h0⊢;split
   . omega
   . rw[YI];omega
theorem Iu (key:α->C3) {out:List α} {e x:α} (h:x∈f8 key out e):x=e∨x∈out:=by
 have e0:=ZH (p:=fun x=>ae (key x) (key e)) (l:=out);unfold f8 at h;rcases YM.1 h with h|h
 . exact .inr (by rw[<-e0];exact Zi _ h)
 . rcases YT.1 h with h|h
   . exact .inl h
   . right;rw[<-e0];refine ZU _ ?_;generalize out.dropWhile (fun x=>ae (key x) (key e))=r at h;cases r with
     |nil=>cases h
     | cons y r=>
       simp only at h;split at h
       . exact YY _ h
       . exact h
theorem qt (key:α->C3) {l:List α}:∀{x:α},x∈bO key l->x∈l:=by
 have key':∀(l out:List α) (x:α),x∈l.foldl (f8 key) out->x∈out∨x∈l:=by
  intro l
  induction l with
  |nil=>exact fun out x h=> .inl h
  | cons e l ih=>
    intro out x h;rcases ih _ x h with h|h
    . rcases Iu key h with h|h
      . exact .inr (h▸Zc ..)
      . exact .inl h
    . exact .inr (YY _ h)
 intro x h;exact(key' l [] x h).resolve_left A0j
theorem DY (key:α->C3) (l:List α):(bO key l).length<=l.length:=by
 have key':∀(l out:List α),(l.foldl (f8 key) out).length<=out.length+l.length:=by
  intro l
  induction l with
  |nil=>exact fun out=>YJ _
  |cons e l ih=>intro out;have h1:=ih (f8 key out e);have h2:=It key out e;rw[ZR,YI];omega
 have:=key' l [];simpa[bO] using this
abbrev RE:=C3×List Value
def js (e:RE):C3:=e.1
def bG (e:RE):V:= .agg (.x (.string e.1.1):: .x (.int .i64 e.1.2.1):: .x (.int .i64 e.1.2.2)::e.2.map V.x)
def vW (e:RE):Prop:=e.2.length=17∧∀v∈e.2,(V.x v).cell=true
theorem mI (e:RE) (h:vW e):∃M:List V,bG e= .agg (.x (.string e.1.1):: .x (.int .i64 e.1.2.1):: .x (.int .i64 e.1.2.2)::M)∧M.length=17∧M.take 17=M:=by refine⟨_,rfl,by rw[eq];exact h.1,YS (by rw[eq];exact Nat.le_of_eq h.1)⟩
variable {l:List RE}
theorem zx (h:∀e∈l,vW e):((l.map bG).all fun u=>u.cells.all V.cell)=true:=YK.2 fun u hu=>by
 obtain⟨e,he,rfl⟩:=YR.1 hu;refine YK.2 fun c hc=>?_
 simp only[bG,V.cells,YT,YR] at hc;rcases hc with rfl|rfl|rfl|⟨v,hv,rfl⟩
 . rfl
 . rfl
 . rfl
 . exact(h e he).2 v hv
variable {E:Env}
theorem LI (hP:E.P=Tryz.prog) {a b:List RE} (h:a.length+b.length<=1000) (hb:∀e∈b,vW e) (st:St) (d tok sz:Nat) (nl:Bool) (t':Option Nat) (hs:sz=20∨b.map bG=[]):
 bq E st (some d) 49 (.sl false 20 (a.map bG) (some tok)) (.sl nl sz (b.map bG) t')=some ⟨upd (strip tok (strip d st.t)) d (.sl false 20 ((a++b).map bG) (some d)),aB E tok (aB E d st.b)⟩:=by
 have e1:bm E.P 49=some 20:=by rw[hP];exact xj
 obtain⟨by',e2,h2⟩:∃by',bT E.P 49=some by'∧by'<=1000:=⟨_,by rw[hP];exact EP,A0c⟩;obtain⟨z,e3,h3⟩:∃z,ay E.P 49=some z∧z.length=20:=⟨_,by rw[hP];exact EQ,rfl⟩;unfold bq;simp only[e1,e2,e3];have hm:((a.map bG).length+(b.map bG).length)*by'<=1000*1000:=abz (by rw[eq,eq];omega) h2;rw[YG ⟨A0c,h3,trivial,hs,zx hb,A0b,by rw[eq,eq];omega⟩,Y4]
theorem Iv (hP:E.P=Tryz.prog) {b:List RE} (h:b.length<=1000) (hb:∀e∈b,vW e) (st:St) (d n sz:Nat) (nl:Bool) (t':Option Nat) (hs:sz=20∨b.map bG=[]):
 bq E st (some d) 49 (.sl true n [] none) (.sl nl sz (b.map bG) t')=some ⟨upd (strip d st.t) d (.sl (b.map bG).isEmpty 20 (b.map bG) (some d)),aB E d st.b⟩:=by
 have e1:bm E.P 49=some 20:=by rw[hP];exact xj
 obtain⟨by',e2,h2⟩:∃by',bT E.P 49=some by'∧by'<=1000:=⟨_,by rw[hP];exact EP,A0c⟩;obtain⟨z,e3,h3⟩:∃z,ay E.P 49=some z∧z.length=20:=⟨_,by rw[hP];exact EQ,rfl⟩;unfold bq;simp only[e1,e2,e3];have hm:(b.map bG).length*by'<=1000*1000:=abz A0v h2;rw[YG ⟨A0c,h3,hs,zx hb,A0b,A0v⟩];rfl
theorem Iw (hP:E.P=Tryz.prog) {a:List RE} {e:RE} (h:a.length<=999) (hb:vW e) (st:St) (d tok:Nat) (nl:Bool) (t':Option Nat):
 bq E st (some d) 49 (.sl (a.map bG).isEmpty 20 (a.map bG) (some tok)) (.sl nl 20 [bG e] t')=some ⟨upd (strip tok (strip d st.t)) d (.sl false 20 ((a++[e]).map bG) (some d)),aB E tok (aB E d st.b)⟩:=by
 obtain⟨by',e2,h2⟩:∃by',bT E.P 49=some by'∧by'<=1000:=⟨_,by rw[hP];exact EP,A0c⟩;obtain⟨z,e3,h3⟩:∃z,ay E.P 49=some z∧z.length=20:=⟨_,by rw[hP];exact EQ,rfl⟩;have hm:((a.map bG).length+1)*by'<=1000*1000:=abz A0v h2;have hone:(bG e).cells.all V.cell=true:=by have:=zx (l:=[e]) (fun x hx=>by rw[YF.1 hx];exact hb);simpa using this
 rw[Y4];exact cZ (E:=E) (n:=20) (by rw[hP];exact xj) e2 e3 A0c h3 hone A0b A0v st d tok nl t'
theorem Ix {i:Nat}:List.take ((i:Int).toNat-0) (l.map bG)=(l.take i).map bG:=by simp[List.map_take]
theorem Iy {i:Nat}:List.take ((((l.map bG).length:Nat):Int).toNat-(i:Int).toNat) (List.drop (i:Int).toNat (l.map bG))=(l.drop i).map bG:=by rw[tl,tl,List.map_drop,YS A0j]
theorem A9 {i:Nat} {e:RE} (h:l[i]?=some e):(l.map bG)[((i:Nat):Int).toNat]?=some (bG e):=by rw[tl,Io,h];rfl
variable {c:C3} {k:Nat}
theorem Ba (hk:k<=l.length) (h1:∀(j:Nat) (q:RE),j<k->l[j]?=some q->ae q.1 c=true) (h2:∀q,l[k]?=some q->ae q.1 c=false) (e:RE) (he:e.1=c):
 f8 js l e=l.take k++e::(match l.drop k with
  |x::r=>if x.1=c then r else x::r
  |[]=>[]):=by
 obtain⟨q1,q2⟩:=gy (fun q:RE=>ae q.1 c) l k hk h1 h2;unfold f8 js;rw[he,q1,q2];congr 2;cases l.drop k with
 |nil=>rfl
 |cons x r=>rfl
theorem LJ (hk:k<=l.length) (h1:∀(j:Nat) (q:RE),j<k->l[j]?=some q->ae q.1 c=true) (h2:∀q,l[k]?=some q->ae q.1 c=false) (h3:∀q,l[k]?=some q->q.1≠c) (e:RE) (he:e.1=c):f8 js l e=(l.take k++[e])++l.drop k:=by
 rw[Ba hk h1 h2 e he,Zw,List.singleton_append];congr 2;cases hd:l.drop k with
 |nil=>rfl
 | cons x r=>
   have hx:l[k]?=some x:=by have:=aap List.head? hd;rw[List.head?_drop] at this;exact this
   simp only;rw[YL (h3 x hx)]
theorem LK {q0:RE} (h1:∀(j:Nat) (q:RE),j<k->l[j]?=some q->ae q.1 c=true) (hq:l[k]?=some q0) (hc:q0.1=c) (e:RE) (he:e.1=c):f8 js l e=l.set k e:=by
 have hk:=(iO.1 hq).1;rw[Ba (abF hk) h1 (fun q h=>by rw[hq] at h;cases h;rw[hc];exact bQ.irr _) e he,abk hk];have hx:l[k]=q0:=by have:=io hk;rw[hq] at this;exact(aaK this).symm
 simp only[hx];rw[YG hc,List.set_eq_take_append_cons_drop,YG hk]
def fD (e:RE):List Value:= .string e.1.1:: .int .i64 e.1.2.1:: .int .i64 e.1.2.2::e.2
theorem vX:∀l:List Value,(l.map V.x).mapM V.one=some l
 |[]=>rfl
 |v::l=>by rw[Y0,aaG,vX l];rfl
theorem LL (e:RE):(bG e).val=some (.agg (fD e).toArray):=by show(((fD e).map V.x).mapM V.one).map (fun l=>Value.agg l.toArray)=_;rw[vX];rfl
theorem LM (l:List RE) (c:C3):∃k,k<=l.length∧(∀(j:Nat) (q:RE),j<k->l[j]?=some q->ae q.1 c=true)∧∀q,l[k]?=some q->ae q.1 c=false:=by
 induction l with
 |nil=>exact⟨0,YJ _,fun j q h=>by omega,fun q h=>by simp at h⟩
 | cons x l ih=>
   cases hx:ae x.1 c with
   |false=>exact⟨0,Zf _,fun j q h=>by omega,fun q h=>by simp at h;rw[<-h];exact hx⟩
   | true=>
     obtain⟨k,h1,h2,h3⟩:=ih;refine⟨k+1,by simpa using h1,fun j q hj hq=>?_,fun q hq=>h3 q A1e ⟩;cases j with
     |zero=>simp at hq;rw[<-hq];exact hx
     |succ j=>exact h2 j q A0b A1e
abbrev RS:=Bool×Nat×List RE
def Xz (p:RS):Prop:=(p.2.2≠[]->p.2.1=20)∧p.2.2.length<=400∧∀e∈p.2.2,vW e
theorem zy:EnvOK (aV [(42,bh)] (fun _=>false) [] (fun _=>false) (fun i=>i==10)):=fQ _ _ _ _ _ ⟨pP,trivial⟩ trivial
variable {m:Lim} {w:World} {nl:Bool} {sz:Nat}
theorem zz {vs:Array Value} (hok:Xz (nl,sz,l)) (hr:RdL m w vs.toList [.sl nl sz (l.map bG) none]) (hj:(aV [(42,bh)] (fun _=>false) [] (fun _=>false) (fun i=>i==10)).J w) (hg:∀g,Rd m w (.pointer (some ⟨g,0,none⟩)) ((aV [(42,bh)] (fun _=>false) [] (fun _=>false) (fun i=>i==10)).G g)):
 Calls Tryz.prog 27 vs w fun e w'=>∃v,e= .returned v∧∃m',Rd m' w' v (.sl ((bO js l).map bG).isEmpty 20 ((bO js l).map bG) none)∧Step (fun _=>False) m w m' w':=by
 have hE:EnvOK (aV [(42,bh)] (fun _=>false) [] (fun _=>false) (fun i=>i==10)):=zy;have hMB:∀s,(aV [(42,bh)] (fun _=>false) [] (fun _=>false) (fun i=>i==10)).MB s=false:=fun _=>rfl
 have hm:(aV [(42,bh)] (fun _=>false) [] (fun _=>false) (fun i=>i==10)).P.follows .mixedOrders=true:=A0a
 obtain⟨hsz,hl4,hall⟩:=hok;simp only at hsz hl4 hall;refine jy (E:=(aV [(42,bh)] (fun _=>false) [] (fun _=>false) (fun i=>i==10))) (n:=70) (sz:=20) (k:=1) (Kn:=Kno.top) Tryz.func27 rfl Tryz.ntmps27 A0c A0c hr rfl rfl hj hg trivial (fun a0 hS=>?_)
 --slot 0 is kept in sight
 obtain⟨v0,hv0⟩:∃v0,a0.tmps.getD 0 Go.undef=v0:=⟨_,rfl⟩;have hrd0:Rd m w v0 (.sl nl sz (l.map bG) none):=by obtain⟨m1,O,gs,q1,_,_,_,q5,_⟩:=hS;obtain⟨b,β,hrel⟩:=q1.rel;have:=(hrel.tmps 0:Rs m1 w β _ (.sl nl sz (l.map bG) none)).rd rfl;rw[hv0] at this;have hx:Ext m1 w m w:=⟨YJ _,fun _ _ _ _ _ h=>h,fun blk hb fr hf=>⟨fr,by rw[(q5.same blk hb (fun h=>h)).2];exact hf,YJ _⟩,fun _ _ _ _ h=>h⟩;exact this.mono hx
 obtain⟨t0,ht0,h1⟩:=hS.keepS 0 v0 hv0;refine wpIn_seq (fy hE hm [(0,.sl nl sz (l.map bG) none)] [] A0a A0a h1 A0f ?_);clear h1 hv0 hS a0;intro a0 w1 h1;refine wpIn_seq (fy hE hm [(0,.sl nl sz (l.map bG) none),(3,.sl true 0 [] none)] [] A0a A0a h1 A0f ?_);clear h1 a0 w1;intro a0 w1 h1;refine wpIn_seq (wpIn_seq (fy hE hm [(0,.sl nl sz (l.map bG) none),(3,.sl true 0 [] none),(4,.x (.int .i64 0))] [] A0a A0a h1 A0f ?_));clear h1 a0 w1;intro a0 w1 h1;replace h1:=(h1.nil 3 20 (some 68) (n0:=0) (k0:=none) (by simp only[go_sem,Nat.reduceEqDiff,YU,YX,cJ,au,wa])).le (st':=au [(0,.sl nl sz (l.map bG) none),(3,.sl ((bO js (l.take 0)).map bG).isEmpty 20 ((bO js (l.take 0)).map bG) (some 68)),(4,.x (.int .i64 ((0:Nat):Int)))] []) (aJ (by simp +decide (maxDischargeDepth:=200) only[go_sem,Nat.reduceBEq,YO]<;>(repeat' first|rfl|constructor)) A0f);refine wpIn_block (dE (X:={i:Nat//i<=l.length}) (fun i a' w'=>Hold (aV [(42,bh)] (fun _=>false) [] (fun _=>false) (fun i=>i==10)) 70 20 ⟨Kno.top,fun i=>i !=0,t0,m,w⟩ [] (au [(0,.sl nl sz (l.map bG) none),(3,.sl ((bO js (l.take i.1)).map bG).isEmpty 20 ((bO js (l.take i.1)).map bG) (some 68)),(4,.x (.int .i64 ((i.1:Nat):Int)))] []) a' w') (fun i=>l.length-i.1) ⟨0,Zf _⟩ h1 ?_);clear h1 a0 w1;rintro⟨i,hi0⟩ a0 w1 h1;simp only at h1 hi0⊢;by_cases hi:i<l.length
 . have c1 :decide ((i:Int)<(l.length:Int))=true:=Yz A0b;have i0:(0:Int)<=(i:Int):=A0b
   have c4:=aD (i:=i) A0b;have q1:l[i]?=some l[i]:=io hi;have q2:=A9 q1;have hoke:=hall _ (Y5 hi);obtain rfl:=hsz (fun h=>by rw[h] at hi;simp at hi);have e3:bO js (l.take (i+1))=f8 js (bO js (l.take i)) l[i]:=by rw[aF q1,zw]
   have hol:(bO js (l.take i)).length<=400:=Y6 (DY js _) A0A;have hoo:∀e∈bO js (l.take i),vW e:=fun e he=>hall e (abh (qt js he))
   generalize bO js (l.take i)=out at h1 e3 hol hoo;generalize l[i]=en at q1 q2 e3 hoke;refine wpIn_seq (fy hE hm [(0,.sl nl 20 (l.map bG) none),(3,.sl ((out).map bG).isEmpty 20 ((out).map bG) (some 68)),(4,.x (.int .i64 (i:Int)))] [] A0a A0a h1 A0N ?_);clear h1 a0 w1;intro a0 w1 h1;have hex:=LM out en.1;obtain⟨k,hk,hb,hs⟩:=hex;refine wpIn_seq (wpIn_block (wpIn_mono (Q:=fun e a' w'=>(e= .normal∨e= .exit 1)∧Hold (aV [(42,bh)] (fun _=>false) [] (fun _=>false) (fun i=>i==10)) 70 20 ⟨Kno.top,fun i=>i !=0,t0,m,w⟩ [] (au [(0,.sl nl 20 (l.map bG) none),(3,.sl ((bO js (l.take (i+1))).map bG).isEmpty 20 ((bO js (l.take (i+1))).map bG) (some 68)),(4,.x (.int .i64 (i:Int)))] []) a' w') ?main ?tail))
   case tail=>
    rintro e a' w' ⟨he,h2⟩;rcases he with rfl|rfl<;>simp only[Exit.inBlock,Exit.then,YX]
    . exact fy hE hm [(0,.sl nl 20 (l.map bG) none),(3,.sl ((bO js (l.take (i+1))).map bG).isEmpty 20 ((bO js (l.take (i+1))).map bG) (some 68)),(4,.x (.int .i64 ((i+1:Nat):Int)))] [] A0a A0a h2 A0M (fun a3 w3 h3=>⟨⟨i+1,hi⟩,h3,by simp only;omega⟩)
    . exact fy hE hm [(0,.sl nl 20 (l.map bG) none),(3,.sl ((bO js (l.take (i+1))).map bG).isEmpty 20 ((bO js (l.take (i+1))).map bG) (some 68)),(4,.x (.int .i64 ((i+1:Nat):Int)))] [] A0a A0a h2 A0M (fun a3 w3 h3=>⟨⟨i+1,hi⟩,h3,by simp only;omega⟩)
   case main=>
    refine wpIn_seq (fy hE hm [(0,.sl nl 20 (l.map bG) none),(3,.sl ((out).map bG).isEmpty 20 ((out).map bG) (some 68)),(4,.x (.int .i64 (i:Int))),(5,.x (.int .i64 0))] [] A0a A0a h1 A0f ?_);clear h1 a0 w1;intro a0 w1 h1;obtain⟨N,hN,lN,tN⟩:=mI en hoke;rw[hN] at q2;refine wpIn_seq (fy hE hm [(0,.sl nl 20 (l.map bG) none),(3,.sl ((out).map bG).isEmpty 20 ((out).map bG) (some 68)),(4,.x (.int .i64 (i:Int))),(5,.x (.int .i64 (k:Int)))] [] A0a A0a h1 ?run ?cont)
    case run=>
     simp +decide (maxDischargeDepth:=200) only[go_sem,Nat.reduceBEq,eq];refine bc (X:={j:Nat//j<=k}) (fun j=>[(0,.sl nl 20 (l.map bG) none),(3,.sl ((out).map bG).isEmpty 20 ((out).map bG) (some 68)),(4,.x (.int .i64 (i:Int))),(5,.x (.int .i64 ((j.1:Nat):Int)))]) (fun _=>[]) (fun j=>k-j.1) ⟨0,Zf _⟩ A02 A0e (fun⟨j,hj⟩=>?_);simp only at hj⊢;have j0:(0:Int)<=(j:Int):=A0b
     have j4:=aD (i:=j) A0b;by_cases hjl:j<out.length
     . have d0:decide ((j:Int)<(out.length:Int))=true:=Yz A0b;have p1:out[j]?=some out[j]:=io hjl;have p2:=A9 p1;obtain⟨M,hM,lM,tM⟩:=mI out[j] (hoo _ (Y5 hjl));rw[hM] at p2;by_cases hjk:j<k
       . have hq:dJ (out[j]).1.1 (out[j]).1.2.1 (out[j]).1.2.2 en.1.1 en.1.2.1 en.1.2.2=true:=hb j _ hjk p1;simp +decide (maxDischargeDepth:=200) only[go_sem,Nat.reduceBEq,eq,YI,lM,lN,d0,j0,j4,i0,p2,q2,bh,hq];refine⟨⟨j+1,hjk⟩,?_,?_,?_⟩
         . simp +decide (maxDischargeDepth:=200) only[go_sem,Nat.reduceBEq,eq]
         . simp +decide (maxDischargeDepth:=200) only[go_sem,Nat.reduceBEq,eq]
         . simp only;omega
       . obtain rfl:j=k:=A0b
         have hq:dJ (out[j]).1.1 (out[j]).1.2.1 (out[j]).1.2.2 en.1.1 en.1.2.1 en.1.2.2=false:=hs _ p1;simp +decide (maxDischargeDepth:=200) only[go_sem,Nat.reduceBEq,eq,YI,lM,lN,d0,j0,j4,i0,p2,q2,bh,hq]
     . have d0:decide ((j:Int)<(out.length:Int))=false:=YA A0b;obtain rfl:j=k:=A0b
       simp +decide (maxDischargeDepth:=200) only[go_sem,Nat.reduceBEq,eq,d0]
    case cont=>
     clear h1 a0 w1;intro a0 w1 h1;have k0:(0:Int)<=(k:Int):=A0b
     by_cases hf:∃q0,out[k]?=some q0∧q0.1=en.1
     . obtain⟨q0,p1,hq0⟩:=hf;have hkl:k<out.length:=(iO.1 p1).1;have d0:decide ((k:Int)<(out.length:Int))=true:=Yz A0b;have p2:=A9 p1;obtain⟨M,hM,lM,tM⟩:=mI q0 (hoo _ (YB p1));rw[hM] at p2;have hq:eI (q0.1.1,q0.1.2.1,q0.1.2.2) (en.1.1,en.1.2.1,en.1.2.2)=true:=Yz hq0;refine wpIn_seq (wpIn_seq (fy hE hm [(0,.sl nl 20 (l.map bG) none),(3,.sl ((out).map bG).isEmpty 20 ((out).map bG) (some 68)),(4,.x (.int .i64 (i:Int))),(5,.x (.int .i64 (k:Int))),(47,.x (.bool true))] [] A0a A0a h1 (by simp +decide (maxDischargeDepth:=200) only[go_sem,Nat.reduceBEq,eq,YI,lM,lN,d0,k0,i0,p2,q2,Sr,hq]<;>(repeat' first|rfl|constructor)) ?_));clear h1 a0 w1;intro a0 w1 h1;have hc:a0.eval (.tmp 47)= .bool true:=h1.val A0i;refine wpIn_cond_true hc (wpIn_seq (wpIn_region ?_))
       have hem:(out.map bG).isEmpty=false:=by cases out with
        |nil=>simp at hkl
        |cons x r=>rfl
       rw[hem] at h1;refine NP hE 0 6 [(0,.sl nl 20 (l.map bG) none),(3,.sl false 20 (out.map bG) (some 68)),(4,.x (.int .i64 (i:Int))),(48,.sl false 20 (out.map bG) (some 68)),(49,.x (.int .i64 (k:Int))),(53,bG en)] [] [6,7] A0c A0a A0a h1 (by rw[hN];simp +decide (maxDischargeDepth:=200) only[go_sem,Nat.reduceBEq,eq,YI,lN,tN,k0,i0,q2]<;>(repeat' first|rfl|constructor)) ?_;clear h1 hc a0 w1;intro a0 w1 h1;have hrl:(bG en).cells=(fD en).map V.x:=by simp[bG,fD,V.cells]
       have hx53:a0.tmps.getD 53 Go.undef= .agg (fD en).toArray:=by obtain⟨m1,O,gs,z1,_⟩:=h1;obtain⟨b1,β,hrel⟩:=z1.rel;exact((hrel.tmps 53:Rs m1 w1 β _ (bG en)).rd rfl).val_is (LL en)
       obtain⟨g,cap,w2,hall3,⟨hz1,hz2,hz3⟩,hst,hfin⟩:=C1 hMB (fun _=>rfl) hE A0c h1 rfl (d:=3) (tok:=68) (es:=out.map bG) A0i (t:=49) xj A0c (k:=k) (by rw[eq];exact hkl) (xs:=fD en) (by simp[fD,hoke.1]) (fun v hv=>by
        simp only[fD,YT] at hv;rcases hv with rfl|rfl|rfl|hv
        . rfl
        . rfl
        . rfl
        . exact mQ (m:=m) (w:=w) (.x v) (hoke.2 v hv)) (x:= .agg (fD en).toArray) rfl (fun u hu=>by
        obtain⟨e,_,rfl⟩:=YR.1 hu;exact⟨fD e,by simp[bG,fD,V.cells]⟩) (u:=bG en) hrl
       have h48:=hall3 48 A0i;have h33:=hall3 3 A0i;have h49:a0.tmps.getD 49 Go.undef= .int .i64 (k:Int):=h1.val A0i;have h44:a0.tmps.getD 4 Go.undef= .int .i64 (i:Int):=h1.val A0i;have h00:a0.tmps.getD 0 Go.undef=v0:=(h1.sight 0 rfl).trans ht0;have hput:∀(v:Value) (j:Nat),j≠54->(a0.put (some 54) v).tmps.getD j Go.undef=a0.tmps.getD j Go.undef:=fun v j hj=>by rw[show(a0.put (some 54) v).tmps=a0.tmps.setIfInBounds 54 v from rfl,bu _ _ _ _ (by rw[hz1];decide),YL hj]
       refine GL (v:= .pointer (some ⟨g,((k:Nat):Int).toNat*20,none⟩)) (w':=w1) rfl A0R rfl rfl (yh (sz:=20) rfl Tryz.underlying22 xj h48 h49 k0 A0v) ?_;rw[tl];refine C0 (w':=w2) rfl A0R rfl rfl ?_ ?_
       . have e1:(a0.put (some 54) (.pointer (some ⟨g,k*20,none⟩))).eval (.tmp 53)= .agg (fD en).toArray:=(hput _ 53 A0c).trans hx53;have e2:(a0.put (some 54) (.pointer (some ⟨g,k*20,none⟩))).eval (.tmp 54)= .pointer (some ⟨g,k*20,none⟩):=by show(a0.tmps.setIfInBounds 54 _).getD 54 Go.undef=_;rw[bu _ _ _ _ (by rw[hz1];decide),YG rfl]
         simp only[execOp,e1,e2,Sem.run_bind,hst,Result.andThen_ok,Sem.run_pure]
       . refine(show Code.wpIn _ _ _ (Code.exit 1) _ _ _ from wpIn_exit ⟨.inr rfl,?_⟩);have e5:bO js (l.take (i+1))=out.set k en:=by rw[e3];exact LK hb p1 hq0 en rfl
         have e6:((out.set k en).map bG).isEmpty=false:=by
          cases hh:out.set k en with
          |nil=>have:=aap List.length hh;rw[Za] at this;rw[ZJ.1 this] at hkl;simp at hkl
          |cons x r=>rfl
         rw[e5,e6,aaR];refine hfin _ _ 3 68 (by simp[Act.put,hz1]) hz2 (hz3.put (fun j hj=>by cases hj;rfl)) ((hput _ 3 A0c).trans h33) (fun _=>rfl) A0i (fun j hj=>?_);by_cases j0:j=0
         . subst j0;refine .inr (.inr ⟨?_,rfl⟩);rw[hput _ 0 A0c,h00];exact hrd0
         . by_cases j4:j=4
           . subst j4;exact .inr (.inl ⟨_,rfl,(hput _ 4 A0c).trans h44⟩)
           . left;simp only[au,cJ,aE];rw[YL j0,YL hj,YL j4]
     . have hne:∀q,out[k]?=some q->q.1≠en.1:=fun q h e=>hf ⟨q,h,e⟩
       have e5:bO js (l.take (i+1))=(out.take k++[en])++out.drop k:=by rw[e3];exact LJ hk hb hs hne en rfl
       refine wpIn_seq (fy hE hm [(0,.sl nl 20 (l.map bG) none),(3,.sl ((out).map bG).isEmpty 20 ((out).map bG) (some 68)),(4,.x (.int .i64 (i:Int))),(5,.x (.int .i64 (k:Int)))] [] A0a A0a h1 ?run8 ?cont8)
       case run8=>
        by_cases hkl:k<out.length
        . have d0:decide ((k:Int)<(out.length:Int))=true:=Yz A0b;have p1:out[k]?=some out[k]:=io hkl;have p2:=A9 p1;obtain⟨M,hM,lM,tM⟩:=mI out[k] (hoo _ (Y5 hkl));rw[hM] at p2;have hq:eI ((out[k]).1.1,(out[k]).1.2.1,(out[k]).1.2.2) (en.1.1,en.1.2.1,en.1.2.2)=false:=YA (hne _ p1);simp +decide (maxDischargeDepth:=200) only[go_sem,Nat.reduceBEq,eq,YI,lM,lN,d0,k0,i0,p2,q2,Sr,hq]<;>(repeat' first|rfl|constructor)
        . have d0:decide ((k:Int)<(out.length:Int))=false:=YA A0b;simp +decide (maxDischargeDepth:=200) only[go_sem,Nat.reduceBEq,eq,d0]<;>(repeat' first|rfl|constructor)
       case cont8=>
        clear h1 a0 w1;intro a0 w1 h1;replace h1:=(h1.bareS (d:=3) A0c (nl:=(out.map bG).isEmpty) (z:=20) (es:=out.map bG) (tok:=some 68) A0i).le (st':=au [(0,.sl nl 20 (l.map bG) none),(3,.sl (out.map bG).isEmpty 20 (out.map bG) none),(4,.x (.int .i64 (i:Int))),(5,.x (.int .i64 (k:Int)))] []) (aJ A0f A0f);have e6:(((out.take k++[en])++out.drop k).map bG).isEmpty=false:=by cases out.take k<;>rfl
        refine fy hE hm [(0,.sl nl 20 (l.map bG) none),(3,.sl false 20 (((out.take k++[en])++out.drop k).map bG) (some 68)),(4,.x (.int .i64 (i:Int)))] [] A0a A0a h1 ?run10 ?cont10
        case run10=>
         have hk1:(k:Int)<=(((out.map bG).length:Nat):Int):=A0v
         have g1:∀(st:St),bq (aV [(42,bh)] (fun _=>false) [] (fun _=>false) (fun i=>i==10)) st (some 58) 49 (.sl true 0 [] none) (.sl (out.map bG).isEmpty 20 ((out.take k).map bG) none)=_:=fun st=>Iv (E:=(aV [(42,bh)] (fun _=>false) [] (fun _=>false) (fun i=>i==10))) rfl (b:=out.take k) A0A (fun e he=>hoo e (abh he)) st 58 0 20 _ none (.inl rfl)
         have g2:∀(st:St) (tok:Nat),bq (aV [(42,bh)] (fun _=>false) [] (fun _=>false) (fun i=>i==10)) st (some 64) 49 (.sl ((out.take k).map bG).isEmpty 20 ((out.take k).map bG) (some tok)) (.sl false 20 [bG en] none)=_:=fun st tok=>Iw (E:=(aV [(42,bh)] (fun _=>false) [] (fun _=>false) (fun i=>i==10))) rfl (a:=out.take k) (e:=en) A0A hoke st 64 tok false none
         have g3:∀(st:St) (tok:Nat),bq (aV [(42,bh)] (fun _=>false) [] (fun _=>false) (fun i=>i==10)) st (some 68) 49 (.sl false 20 ((out.take k++[en]).map bG) (some tok)) (.sl (out.map bG).isEmpty 20 ((out.drop k).map bG) none)=_:=fun st tok=>LI (E:=(aV [(42,bh)] (fun _=>false) [] (fun _=>false) (fun i=>i==10))) rfl (a:=out.take k++[en]) (b:=out.drop k) A0C (fun e he=>hoo e (abg he)) st 68 tok 20 _ none (.inl rfl)
         rw[hN] at g2;simp +decide (maxDischargeDepth:=200) only[go_sem,Nat.reduceBEq,eq];generalize ((out.take k++[en])++out.drop k).map bG=w3 at g3⊢;generalize (out.take k++[en]).map bG=w2 at g2 g3⊢;have pl:List.take ((k:Int).toNat-0) (out.map bG)=(out.take k).map bG:=Ix;have pr:List.take ((((out.map bG).length:Nat):Int).toNat-(k:Int).toNat) (List.drop (k:Int).toNat (out.map bG))=(out.drop k).map bG:=Iy;generalize (out.take k).map bG=w1 at g1 g2 pl⊢;generalize (out.drop k).map bG=w4 at g3 pr⊢;generalize out.map bG=w0 at g1 g3 pl pr hk1⊢;generalize l.map bG=wl at q2⊢;refine iU [(0,0,0,.sl nl 20 wl none),(0,16384,3,.sl w0.isEmpty 20 (w0) none),(0,0,4,.x (.int .i64 (i:Int))),(0,0,5,.x (.int .i64 (k:Int))),(1,0,55,.sl w0.isEmpty 20 (w0) none),(2,0,56,.x (.int .i64 (k:Int))),(4,0,57,.sl w0.isEmpty 20 (w1) none),(8,512,58,.sl w1.isEmpty 20 w1 (some 58)),(16,0,59,.sl nl 20 wl none),(32,0,60,.x (.int .i64 (i:Int))),(64,0,61,.ip (.x (.string en.1.1):: .x (.int .i64 en.1.2.1):: .x (.int .i64 en.1.2.2)::N)),(128,0,62,.agg (.x (.string en.1.1):: .x (.int .i64 en.1.2.1):: .x (.int .i64 en.1.2.2)::N)),(256,0,63,.sl false 20 [.agg (.x (.string en.1.1):: .x (.int .i64 en.1.2.1):: .x (.int .i64 en.1.2.2)::N)] none),(512,8192,64,.sl false 20 (w2) (some 64)),(1024,0,65,.sl w0.isEmpty 20 (w0) none),(2048,0,66,.x (.int .i64 (k:Int))),(4096,0,67,.sl w0.isEmpty 20 (w4) none),(8192,16384,68,.sl false 20 w3 (some 68)),(16384,0,3,.sl false 20 w3 (some 68))] [] [(0,0,1),(0,1,2),(0,4,16),(0,5,32),(0,10,1024),(0,11,2048),(1,1,3),(1,4,17),(1,5,33),(1,10,1025),(1,11,2049),(2,0,3),(2,4,18),(2,5,34),(2,10,1026),(2,11,2050),(16,0,17),(16,1,18),(16,5,48),(16,10,1040),(16,11,2064),(32,0,33),(32,1,34),(32,4,48),(32,10,1056),(32,11,2080),(1024,0,1025),(1024,1,1026),(1024,4,1040),(1024,5,1056),(1024,11,3072),(2048,0,2049),(2048,1,2050),(2048,4,2064),(2048,5,2080),(2048,10,3072),(3,2,7),(3,4,19),(3,5,35),(3,10,1027),(3,11,2051),(17,1,19),(17,5,49),(17,10,1041),(17,11,2065),(33,1,35),(33,4,49),(33,10,1057),(33,11,2081),(1025,1,1027),(1025,4,1041),(1025,5,1057),(1025,11,3073),(2049,1,2051),(2049,4,2065),(2049,5,2081),(2049,10,3073),(18,0,19),(18,5,50),(18,10,1042),(18,11,2066),(34,0,35),(34,4,50),(34,10,1058),(34,11,2082),(1026,0,1027),(1026,4,1042),(1026,5,1058),(1026,11,3074),(2050,0,2051),(2050,4,2066),(2050,5,2082),(2050,10,3074),(48,0,49),(48,1,50),(48,6,112),(48,10,1072),(48,11,2096),(1040,0,1041),(1040,1,1042),(1040,5,1072),(1040,11,3088),(2064,0,2065),(2064,1,2066),(2064,5,2096),(2064,10,3088),(1056,0,1057),(1056,1,1058),(1056,4,1072),(1056,11,3104),(2080,0,2081),(2080,1,2082),(2080,4,2096),(2080,10,3104),(3072,0,3073),(3072,1,3074),(3072,4,3088),(3072,5,3104),(3072,12,7168),(7,3,15),(7,4,23),(7,5,39),(7,10,1031),(7,11,2055),(19,2,23),(19,5,51),(19,10,1043),(19,11,2067),(35,2,39),(35,4,51),(35,10,1059),(35,11,2083),(1027,2,1031),(1027,4,1043),(1027,5,1059),(1027,11,3075),(2051,2,2055),(2051,4,2067),(2051,5,2083),(2051,10,3075),(49,1,51),(49,6,113),(49,10,1073),(49,11,2097),(1041,1,1043),(1041,5,1073),(1041,11,3089),(2065,1,2067),(2065,5,2097),(2065,10,3089),(1057,1,1059),(1057,4,1073),(1057,11,3105),(2081,1,2083),(2081,4,2097),(2081,10,3105),(3073,1,3075),(3073,4,3089),(3073,5,3105),(3073,12,7169),(50,0,51),(50,6,114),(50,10,1074),(50,11,2098),(1042,0,1043),(1042,5,1074),(1042,11,3090),(2066,0,2067),(2066,5,2098),(2066,10,3090),(1058,0,1059),(1058,4,1074),(1058,11,3106),(2082,0,2083),(2082,4,2098),(2082,10,3106),(3074,0,3075),(3074,4,3090),(3074,5,3106),(3074,12,7170),(112,0,113),(112,1,114),(112,7,240),(112,10,1136),(112,11,2160),(1072,0,1073),(1072,1,1074),(1072,6,1136),(1072,11,3120),(2096,0,2097),(2096,1,2098),(2096,6,2160),(2096,10,3120),(3088,0,3089),(3088,1,3090),(3088,5,3120),(3088,12,7184),(3104,0,3105),(3104,1,3106),(3104,4,3120),(3104,12,7200),(7168,0,7169),(7168,1,7170),(7168,4,7184),(7168,5,7200),(15,4,31),(15,5,47),(15,10,1039),(15,11,2063),(23,3,31),(23,5,55),(23,10,1047),(23,11,2071),(39,3,47),(39,4,55),(39,10,1063),(39,11,2087),(1031,3,1039),(1031,4,1047),(1031,5,1063),(1031,11,3079),(2055,3,2063),(2055,4,2071),(2055,5,2087),(2055,10,3079),(51,2,55),(51,6,115),(51,10,1075),(51,11,2099),(1043,2,1047),(1043,5,1075),(1043,11,3091),(2067,2,2071),(2067,5,2099),(2067,10,3091),(1059,2,1063),(1059,4,1075),(1059,11,3107),(2083,2,2087),(2083,4,2099),(2083,10,3107),(3075,2,3079),(3075,4,3091),(3075,5,3107),(3075,12,7171),(113,1,115),(113,7,241),(113,10,1137),(113,11,2161),(1073,1,1075),(1073,6,1137),(1073,11,3121),(2097,1,2099),(2097,6,2161),(2097,10,3121),(3089,1,3091),(3089,5,3121),(3089,12,7185),(3105,1,3107),(3105,4,3121),(3105,12,7201),(7169,1,7171),(7169,4,7185),(7169,5,7201),(114,0,115),(114,7,242),(114,10,1138),(114,11,2162),(1074,0,1075),(1074,6,1138),(1074,11,3122),(2098,0,2099),(2098,6,2162),(2098,10,3122),(3090,0,3091),(3090,5,3122),(3090,12,7186),(3106,0,3107),(3106,4,3122),(3106,12,7202),(7170,0,7171),(7170,4,7186),(7170,5,7202),(240,0,241),(240,1,242),(240,8,496),(240,10,1264),(240,11,2288),(1136,0,1137),(1136,1,1138),(1136,7,1264),(1136,11,3184),(2160,0,2161),(2160,1,2162),(2160,7,2288),(2160,10,3184),(3120,0,3121),(3120,1,3122),(3120,6,3184),(3120,12,7216),(7184,0,7185),(7184,1,7186),(7184,5,7216),(7200,0,7201),(7200,1,7202),(7200,4,7216),(31,5,63),(31,10,1055),(31,11,2079),(47,4,63),(47,10,1071),(47,11,2095),(1039,4,1055),(1039,5,1071),(1039,11,3087),(2063,4,2079),(2063,5,2095),(2063,10,3087),(55,3,63),(55,6,119),(55,10,1079),(55,11,2103),(1047,3,1055),(1047,5,1079),(1047,11,3095),(2071,3,2079),(2071,5,2103),(2071,10,3095),(1063,3,1071),(1063,4,1079),(1063,11,3111),(2087,3,2095),(2087,4,2103),(2087,10,3111),(3079,3,3087),(3079,4,3095),(3079,5,3111),(3079,12,7175),(115,2,119),(115,7,243),(115,10,1139),(115,11,2163),(1075,2,1079),(1075,6,1139),(1075,11,3123),(2099,2,2103),(2099,6,2163),(2099,10,3123),(3091,2,3095),(3091,5,3123),(3091,12,7187),(3107,2,3111),(3107,4,3123),(3107,12,7203),(7171,2,7175),(7171,4,7187),(7171,5,7203),(241,1,243),(241,8,497),(241,10,1265),(241,11,2289),(1137,1,1139),(1137,7,1265),(1137,11,3185),(2161,1,2163),(2161,7,2289),(2161,10,3185),(3121,1,3123),(3121,6,3185),(3121,12,7217),(7185,1,7187),(7185,5,7217),(7201,1,7203),(7201,4,7217),(242,0,243),(242,8,498),(242,10,1266),(242,11,2290),(1138,0,1139),(1138,7,1266),(1138,11,3186),(2162,0,2163),(2162,7,2290),(2162,10,3186),(3122,0,3123),(3122,6,3186),(3122,12,7218),(7186,0,7187),(7186,5,7218),(7202,0,7203),(7202,4,7218),(496,0,497),(496,1,498),(496,10,1520),(496,11,2544),(1264,0,1265),(1264,1,1266),(1264,8,1520),(1264,11,3312),(2288,0,2289),(2288,1,2290),(2288,8,2544),(2288,10,3312),(3184,0,3185),(3184,1,3186),(3184,7,3312),(3184,12,7280),(7216,0,7217),(7216,1,7218),(7216,6,7280),(63,6,127),(63,10,1087),(63,11,2111),(1055,5,1087),(1055,11,3103),(2079,5,2111),(2079,10,3103),(1071,4,1087),(1071,11,3119),(2095,4,2111),(2095,10,3119),(3087,4,3103),(3087,5,3119),(3087,12,7183),(119,3,127),(119,7,247),(119,10,1143),(119,11,2167),(1079,3,1087),(1079,6,1143),(1079,11,3127),(2103,3,2111),(2103,6,2167),(2103,10,3127),(3095,3,3103),(3095,5,3127),(3095,12,7191),(3111,3,3119),(3111,4,3127),(3111,12,7207),(7175,3,7183),(7175,4,7191),(7175,5,7207),(243,2,247),(243,8,499),(243,10,1267),(243,11,2291),(1139,2,1143),(1139,7,1267),(1139,11,3187),(2163,2,2167),(2163,7,2291),(2163,10,3187),(3123,2,3127),(3123,6,3187),(3123,12,7219),(7187,2,7191),(7187,5,7219),(7203,2,7207),(7203,4,7219),(497,1,499),(497,10,1521),(497,11,2545),(1265,1,1267),(1265,8,1521),(1265,11,3313),(2289,1,2291),(2289,8,2545),(2289,10,3313),(3185,1,3187),(3185,7,3313),(3185,12,7281),(7217,1,7219),(7217,6,7281),(498,0,499),(498,10,1522),(498,11,2546),(1266,0,1267),(1266,8,1522),(1266,11,3314),(2290,0,2291),(2290,8,2546),(2290,10,3314),(3186,0,3187),(3186,7,3314),(3186,12,7282),(7218,0,7219),(7218,6,7282),(1520,0,1521),(1520,1,1522),(1520,11,3568),(2544,0,2545),(2544,1,2546),(2544,10,3568),(3312,0,3313),(3312,1,3314),(3312,8,3568),(3312,12,7408),(7280,0,7281),(7280,1,7282),(7280,7,7408),(127,7,255),(127,10,1151),(127,11,2175),(1087,6,1151),(1087,11,3135),(2111,6,2175),(2111,10,3135),(3103,5,3135),(3103,12,7199),(3119,4,3135),(3119,12,7215),(7183,4,7199),(7183,5,7215),(247,3,255),(247,8,503),(247,10,1271),(247,11,2295),(1143,3,1151),(1143,7,1271),(1143,11,3191),(2167,3,2175),(2167,7,2295),(2167,10,3191),(3127,3,3135),(3127,6,3191),(3127,12,7223),(7191,3,7199),(7191,5,7223),(7207,3,7215),(7207,4,7223),(499,2,503),(499,10,1523),(499,11,2547),(1267,2,1271),(1267,8,1523),(1267,11,3315),(2291,2,2295),(2291,8,2547),(2291,10,3315),(3187,2,3191),(3187,7,3315),(3187,12,7283),(7219,2,7223),(7219,6,7283),(1521,1,1523),(1521,11,3569),(2545,1,2547),(2545,10,3569),(3313,1,3315),(3313,8,3569),(3313,12,7409),(7281,1,7283),(7281,7,7409),(1522,0,1523),(1522,11,3570),(2546,0,2547),(2546,10,3570),(3314,0,3315),(3314,8,3570),(3314,12,7410),(7282,0,7283),(7282,7,7410),(3568,0,3569),(3568,1,3570),(3568,12,7664),(7408,0,7409),(7408,1,7410),(7408,8,7664),(255,8,511),(255,10,1279),(255,11,2303),(1151,7,1279),(1151,11,3199),(2175,7,2303),(2175,10,3199),(3135,6,3199),(3135,12,7231),(7199,5,7231),(7215,4,7231),(503,3,511),(503,10,1527),(503,11,2551),(1271,3,1279),(1271,8,1527),(1271,11,3319),(2295,3,2303),(2295,8,2551),(2295,10,3319),(3191,3,3199),(3191,7,3319),(3191,12,7287),(7223,3,7231),(7223,6,7287),(1523,2,1527),(1523,11,3571),(2547,2,2551),(2547,10,3571),(3315,2,3319),(3315,8,3571),(3315,12,7411),(7283,2,7287),(7283,7,7411),(3569,1,3571),(3569,12,7665),(7409,1,7411),(7409,8,7665),(3570,0,3571),(3570,12,7666),(7410,0,7411),(7410,8,7666),(7664,0,7665),(7664,1,7666),(511,9,1023),(511,10,1535),(511,11,2559),(1279,8,1535),(1279,11,3327),(2303,8,2559),(2303,10,3327),(3199,7,3327),(3199,12,7295),(7231,6,7295),(1527,3,1535),(1527,11,3575),(2551,3,2559),(2551,10,3575),(3319,3,3327),(3319,8,3575),(3319,12,7415),(7287,3,7295),(7287,7,7415),(3571,2,3575),(3571,12,7667),(7411,2,7415),(7411,8,7667),(7665,1,7667),(7666,0,7667),(1023,10,2047),(1023,11,3071),(1535,9,2047),(1535,11,3583),(2559,9,3071),(2559,10,3583),(3327,8,3583),(3327,12,7423),(7295,7,7423),(3575,3,3583),(3575,12,7671),(7415,3,7423),(7415,8,7671),(7667,2,7671),(2047,11,4095),(3071,10,4095),(3583,9,4095),(3583,12,7679),(7423,8,7679),(7671,3,7679),(4095,12,8191),(7679,9,8191),(8191,13,16383),(16383,14,32767)] 32767 A0a A0a ?_ ?_ ?_
         . simp +decide (maxDischargeDepth:=200) only[go_sem,Nat.reduceBEq,eq]
         . simp +decide (maxDischargeDepth:=200) (maxSteps:=100000000) only[go_sem,Nat.reduceBEq,YI,lN,tN,pl,pr,g1,g2,g3,i0,k0,hk1,q2]
         . simp +decide (maxDischargeDepth:=200) only[go_sem,Nat.reduceBEq,eq]<;>(repeat' first|rfl|constructor)
        case cont10=>clear h1 a0 w1;intro a0 w1 h1;refine⟨.inl rfl,?_⟩;rw[e5,e6];exact h1
 . have c1:decide ((i:Int)<(l.length:Int))=false:=YA A0b;have e:l.take i=l:=YS A0b;rw[e] at h1;refine wpIn_seq (NN hE hm 0 [(0,.sl nl sz (l.map bG) none),(3,.sl ((bO js l).map bG).isEmpty 20 ((bO js l).map bG) (some 68))] [] A0a A0a h1 A0N ?_);clear h1 a0 w1;intro a0 w1 h1;simp only[Exit.inBlock,Exit.then,YX];refine NO hE hm [(2,.sl ((bO js l).map bG).isEmpty 20 ((bO js l).map bG) (some 68))] [] A0a A0a h1 A0f ?_;clear h1 a0 w1;intro a0 w1 h1;refine⟨.inr rfl,_,_,_,_,h1,rfl,rfl,by simp +decide (maxDischargeDepth:=200) only[go_sem,Nat.reduceBEq,eq]<;>rfl,fun v m' gs k1 _ _ k4 _ _=>⟨m',k1,k4⟩⟩
variable {v:Value}
theorem Om {u:V} (h:Rd m w v u) (hu:u.cell=true):(V.x v).cell=true:=by
 cases h with
 |undef v=>simp[V.cell] at hu
 |x v=>exact hu
 |agg cs Cs hl h=>simp[V.cell] at hu
 |tup cs Cs hl h=>simp[V.cell] at hu
 |nil sz tok=>rfl
 |emp a cap sz=>rfl
 |dyn t v=>rfl
 |sl blk off cap sz es tok c hb hcap hsz hc hm hr=>rfl
 |ip blk off cs c hb hc hm hr=>rfl
 |fm blk ks vs ents clock hb hh hm hk hv hkey hbn hd hr=>rfl
abbrev ER:={p:En×RE//p.2.1=p.1.1}
def Oz (p:ER):C3:=p.1.1.1
def Both (m:Lim) (w:World) (p:ER):Prop:=vW p.1.2∧∀(j:Nat) (x:Value) (d:V),(fD p.1.2)[j]?=some x->(cj p.1.1).cells[j]?=some d->Rd m w x d
theorem Both.mono {m':Lim} {w':World} (he:Ext m w m' w') {p:ER} (h:Both m w p):Both m' w' p:=⟨h.1,fun j x d h1 h2=>(h.2 j x d h1 h2).mono he⟩
theorem oL (e:En):(cj e).cells.length=20:=rfl
theorem On (e:En):(cj e).cells.all V.cell=true:=by obtain⟨c,b,n,v⟩:=e;cases n<;>rfl
theorem LN {l:List En} (h:Rd m w v (.sl nl sz (l.map cj) none)):∃Z:List ER,Z.map (fun p=>p.1.1)=l∧(∀p∈Z,Both m w p)∧Rd m w v (.sl nl sz ((Z.map fun p=>p.1.2).map bG) none):=by
 generalize hes:l.map cj=es at h;cases h with
 | nil sz tok=>
   have hl:l=[]:=by
    cases l with
    |nil=>rfl
    |cons a l=>cases hes
   exact⟨[],hl.symm,fun _ h=>A0S,.nil sz none⟩
 | emp a cap sz=>
   have hl:l=[]:=by
    cases l with
    |nil=>rfl
    |cons a l=>cases hes
   exact⟨[],hl.symm,fun _ h=>A0S,.emp a cap sz⟩
 | sl blk off cap sz es tok c hb hcap hsz hcell hm hr=>
   let f:Nat×En->ER:=fun q=>⟨(q.2,(q.2.1,(List.range 17).map fun j=>c (q.1*sz+(3+j)))),rfl⟩
   have hat:∀i e,l[i]?=some e->es[i]?=some (cj e):=fun i e h=>by rw[<-hes,Io,h];rfl
   have hcs:∀i e,l[i]?=some e->∀(j:Nat) (d:V),(cj e).cells[j]?=some d->Rd m w (c (i*sz+j)) d:=fun i e h j d hd=>hr i _ (hat i e h) j d hd
   have hraw:∀i e,l[i]?=some e->∀j,j<20->(fD (f (i,e)).1.2)[j]?=some (c (i*sz+j)):=by
    intro i e h j hj;have h0:=Rd.x_iff.1 (hcs i e h 0 (.x (.string e.1.1)) rfl);have h1:=Rd.x_iff.1 (hcs i e h 1 (.x (.int .i64 e.1.2.1)) rfl);have h2:=Rd.x_iff.1 (hcs i e h 2 (.x (.int .i64 e.1.2.2)) rfl)
    match j,hj with
    |0,_=>show some (Value.string e.1.1)=_;rw[h0]
    |1,_=>show some (Value.int .i64 e.1.2.1)=_;rw[h1]
    |2,_=>show some (Value.int .i64 e.1.2.2)=_;rw[h2]
    |j+3,hj=>show((List.range 17).map fun j=>c (i*sz+(3+j)))[j]?=_;rw[Io,ZP A0b,Zk,Nat.add_comm 3 j]
   have hlz:((List.range l.length).zip l).map (fun q=>q.2)=l:=List.map_snd_zip A0j;have hmem:∀q∈(List.range l.length).zip l,l[q.1]?=some q.2:=fun q hq=>by obtain⟨t,ht⟩:=ZW hq;rw[abl] at ht;have h1:=(iO.1 ht.1).1;rw[aaV] at h1;rw[ZP h1] at ht;rw[<-aaK ht.1];exact ht.2
   refine⟨((List.range l.length).zip l).map f,by rw[ZT];exact hlz,fun p hp=>?_,?_⟩
   . obtain⟨q,hq,rfl⟩:=YR.1 hp;have hq':=hmem q hq;refine⟨⟨by simp[f],fun v hv=>?_⟩,fun j x d hx hd=>?_⟩
     . obtain⟨j,hj,rfl⟩:=YR.1 hv;have hj:=Ze.1 hj;have hd:(cj q.2).cells[3+j]?=some ((cj q.2).cells[3+j]'(by rw[oL];omega)):=io _;exact Om (hcs q.1 q.2 hq' (3+j) _ hd) (YK.1 (On q.2) _ (YB hd))
     . have hj:j<20:=by have:=(iO.1 hd).1;rwa [oL] at this
       rw[hraw q.1 q.2 hq' j hj] at hx;cases hx;exact hcs q.1 q.2 hq' j d hd
   . have hl1:es.length=l.length:=by rw[<-hes,eq]
     have hl2:(((((List.range l.length).zip l).map f).map fun p=>p.1.2).map bG).length=es.length:=by rw[eq,eq,eq,List.length_zip,aaV,hl1,Nat.min_self]
     have hre:∀(i:Nat) (e':V),(((((List.range l.length).zip l).map f).map fun p=>p.1.2).map bG)[i]?=some e'->∃e,l[i]?=some e∧e'=bG (f (i,e)).1.2:=fun i e' hi=>by simp only[Io,YE] at hi;obtain⟨_,⟨_,⟨q,hq,rfl⟩,rfl⟩,rfl⟩:=hi;rw[abl] at hq;have h1:=(iO.1 hq.1).1;rw[aaV] at h1;rw[ZP h1] at hq;obtain⟨i',e⟩:=q;cases hq.1;exact⟨e,hq.2,rfl⟩
     have hsz20:∀i e,l[i]?=some e->sz=20:=fun i e h=>by rw[<-hsz i _ (hat i e h)];exact oL e
     have hrl:∀q:Nat×En,(bG (f q).1.2).cells.length=20:=fun q=>by simp[bG,V.cells,f]
     have:=Rd.sl (m:=m) (w:=w) blk off cap sz (((((List.range l.length).zip l).map f).map fun p=>p.1.2).map bG) none c hb (by rw[hl2];exact hcap) (fun i e' hi=>by
      obtain⟨e,he,rfl⟩:=hre i e' hi;rw[hrl,hsz20 i e he]) (fun k hk=>hcell k (by rwa [hl2] at hk)) (fun fr hf=>by rw[hl2];exact hm fr hf) (fun i e' hi j d hd=>by
      obtain⟨e,he,rfl⟩:=hre i e' hi;have hj:j<20:=by have:=(iO.1 hd).1;rwa [hrl] at this
      have hx:=hraw i e he j hj;have hd2:(bG (f (i,e)).1.2).cells=(fD (f (i,e)).1.2).map V.x:=by simp[bG,fD,V.cells]
      rw[hd2,Io,hx] at hd;cases hd;exact .x _)
     rwa [hl2] at this
theorem DZ {Z:List ER} (h:Rd m w v (.sl nl 20 ((Z.map fun p=>p.1.2).map bG) none)) (hz:∀p∈Z,Both m w p):Rd m w v (.sl nl 20 ((Z.map fun p=>p.1.1).map cj) none):=by
 generalize hes:(Z.map fun p=>p.1.2).map bG=es at h;have hl:((Z.map fun p=>p.1.1).map cj).length=es.length:=by rw[<-hes];simp
 cases h with
 |nil sz tok=>rw[ZJ.1 hl];exact .nil _ none
 |emp a cap sz=>rw[ZJ.1 hl];exact .emp a cap _
 | sl blk off cap sz es tok c hb hcap hsz hcell hm hr=>
   have:=Rd.sl (m:=m) (w:=w) blk off cap 20 ((Z.map fun p=>p.1.1).map cj) none c hb (by rw[hl];exact hcap) (fun i e' hi=>by
    rw[Io,YE] at hi;obtain⟨e,_,rfl⟩:=hi;exact oL e) (fun k hk=>hcell k (by rwa [hl] at hk)) (fun fr hf=>by rw[hl];exact hm fr hf) (fun i e' hi j d hd=>by
    simp only[Io,YE] at hi;obtain⟨_,⟨p,hp,rfl⟩,rfl⟩:=hi;obtain⟨h1,h2⟩:=hz p (YB hp);have hj:j<20:=by have:=(iO.1 hd).1;rwa [oL] at this
    have hx:(fD p.1.2)[j]?=some ((fD p.1.2)[j]'(by simp[fD,h1.1];omega)):=io _;have hd2:(bG p.1.2).cells[j]?=some (.x ((fD p.1.2)[j]'(by simp[fD,h1.1];omega))):=by rw[show(bG p.1.2).cells=(fD p.1.2).map V.x by simp[bG,fD,V.cells],Io,hx];rfl
    have:=hr i (bG p.1.2) (by rw[<-hes,Io,Io,hp];rfl) j _ hd2;rw[Rd.x_iff.1 this];exact h2 j _ d hx hd)
   rwa [hl] at this
theorem Iz:cM 27 (FE ct l9):=by
 refine⟨fun a w=>Tryz.call27 a w,fun m w vs us r hF hdat hr hj hg=>?_⟩;obtain⟨⟨nl,sz,l⟩,hus,hG⟩:=bE hF;clear hF;subst hus;unfold l9 at hG;split at hG
 case isFalse=>cases hG
 rename_i hok;cases hG;clear hdat;obtain⟨hsz,hl4,_⟩:=hok;simp only at hsz hl4;obtain⟨vl⟩:=vs;cases vl with
 |nil=>exact hr.elim
 | cons v0 vl=>
   cases vl with
   |cons _ _=>exact hr.2.elim
   | nil=>
     obtain⟨Z,hZ,hbo,hrd⟩:=LN hr.1;simp only at hZ hrd;have hZl:Z.length=l.length:=by rw[<-hZ,eq]
     have hc:=zz (vs:= #[v0]) (l:=Z.map fun p=>p.1.2) (nl:=nl) (sz:=sz) ⟨fun hn=>hsz (by
      intro e;rw[e] at hZl;exact hn (by rw[ZJ.1 hZl];rfl)),by show(Z.map fun p=>p.1.2).length<=400;rw[eq];omega,fun e he=>by
      obtain⟨p,hp,rfl⟩:=YR.1 he;exact(hbo p hp).1⟩ ⟨hrd,trivial⟩ hj (fun g=> .undef _)
     refine hc.mono ?_;rintro e w' ⟨v,rfl,m',h1,h2⟩;have e1:(bO Oz Z).map (fun p=>p.1.2)=bO js (Z.map fun p=>p.1.2):=qr (ka:=Oz) (kb:=js) (f:=fun p:ER=>p.1.2) (fun p=>p.2) Z;have e2:(bO Oz Z).map (fun p=>p.1.1)=be l:=by rw[qr (ka:=Oz) (kb:=fun e:En=>e.1) (f:=fun p:ER=>p.1.1) (fun _=>rfl) Z,hZ];exact LH l
     rw[<-e1] at h1;have h3:=DZ h1 (fun p hp=>(hbo p (qt Oz hp)).mono h2.ext);have hem:((bO js (Z.map fun p=>p.1.2)).map bG).isEmpty=((be l).map cj).isEmpty:=by rw[<-e1,<-e2];cases bO Oz Z<;>rfl
     refine⟨v,m',rfl,?_,h2.below (fun _ _ h=>h),fun k hk=>(h2.same k hk (fun h=>h)).2⟩;show Rd m' w' v (.sl ((be l).map cj).isEmpty 20 ((be l).map cj) none);rw[<-hem,<-e2,<-e1];exact h3
theorem LO:cM 11 (FE ct ol):=Hm Iz
end Go.Proofs.YtmfojhkjbkombaaGreat
